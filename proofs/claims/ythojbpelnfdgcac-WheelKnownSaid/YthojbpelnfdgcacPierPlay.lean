/-
  Pier: wheel's function play: the loop that marks the states behind one play.
-/
import Derived.Test.YthojbpelnfdgcacPierBench
namespace Go.Pier.Play
open Go Go.Pier Go.Proofs
open Go.Pier.Bench (fst snd inn ops yes opAt callOf)

/-! ### What the rounds leave, in whatever order -/
section
variable {P : Program}
structure Fair (clock : Nat) (es : List MapEntry) : Prop where
  apart : es.Pairwise fun a b => a.born ≠ b.born
  old : ∀ e ∈ es, e.born < clock

theorem next_outs2 {H : Heap} {clock m a : Nat} {es : List MapEntry} {seen : Array Nat} (h : Fair clock es) (hi : H[a]? = some (.iter m clock seen clock)) (hm : H[m]? = some (.map es clock)) :
    aNext H (ptr a) = some (if unseen es seen = [] then [(.tuple #[.bool false], H)] else (unseen es seen).map fun e => (.tuple #[.bool true, e.key, e.val], H.set a (.iter m clock (seen.push e.born) clock))) := by
  unfold aNext ptr
  simp only [if_true, hi, hm]
  rw [if_neg]
  · congr 1
    unfold candList
    have hu : es.filter (fun e => !seen.contains e.born) = unseen es seen := rfl
    simp only [hu]
    have h1 : (unseen es seen).filter (fun e => decide (e.born < clock)) = unseen es seen := List.filter_eq_self.2 fun e he => by
      simpa using h.old e (List.mem_filter.1 he).1
    have h2 : (unseen es seen).filter (fun e => decide (e.born ≥ clock)) = [] := List.filter_eq_nil_iff.2 fun e he => by
      have := h.old e (List.mem_filter.1 he).1
      simp; omega
    rw [h1, h2]
    cases hu : unseen es seen with
    | nil => simp
    | cons x l => simp [Function.comp_def]
  · simp only [Bool.and_eq_true, not_and, Bool.not_eq_true]
    intro ⟨_, hne⟩
    cases es with
    | nil => simp at hne
    | cons x l =>
      have := h.old x List.mem_cons_self
      simp; intro hx; omega

theorem entry_own2 {H : Heap} {clock m a : Nat} {es : List MapEntry} {seen : Array Nat} (h : Fair clock es) {e : MapEntry} (he : e ∈ es) (hi : H[a]? = some (.iter m clock (seen.push e.born) clock))
    (hm : H[m]? = some (.map es clock)) : aEntry H (ptr a) = some (.tuple #[e.key, e.val]) := by
  unfold aEntry ptr
  simp only [if_true, hi, hm, Array.back?_push]
  have hf : es.find? (fun x => x.born == e.born) = some e := by
    cases hx : es.find? (fun x => x.born == e.born) with
    | none =>
      have := List.find?_eq_none.1 hx e he
      simp at this
    | some y =>
      have h1 := List.mem_of_find?_eq_some hx
      have h2 := List.find?_some hx
      rw [born_inj h.apart h1 he (by simpa using h2)]
  rw [hf]; rfl

/-- The state that an entry marks, if it marks one. -/
def hitOf (P : Program) (at' : TypeId) (ab ob N : Nat) (ats : List Value) (e : MapEntry) : Option (Option Nat) :=
  match e.key with
  | .agg cs => match cs.toList with
    | [a, b] => match aIndexAddr P at' (ptr ab) a with
      | some (.pointer (some ⟨b', x, none⟩)) => match Nat.beq b' ab && (sc1 0 a && sc1 0 b) with
        | true => match ats[x]? with
          | some (.bool false) => some none
          | some (.bool true) => match aIndexAddr P at' (ptr ob) b with
            | some (.pointer (some ⟨o', y, none⟩)) => match Nat.beq o' ob && Nat.blt y N with
              | true => some (some y)
              | false => none
            | _ => none
          | _ => none
        | false => none
      | _ => none
    | _ => none
  | _ => none

def hitB (hit : MapEntry → Option (Option Nat)) (e : MapEntry) (j : Nat) : Bool := match hit e with
  | some (some y) => Nat.beq y j
  | _ => false
def outOf (hit : MapEntry → Option (Option Nat)) (es : List MapEntry) (N : Nat) (seen : Array Nat) : List Value :=
  (List.range N).map fun j => .bool (es.any fun e => seen.contains e.born && hitB hit e j)
theorem outOf_length {hit : MapEntry → Option (Option Nat)} {es : List MapEntry} {N : Nat} {seen : Array Nat} : (outOf hit es N seen).length = N := by simp [outOf]
theorem any_push {es : List MapEntry} (hp : es.Pairwise fun a b => a.born ≠ b.born) {seen : Array Nat} {e : MapEntry} (he : e ∈ es) (q : MapEntry → Bool) :
    (es.any fun x => (seen.push e.born).contains x.born && q x) = ((es.any fun x => seen.contains x.born && q x) || q e) := by
  rw [Bool.eq_iff_iff]
  simp only [List.any_eq_true, Bool.and_eq_true, Bool.or_eq_true, Array.contains_push, beq_iff_eq]
  constructor
  · rintro ⟨x, hx, h1 | h1, h2⟩
    · exact .inl ⟨x, hx, h1, h2⟩
    · rw [born_inj hp hx he h1] at h2; exact .inr h2
  · rintro (⟨x, hx, h1, h2⟩ | h2)
    · exact ⟨x, hx, .inl h1, h2⟩
    · exact ⟨e, he, .inr rfl, h2⟩
theorem outOf_none {hit : MapEntry → Option (Option Nat)} {es : List MapEntry} (hp : es.Pairwise fun a b => a.born ≠ b.born) {N : Nat} {seen : Array Nat} {e : MapEntry} (he : e ∈ es) (h : hit e = some none) :
    outOf hit es N (seen.push e.born) = outOf hit es N seen := by
  unfold outOf
  refine List.map_congr_left fun j _ => ?_
  rw [any_push hp he]
  simp [hitB, h]
theorem outOf_some {hit : MapEntry → Option (Option Nat)} {es : List MapEntry} (hp : es.Pairwise fun a b => a.born ≠ b.born) {N : Nat} {seen : Array Nat} {e : MapEntry} (he : e ∈ es) {y : Nat} (h : hit e = some (some y)) :
    outOf hit es N (seen.push e.born) = (outOf hit es N seen).set y (.bool true) := by
  apply List.ext_getElem?
  intro j
  by_cases hj : j < N
  · by_cases hjy : y = j
    · subst hjy
      rw [List.getElem?_set_self (by rw [outOf_length]; exact hj)]
      simp only [outOf, List.getElem?_map, List.getElem?_range hj, Option.map_some]
      rw [any_push hp he]
      simp [hitB, h]
    · rw [List.getElem?_set_ne hjy]
      simp only [outOf, List.getElem?_map, List.getElem?_range hj, Option.map_some]
      rw [any_push hp he]
      have : Nat.beq y j = false := by
        cases hb : Nat.beq y j with
        | false => rfl
        | true => exact absurd (Nat.eq_of_beq_eq_true hb) hjy
      simp [hitB, h, this]
  · rw [List.getElem?_eq_none (by rw [outOf_length]; omega), List.getElem?_eq_none (by rw [List.length_set, outOf_length]; omega)]
def outAll (hit : MapEntry → Option (Option Nat)) (es : List MapEntry) (N : Nat) : List Value := (List.range N).map fun j => .bool (es.any fun e => hitB hit e j)
theorem outOf_all {hit : MapEntry → Option (Option Nat)} {es : List MapEntry} {N : Nat} {seen : Array Nat} (h : unseen es seen = []) : outOf hit es N seen = outAll hit es N := by
  unfold outOf outAll
  refine List.map_congr_left fun j _ => ?_
  congr 1
  rw [Bool.eq_iff_iff]
  simp only [List.any_eq_true, Bool.and_eq_true]
  constructor
  · rintro ⟨x, hx, _, h2⟩; exact ⟨x, hx, h2⟩
  · rintro ⟨x, hx, h2⟩
    have h1 := List.filter_eq_nil_iff.1 h x hx
    exact ⟨x, hx, by simpa using h1, h2⟩
theorem outOf_nil {hit : MapEntry → Option (Option Nat)} {es : List MapEntry} {N : Nat} : outOf hit es N #[] = List.replicate N (.bool false) := by
  unfold outOf
  apply List.ext_getElem?
  intro j
  by_cases hj : j < N
  · simp [List.getElem?_range hj, List.getElem?_replicate, hj]
  · rw [List.getElem?_eq_none (by simp; omega), List.getElem?_eq_none (by simp; omega)]

/-! ### The heap -/
def pH (H0 : Heap) (it m ob clock : Nat) (seen : Array Nat) (cs : List Value) (n : Nat) : Heap := ((H0.set it (.iter m clock seen clock)).set ob (.rw cs none)) ++ List.replicate n .gone
structure Stand (H0 : Heap) (it m ob ab clock : Nat) (es : List MapEntry) (ats : List Value) : Prop where
  hit : it < H0.length
  hob : ob < H0.length
  io : it ≠ ob
  map : H0[m]? = some (.map es clock)
  mi : m ≠ it
  mo : m ≠ ob
  box : ∃ room, H0[ab]? = some (.rw ats room)
  bi : ab ≠ it
  bo : ab ≠ ob
variable {H0 : Heap} {it m ob ab clock n : Nat} {es : List MapEntry} {seen seen2 : Array Nat} {ats cs cs2 : List Value}
theorem pH_length : (pH H0 it m ob clock seen cs n).length = H0.length + n := by simp [pH]
theorem pH_it (h : Stand H0 it m ob ab clock es ats) : (pH H0 it m ob clock seen cs n)[it]? = some (.iter m clock seen clock) := by
  unfold pH
  rw [List.getElem?_append_left (by simpa using h.hit), List.getElem?_set_ne (Ne.symm h.io), get_set_self h.hit]
theorem pH_ob (h : Stand H0 it m ob ab clock es ats) : (pH H0 it m ob clock seen cs n)[ob]? = some (.rw cs none) := by
  unfold pH
  rw [List.getElem?_append_left (by simpa using h.hob), get_set_self (by simpa using h.hob)]
theorem pH_other {b : Nat} (h1 : b < H0.length) (h2 : b ≠ it) (h3 : b ≠ ob) : (pH H0 it m ob clock seen cs n)[b]? = H0[b]? := by
  unfold pH
  rw [List.getElem?_append_left (by simpa using h1), List.getElem?_set_ne (Ne.symm h3), List.getElem?_set_ne (Ne.symm h2)]
theorem pH_m (h : Stand H0 it m ob ab clock es ats) : (pH H0 it m ob clock seen cs n)[m]? = some (.map es clock) := by
  rw [pH_other (List.getElem?_eq_some_iff.1 h.map).1 h.mi h.mo, h.map]
theorem pH_ab (h : Stand H0 it m ob ab clock es ats) : ∃ room, (pH H0 it m ob clock seen cs n)[ab]? = some (.rw ats room) := by
  obtain ⟨room, hb⟩ := h.box
  exact ⟨room, by rw [pH_other (List.getElem?_eq_some_iff.1 hb).1 h.bi h.bo, hb]⟩
theorem pH_set_it (h : Stand H0 it m ob ab clock es ats) : (pH H0 it m ob clock seen cs n).set it (.iter m clock seen2 clock) = pH H0 it m ob clock seen2 cs n := by
  unfold pH
  rw [List.set_append_left _ _ (by simpa using h.hit)]
  congr 1
  rw [List.set_comm _ _ (Ne.symm h.io)]
  simp
theorem pH_set_app (h : Stand H0 it m ob ab clock es ats) (o : AObj) : (pH H0 it m ob clock seen cs n ++ [o]).set ob (.rw cs2 none) = pH H0 it m ob clock seen cs2 n ++ [o] := by
  rw [List.set_append_left _ _ (by rw [pH_length]; have := h.hob; omega)]
  congr 1
  unfold pH
  rw [List.set_append_left _ _ (by simpa using h.hob)]
  simp
theorem pH_gone (o : AObj) : (pH H0 it m ob clock seen cs n ++ [o]).set (H0.length + n) .gone = pH H0 it m ob clock seen cs (n + 1) := by
  rw [List.set_append_right _ _ (by rw [pH_length]; omega), pH_length]
  simp only [Nat.sub_self, List.set_cons_zero]
  unfold pH
  rw [List.append_assoc, List.replicate_succ']
def pEnd (H0 : Heap) (it ob n : Nat) (cs : List Value) : Heap := ((H0.set it .gone).set ob (.rw cs none)) ++ List.replicate n .gone
theorem pH_end (h : Stand H0 it m ob ab clock es ats) : (pH H0 it m ob clock seen cs n).set it .gone = pEnd H0 it ob n cs := by
  unfold pH pEnd
  rw [List.set_append_left _ _ (by simpa using h.hit)]
  congr 1
  rw [List.set_comm _ _ (Ne.symm h.io)]
  simp
theorem pH_start (h : Stand H0 it m ob ab clock es ats) (h1 : H0[it]? = some (.iter m clock #[] clock)) (h2 : H0[ob]? = some (.rw cs none)) : pH H0 it m ob clock #[] cs 0 = H0 := by
  unfold pH
  simp only [List.replicate_zero, List.append_nil]
  apply List.ext_getElem?
  intro i
  by_cases hi : ob = i
  · subst hi; rw [get_set_self (by simpa using h.hob), h2]
  · rw [List.getElem?_set_ne hi]
    by_cases hj : it = i
    · subst hj; rw [get_set_self h.hit, h1]
    · rw [List.getElem?_set_ne hj]
end

noncomputable def fn := Try.f109
noncomputable def body : Code := fn.body.getD .skip
noncomputable def R0 := fst body
noncomputable def R1 := fst (snd body)
noncomputable def A2 := fst (snd (snd body))
noncomputable def R2 := fst A2
noncomputable def R7 := fst (snd (snd (snd body)))
noncomputable def round := inn (inn (snd A2))
noncomputable def ops3 := ops (fst round)
noncomputable def inner := inn (snd (snd round))
noncomputable def ops4 := ops (fst inner)
noncomputable def ops5 := ops (fst (snd inner))
noncomputable def ops6 := ops (yes (snd (snd inner)))
noncomputable def ops7 := ops R7
theorem r3 : List.range ops3.size = [0, 1] := by kernel_rfl
theorem r4 : List.range ops4.size = [0, 1, 2, 3] := by kernel_rfl
theorem r5 : List.range ops5.size = [0, 1, 2, 3] := by kernel_rfl
theorem r6 : List.range ops6.size = [0, 1, 2, 3] := by kernel_rfl
theorem r7 : List.range ops7.size = [0, 1] := by kernel_rfl
theorem body_eq : body = .seq R0 (.seq R1 (.seq (.seq R2 (.block 0 (.loop round))) (.seq (.region 7 ops7 false) .ret))) := by kernel_rfl
theorem round_eq : round = .seq (.region 3 ops3 false) (.seq (.cond (.tmp 11) .skip (.exit 0)) (.block 1 (.seq (.region 4 ops4 false) (.seq (.region 5 ops5 false) (.cond (.tmp 17) (.region 6 ops6 false) .skip))))) := by kernel_rfl
abbrev KT : TypeId := 161
abbrev AT : TypeId := 143
def D : List Nat := [10, 11, 12, 13, 6, 14, 15, 16, 17, 18, 19, 20]
theorem kt_agg : isAggT Try.prog KT = some true := by kernel_rfl
theorem kt_size : sizeT Try.prog KT = some 2 := by kernel_rfl
theorem kt_zero : zeroT Try.prog KT = some (.agg #[.int .i64 0, .int .i64 0]) := by kernel_rfl
theorem int_agg : isAggT Try.prog 3 = some false := by kernel_rfl
theorem bool_agg : isAggT Try.prog 4 = some false := by kernel_rfl
theorem bool_size : sizeT Try.prog 4 = some 1 := by kernel_rfl
theorem field0 (b : Nat) : aFieldAddr Try.prog KT (ptr b) 0 = some (.pointer (some ⟨b, 0, none⟩)) := by kernel_rfl
theorem field1 (b : Nat) : aFieldAddr Try.prog KT (ptr b) 1 = some (.pointer (some ⟨b, 1, none⟩)) := by kernel_rfl

theorem st_storeC {P : Program} {H : Heap} {t : Array Value} {ops : Array Oper} {i : Nat} {o : Oper} {x : Tmp} {K : Array Value → Heap → Prop} {ty : TypeId} {a : Addr} {H1 : Heap} {v : Value} (ho : ops[i]? = some o) (hg : o.guard = none) (hd : o.dst = none) (hop : o.op = .store ty (.tmp x) (.const v)) (hv : sc 0 v = true)
    (hx : t.getD x undef = .pointer (some a)) (hs : astoreVar P H ty a v = some H1) (h : K t H1) : opStep P ops i H t K := by
  refine opStep_skip ho hg (H1 := H1) ?_ (by rw [hd]; exact h)
  simp only [evOp, hop, aeval, hx, hv, if_true, hs, Option.map_some]
theorem hitOf_spec {P : Program} {at' : TypeId} {ab ob N : Nat} {ats : List Value} {e : MapEntry} {r : Option Nat} (h : hitOf P at' ab ob N ats e = some r) :
    ∃ a b x, e.key = .agg #[a, b] ∧ sc1 0 a = true ∧ sc1 0 b = true ∧ aIndexAddr P at' (ptr ab) a = some (.pointer (some ⟨ab, x, none⟩)) ∧
      ((ats[x]? = some (.bool false) ∧ r = none) ∨ (ats[x]? = some (.bool true) ∧ ∃ y, r = some y ∧ y < N ∧ aIndexAddr P at' (ptr ob) b = some (.pointer (some ⟨ob, y, none⟩)))) := by
  unfold hitOf at h
  split at h <;> try (cases h; done)
  rename_i cs hk
  split at h <;> try (cases h; done)
  rename_i a b hl
  split at h <;> try (cases h; done)
  rename_i b' x hx
  split at h <;> try (cases h; done)
  rename_i hb
  simp only [Bool.and_eq_true] at hb
  obtain ⟨hb1, hb2, hb3⟩ := hb
  have hbe := beqT hb1
  subst hbe
  have hkey : e.key = .agg #[a, b] := by
    rw [hk]; congr 1; apply Array.toList_inj.1; rw [hl]
  refine ⟨a, b, x, hkey, hb2, hb3, hx, ?_⟩
  split at h <;> try (cases h; done)
  · rename_i hat
    cases h
    exact .inl ⟨hat, rfl⟩
  · rename_i hat
    split at h <;> try (cases h; done)
    rename_i o' y hy
    split at h <;> try (cases h; done)
    rename_i ho
    cases h
    simp only [Bool.and_eq_true, Nat.blt_eq] at ho
    have hoe := beqT ho.1
    subst hoe
    exact .inr ⟨hat, y, rfl, ho.2, hy⟩

variable {ro : Option Nat} {H0 : Heap} {it m ob ab clock n : Nat} {es : List MapEntry} {seen : Array Nat} {ats : List Value} {t : Array Value}
noncomputable abbrev hitP (ab ob : Nat) (ats : List Value) : MapEntry → Option (Option Nat) := hitOf Try.prog AT ab ob 4 ats

set_option maxRecDepth 20000 in
theorem round_ok (hf : Fair clock es) (hall : ∀ e ∈ es, ∃ r, hitP ab ob ats e = some r) (hh : Stand H0 it m ob ab clock es ats) (h9 : t.getD 9 undef = ptr it) (h3 : t.getD 3 undef = ptr ab) (h5 : t.getD 5 undef = ptr ob) (hsz : t.size = 22) :
    CW ro Try.prog round (pH H0 it m ob clock seen (outOf (hitP ab ob ats) es 4 seen) n) t (thenQ (fun t' H' => ∃ seen', Same D t t' ∧ H' = pH H0 it m ob clock seen' (outOf (hitP ab ob ats) es 4 seen') (n + 1) ∧ (unseen es seen').length + 1 = (unseen es seen).length)
      (fun x t' H' => x = .exit 0 ∧ unseen es seen = [] ∧ Same D t t' ∧ H' = pH H0 it m ob clock seen (outOf (hitP ab ob ats) es 4 seen) n)) := by
  refine CW.forget ?_
  rw [round_eq]
  refine CW.seq (CW.region ?_)
  rw [r3]
  refine opStep_next (i := 0) (o := opAt ops3 0) (x := .tmp 9) (by kernel_rfl) (by kernel_rfl) (by kernel_rfl) (by simp only [aeval]; rw [h9]) (next_outs2 hf (pH_it hh) (pH_m hh)) ?_
  intro p hpm
  split at hpm
  · rename_i hu
    simp only [List.mem_singleton] at hpm
    subst hpm
    refine st_extract (i := 1) (o := opAt ops3 1) (d := 11) (x := 10) (j := 0) (by kernel_rfl) (by kernel_rfl) (by kernel_rfl) (by kernel_rfl) (vs := #[.bool false]) (v := .bool false) ?_ rfl ?_
    · show (aput t (some 10) _).getD 10 undef = _
      simp only [getD_aput, hsz]; rfl
    refine CW.seq (CW.cond (b := false) ?_ ?_)
    · show some ((aput (aput t (some 10) _) (some 11) _).getD 11 undef) = _
      simp only [getD_aput, size_aput, hsz]; rfl
    refine CW.exit ⟨[], rfl, hu, ((Same.refl D t).put (d := 10) rfl _).put rfl _, rfl⟩
  · rename_i hu
    obtain ⟨e, he, rfl⟩ := List.mem_map.1 hpm
    have hes : e ∈ es := (List.mem_filter.1 he).1
    obtain ⟨rr, hrr⟩ := hall e hes
    obtain ⟨a, b, x, hkey, sa, sb, hax, hcase⟩ := hitOf_spec hrr
    have hsc : sc2 0 (.agg #[a, b]) = true := by
      show (#[a, b] : Array Value).all (sc1 0) = true
      simp [sa, sb]
    simp only [pH_set_it hh]
    refine st_extract (i := 1) (o := opAt ops3 1) (d := 11) (x := 10) (j := 0) (by kernel_rfl) (by kernel_rfl) (by kernel_rfl) (by kernel_rfl) (vs := #[.bool true, e.key, e.val]) (v := .bool true) ?_ rfl ?_
    · show (aput t (some 10) _).getD 10 undef = _
      simp only [getD_aput, hsz]; rfl
    refine CW.seq (CW.cond (b := true) ?_ ?_)
    · show some ((aput (aput t (some 10) _) (some 11) _).getD 11 undef) = _
      simp only [getD_aput, size_aput, hsz]; rfl
    refine CW.skip ?_
    refine CW.block (CW.seq (CW.region ?_))
    rw [r4]
    generalize ht1 : aput (aput t _ _) (some 11) _ = t1
    have s1 : Same D t t1 := by rw [← ht1]; exact ((Same.refl D t).put (d := 10) rfl _).put rfl _
    have z1 : t1.size = 22 := s1.1.trans hsz
    clear ht1
    generalize hG : pH H0 it m ob clock (seen.push e.born) (outOf (hitP ab ob ats) es 4 seen) n = G
    have hGl : G.length = H0.length + n := by rw [← hG, pH_length]
    refine st_entry (i := 0) (o := opAt ops4 0) (d := 12) (x := 9) (by kernel_rfl) (by kernel_rfl) (by kernel_rfl) (by kernel_rfl) (v := .tuple #[e.key, e.val]) ?_ ?_
    · rw [s1.2 9 (by decide), h9, ← hG]; exact entry_own2 hf hes (pH_it hh) (pH_m hh)
    refine st_extract (i := 1) (o := opAt ops4 1) (d := 13) (x := 12) (j := 0) (by kernel_rfl) (by kernel_rfl) (by kernel_rfl) (by kernel_rfl) (vs := #[e.key, e.val]) (v := e.key) ?_ rfl ?_
    · simp only [getD_aput, z1]; rfl
    refine st_alloc (i := 2) (o := opAt ops4 2) (d := 6) (ty := KT) (by kernel_rfl) (by kernel_rfl) (by kernel_rfl) (by kernel_rfl) kt_zero ?_
    refine st_store (i := 3) (o := opAt ops4 3) (x := 6) (y := 13) (ty := KT) (by kernel_rfl) (by kernel_rfl) (by kernel_rfl) (by kernel_rfl) (a := ⟨G.length, 0, none⟩) (H1 := G ++ [.rw [a, b] none]) ?_ ?_ ?_
    · simp only [getD_aput, size_aput, z1]; rfl
    · simp only [getD_aput, size_aput, z1]
      simp only [hkey]
      exact pair_store kt_size hsc
    generalize hu1 : aput _ (some 6) _ = u1
    have s1' : Same D t u1 := by rw [← hu1]; exact (((s1.put (d := 12) rfl _).put (d := 13) rfl _).put (d := 6) rfl _)
    have zu : u1.size = 22 := s1'.1.trans hsz
    have u6 : u1.getD 6 undef = ptr G.length := by rw [← hu1]; simp only [getD_aput, size_aput, z1]; rfl
    clear hu1
    obtain ⟨room, hab⟩ := pH_ab (clock := clock) (seen := seen.push e.born) (cs := outOf (hitP ab ob ats) es 4 seen) (n := n) hh
    rw [hG] at hab
    refine CW.seq (CW.region ?_)
    rw [r5]
    refine st_fieldAddr (i := 0) (o := opAt ops5 0) (d := 14) (x := 6) (ty := KT) (f := 0) (u := .pointer (some ⟨G.length, 0, none⟩)) (by kernel_rfl) (by kernel_rfl) (by kernel_rfl) (by kernel_rfl) ?_ ?_
    · rw [u6]; exact field0 _
    refine st_load (i := 1) (o := opAt ops5 1) (d := 15) (x := 14) (ty := 3) (by kernel_rfl) (by kernel_rfl) (by kernel_rfl) (by kernel_rfl) (a := ⟨G.length, 0, none⟩) (v := a) ?_ ?_ ?_
    · rw [getD_aput, if_pos ⟨rfl, by rw [zu]; decide⟩]
    · unfold aloadVar
      rw [int_agg]
      simp only [aload, get_append_new]
      rfl
    refine st_indexAddr (i := 2) (o := opAt ops5 2) (d := 16) (x := 3) (y := 15) (ty := AT) (u := .pointer (some ⟨ab, x, none⟩)) (by kernel_rfl) (by kernel_rfl) (by kernel_rfl) (by kernel_rfl) ?_ ?_
    · rw [getD_aput, if_neg (by simp), getD_aput, if_neg (by simp), s1'.2 3 (by decide), h3, getD_aput, if_pos ⟨rfl, by rw [size_aput, zu]; decide⟩]
      exact hax
    have hload : ∀ bv : Bool, ats[x]? = some (.bool bv) → aloadVar Try.prog (G ++ [.rw [a, b] none]) 4 ⟨ab, x, none⟩ = some (.bool bv) := fun bv hb => by
      unfold aloadVar
      rw [bool_agg]
      simp only [aload]
      rw [List.getElem?_append_left (List.getElem?_eq_some_iff.1 hab).1, hab]
      exact hb
    obtain ⟨bv, hbv⟩ : ∃ bv : Bool, ats[x]? = some (.bool bv) := by
      rcases hcase with ⟨h1, _⟩ | ⟨h1, _⟩
      · exact ⟨_, h1⟩
      · exact ⟨_, h1⟩
    refine st_load (i := 3) (o := opAt ops5 3) (d := 17) (x := 16) (ty := 4) (by kernel_rfl) (by kernel_rfl) (by kernel_rfl) (by kernel_rfl) (a := ⟨ab, x, none⟩) (v := .bool bv) ?_ (hload bv hbv) ?_
    · rw [getD_aput, if_pos ⟨rfl, by rw [size_aput, size_aput, zu]; decide⟩]
    generalize ht2 : aput _ (some 17) _ = t2
    have s2 : Same D t t2 := by rw [← ht2]; exact ((((s1'.put (d := 14) rfl _).put (d := 15) rfl _).put (d := 16) rfl _).put rfl _)
    have z2 : t2.size = 22 := s2.1.trans hsz
    have b17 : t2.getD 17 undef = .bool bv := by rw [← ht2, getD_aput, if_pos ⟨rfl, by rw [size_aput, size_aput, size_aput, zu]; decide⟩]
    have b6 : t2.getD 6 undef = ptr G.length := by rw [← ht2, getD_aput, if_neg (by simp), getD_aput, if_neg (by simp), getD_aput, if_neg (by simp), getD_aput, if_neg (by simp), u6]
    clear ht2
    refine CW.cond (b := bv) (by simp only [aeval, b17]) ?_
    cases bv with
    | false =>
      have hnone : rr = none := by
        rcases hcase with ⟨_, h2⟩ | ⟨h1, _⟩
        · exact h2
        · rw [hbv] at h1; cases h1
      subst hnone
      refine CW.skip ?_
      refine ⟨[H0.length + n], seen.push e.born, s2, ?_, unseen_push hf.apart he⟩
      show (_ : Heap).set _ _ = _
      rw [← hG, pH_gone, outOf_none hf.apart hes hrr]
    | true =>
      obtain ⟨y, hy1, hy2, hy3⟩ : ∃ y, rr = some y ∧ y < 4 ∧ aIndexAddr Try.prog AT (ptr ob) b = some (.pointer (some ⟨ob, y, none⟩)) := by
        rcases hcase with ⟨h1, _⟩ | ⟨_, h2⟩
        · rw [hbv] at h1; cases h1
        · exact h2
      subst hy1
      simp only [if_true]
      refine CW.region ?_
      rw [r6]
      refine st_fieldAddr (i := 0) (o := opAt ops6 0) (d := 18) (x := 6) (ty := KT) (f := 1) (u := .pointer (some ⟨G.length, 1, none⟩)) (by kernel_rfl) (by kernel_rfl) (by kernel_rfl) (by kernel_rfl) ?_ ?_
      · rw [b6]; exact field1 _
      refine st_load (i := 1) (o := opAt ops6 1) (d := 19) (x := 18) (ty := 3) (by kernel_rfl) (by kernel_rfl) (by kernel_rfl) (by kernel_rfl) (a := ⟨G.length, 1, none⟩) (v := b) ?_ ?_ ?_
      · rw [getD_aput, if_pos ⟨rfl, by rw [z2]; decide⟩]
      · unfold aloadVar
        rw [int_agg]
        simp only [aload, get_append_new]
        rfl
      refine st_indexAddr (i := 2) (o := opAt ops6 2) (d := 20) (x := 5) (y := 19) (ty := AT) (u := .pointer (some ⟨ob, y, none⟩)) (by kernel_rfl) (by kernel_rfl) (by kernel_rfl) (by kernel_rfl) ?_ ?_
      · rw [getD_aput, if_neg (by simp), getD_aput, if_neg (by simp), s2.2 5 (by decide), h5, getD_aput, if_pos ⟨rfl, by rw [size_aput, z2]; decide⟩]
        exact hy3
      refine st_storeC (i := 3) (o := opAt ops6 3) (x := 20) (ty := 4) (v := .bool true) (by kernel_rfl) (by kernel_rfl) (by kernel_rfl) (by kernel_rfl) rfl (a := ⟨ob, y, none⟩) (H1 := pH H0 it m ob clock (seen.push e.born) ((outOf (hitP ab ob ats) es 4 seen).set y (.bool true)) n ++ [.rw [a, b] none]) ?_ ?_ ?_
      · rw [getD_aput, if_pos ⟨rfl, by rw [size_aput, size_aput, z2]; decide⟩]
      · unfold astoreVar
        rw [if_pos ⟨bool_size, rfl⟩]
        show astore _ _ [.bool true] = _
        unfold astore
        have hob : (G ++ [AObj.rw [a, b] none])[ob]? = some (.rw (outOf (hitP ab ob ats) es 4 seen) none) := by
          rw [← hG, List.getElem?_append_left (by rw [pH_length]; have := hh.hob; omega), pH_ob hh]
        simp only [hob]
        rw [if_pos ⟨by rw [outOf_length]; show y + 1 ≤ 4; omega, rfl⟩]
        rw [← hG, pH_set_app hh]
        rfl
      refine ⟨[H0.length + n], seen.push e.born, (((s2.put (d := 18) rfl _).put (d := 19) rfl _).put (d := 20) rfl _), ?_, unseen_push hf.apart he⟩
      show (_ : Heap).set _ _ = _
      rw [pH_gone, outOf_some hf.apart hes hrr]

theorem loop_ok (hf : Fair clock es) (hall : ∀ e ∈ es, ∃ r, hitP ab ob ats e = some r) (hh : Stand H0 it m ob ab clock es ats) (h1 : H0[it]? = some (.iter m clock #[] clock)) (h2 : H0[ob]? = some (.rw (List.replicate 4 (.bool false)) none))
    (h9 : t.getD 9 undef = ptr it) (h3 : t.getD 3 undef = ptr ab) (h5 : t.getD 5 undef = ptr ob) (hsz : t.size = 22) :
    CW ro Try.prog (.block 0 (.loop round)) H0 t (fun x t' H' => x = .normal ∧ Same D t t' ∧ H' = pEnd H0 it ob es.length (outAll (hitP ab ob ats) es 4)) := by
  refine CW.forget (CW.block ?_)
  refine CW.loopInv (I := fun t' H' => ∃ seen n, Same D t t' ∧ H' = pH H0 it m ob clock seen (outOf (hitP ab ob ats) es 4 seen) n ∧ (unseen es seen).length + n = es.length) (fun _ H' => es.length + H0.length - H'.length) ?_ ?_
  · rintro t' H' ⟨seen, n, hs, rfl, hn⟩
    refine (round_ok hf hall hh (t := t') (by rw [hs.2 9 (by decide), h9]) (by rw [hs.2 3 (by decide), h3]) (by rw [hs.2 5 (by decide), h5]) (hs.1.trans hsz)).mono ?_
    intro x t2 H2 hx
    cases x with
    | normal =>
      obtain ⟨seen', k1, rfl, k3⟩ := hx
      refine ⟨⟨seen', n + 1, ⟨k1.1.trans hs.1, fun k hk => (k1.2 k hk).trans (hs.2 k hk)⟩, rfl, by omega⟩, ?_⟩
      simp only [pH_length]
      omega
    | exit id =>
      obtain ⟨k0, k1, k2, rfl⟩ := hx
      cases k0
      refine ⟨[it], rfl, ⟨k2.1.trans hs.1, fun k hk => (k2.2 k hk).trans (hs.2 k hk)⟩, ?_⟩
      show (_ : Heap).set it .gone = _
      rw [k1] at hn
      have hn' : n = es.length := by simpa using hn
      rw [pH_end hh, outOf_all k1, hn']
    | ret => obtain ⟨k0, _⟩ := hx; cases k0
  · refine ⟨#[], 0, Same.refl D t, ?_, by rw [unseen_none]; rfl⟩
    rw [outOf_nil, pH_start hh h1 h2]

def fairB (clock : Nat) (es : List MapEntry) : Bool := apartB (es.map (·.born)) && es.all fun e => Nat.blt e.born clock
theorem fairB_ok (h : fairB clock es = true) : Fair clock es := by
  simp only [fairB, Bool.and_eq_true] at h
  exact ⟨apartB_ok es h.1, fun e he => by have := List.all_eq_true.1 h.2 e he; simpa [Nat.blt_eq] using this⟩
def falses : List Value → Bool
  | [.bool false, .bool false, .bool false, .bool false] => true
  | _ => false
theorem falses_eq {l : List Value} (h : falses l = true) : l = List.replicate 4 (.bool false) := by
  unfold falses at h
  split at h
  · rfl
  · cases h

/-- The function, by a program. -/
noncomputable def play (tbl : Tbl) (k : Nat) : List Value → Heap → Option (Value × Heap × List Nat) := fun args H =>
  match Nat.ble args.length 22 with
  | false => none
  | true => match evRun Try.prog tbl k [R0, R1] H ((Tr.mk 22 22).args 0 args) with
    | none => none
    | some (Ta, Ha, la) => match evCT Try.prog tbl k true R2 Ha Ta with
     | some (.normal, T, H1, lb) => match T.get 9, T.get 3, T.get 5, T.get 4 with
      | .pointer (some ⟨it, 0, none⟩), .pointer (some ⟨ab, 0, none⟩), .pointer (some ⟨ob, 0, none⟩), .pointer (some ⟨rb, 0, none⟩) => match H1[it]?, H1[ab]?, H1[ob]? with
        | some (.iter m since seen last), some (.rw ats _), some (.rw zs none) => match H1[m]? with
          | some (.map es clock) => match Nat.beq T.count 22 && (seen.isEmpty && (Nat.beq since clock && (Nat.beq last clock && (!Nat.beq it ob && (!Nat.beq m it && (!Nat.beq m ob && (!Nat.beq ab it && (!Nat.beq ab ob && (falses zs && (Nat.ble H.length ob && (Nat.ble H.length it && (Nat.ble H.length rb && (fairB clock es && es.all fun e => (hitP ab ob ats e).isSome))))))))))))) with
            | true => match aloadVar Try.prog (pEnd H1 it ob es.length (outAll (hitP ab ob ats) es 4)) AT ⟨ob, 0, none⟩ with
              | some v1 => match astoreVar Try.prog (pEnd H1 it ob es.length (outAll (hitP ab ob ats) es 4)) AT ⟨rb, 0, none⟩ v1 with
                | some Hy => match aloadVar Try.prog Hy AT ⟨rb, 0, none⟩ with
                  | some v2 => some (gcOf H.length v2 Hy (la ++ lb))
                  | none => none
                | none => none
              | none => none
            | false => none
          | _ => none
        | _, _, _ => none
      | _, _, _, _ => none
     | _ => none

theorem fn_at : Try.prog.funcs[109]? = some fn := by kernel_rfl
theorem fn_body : fn.body = some body := by kernel_rfl
theorem fn_tmps : fn.ntmps = 22 := by kernel_rfl
theorem fn_res : fn.results.toList = [.cell 4 AT] := by kernel_rfl

theorem pEnd_get {b k : Nat} {cs : List Value} (h1 : b < H0.length) (h2 : b ≠ it) (h3 : b ≠ ob) : (pEnd H0 it ob k cs)[b]? = H0[b]? := by
  unfold pEnd
  rw [List.getElem?_append_left (by simpa using h1), List.getElem?_set_ne (Ne.symm h3), List.getElem?_set_ne (Ne.symm h2)]

set_option maxRecDepth 20000 in
theorem play_ok {tbl : Tbl} (ht : TblOk Try.prog tbl) {k : Nat} {args : List Value} {H H' : Heap} {v : Value} {l : List Nat} (h : play tbl k args H = some (v, H', l)) :
    Call Try.prog 109 args H (fun v' H2 => v' = v ∧ H2 = H') ∧ Kept H H' l := by
  unfold play at h
  split at h <;> try (cases h; done)
  rename_i hle
  split at h <;> try (cases h; done)
  rename_i Ta Ha la hrun
  split at h <;> try (cases h; done)
  rename_i T H1 lb hrun2
  split at h <;> try (cases h; done)
  rename_i it ab ob rb e9 e3 e5 e4
  split at h <;> try (cases h; done)
  rename_i m since seen last ats room zs hit hab hob
  split at h <;> try (cases h; done)
  rename_i es clock hm
  split at h <;> try (cases h; done)
  rename_i hck
  split at h <;> try (cases h; done)
  rename_i v1 hv1
  split at h <;> try (cases h; done)
  rename_i Hy hHy
  split at h <;> try (cases h; done)
  rename_i v2 hv2
  injection h with h
  simp only [Bool.and_eq_true, Bool.not_eq_true', Nat.ble_eq] at hck
  obtain ⟨hcount, hseen, d1, d2, c1, c2, c3, c4, c5, c6, c7, c8, c9, c10, c11⟩ := hck
  replace d1 := beqT d1; replace d2 := beqT d2; replace c1 := beqF c1; replace c2 := beqF c2; replace c3 := beqF c3; replace c4 := beqF c4; replace c5 := beqF c5
  subst d1; subst d2
  have hseen : seen = #[] := by simpa using hseen
  subst hseen
  have hz := falses_eq c6
  subst hz
  have hf := fairB_ok c10
  have hall : ∀ e ∈ es, ∃ r, hitP ab ob ats e = some r := fun e he => Option.isSome_iff_exists.1 (List.all_eq_true.1 c11 e he)
  have hh : Stand H1 it m ob ab last es ats := ⟨(List.getElem?_eq_some_iff.1 hit).1, (List.getElem?_eq_some_iff.1 hob).1, c1, hm, c2, c3, ⟨room, hab⟩, c4, c5⟩
  have hF := FR.start (n := 22) (args := args) (Nat.le_of_ble_eq_true hle)
  obtain ⟨t0, k1, k2, k3⟩ := evRun_sound ht _ hF hrun
  obtain ⟨t1, k4, k5⟩ := evCT_sub tbl k true _ _ _ _ _ _ _ _ k1 hrun2
  obtain ⟨k6, k7⟩ := (evC_sound ht k true none (fun _ => rfl) _ _ _ _ _ _ _ k5).1
  have hkept := k2.trans k7
  have t9 : t1.getD 9 undef = ptr it := by rw [← k4.2 9, e9]; rfl
  have t3 : t1.getD 3 undef = ptr ab := by rw [← k4.2 3, e3]; rfl
  have t5 : t1.getD 5 undef = ptr ob := by rw [← k4.2 5, e5]; rfl
  have t4 : t1.getD 4 undef = ptr rb := by rw [← k4.2 4, e4]; rfl
  have hsz : t1.size = 22 := by rw [← Tr.count_full k4.1]; exact beqT hcount
  have hmain : CW none Try.prog body H (args.toArray ++ Array.replicate (fn.ntmps - args.length) undef) fun x t H' => (x = .normal ∨ x = .ret) ∧ ∃ v, aresults Try.prog fn t H' = some v ∧ v = v2 ∧ H' = Hy := by
    rw [body_eq, fn_tmps]
    refine k3 _ _ (CW.seq (CW.seq (k6.mono ?_)))
    rintro x t' H' ⟨rfl, rfl, rfl⟩
    refine (loop_ok hf hall hh hit hob t9 t3 t5 hsz).mono ?_
    rintro x t2 H2 ⟨rfl, hs, rfl⟩
    refine CW.seq (CW.region ?_)
    rw [r7]
    have hz2 : t2.size = 22 := hs.1.trans hsz
    refine st_load (i := 0) (o := opAt ops7 0) (d := 21) (x := 5) (ty := AT) (by kernel_rfl) (by kernel_rfl) (by kernel_rfl) (by kernel_rfl) (a := ⟨ob, 0, none⟩) (v := v1) ?_ hv1 ?_
    · rw [hs.2 5 (by decide), t5]; rfl
    have f4 : (aput t2 (some 21) v1).getD 4 undef = ptr rb := by rw [getD_aput, if_neg (by simp), hs.2 4 (by decide), t4]
    have f21 : (aput t2 (some 21) v1).getD 21 undef = v1 := by rw [getD_aput, if_pos ⟨rfl, by rw [hz2]; decide⟩]
    refine st_store (i := 1) (o := opAt ops7 1) (x := 4) (y := 21) (ty := AT) (by kernel_rfl) (by kernel_rfl) (by kernel_rfl) (by kernel_rfl) (a := ⟨rb, 0, none⟩) (H1 := Hy) ?_ ?_ ?_
    · rw [f4]; rfl
    · rw [f21]; exact hHy
    refine CW.ret ⟨.inr rfl, v2, ?_, rfl, rfl⟩
    unfold aresults
    rw [fn_res]
    simp only [aress, aresVar, f4, ptr, hv2, Option.bind_some, Option.map_some]
  have hk : Kept H Hy (la ++ lb) := by
    have h1 : Kept H (pEnd H1 it ob es.length (outAll (hitP ab ob ats) es 4)) (la ++ lb) := ⟨by unfold pEnd; simp; have := hkept.1; omega, fun b hb hn => by
      rw [pEnd_get (by have := hkept.1; omega) (by omega) (by omega)]; exact hkept.2 b hb hn⟩
    have h2 : Kept (pEnd H1 it ob es.length (outAll (hitP ab ob ats) es 4)) Hy [rb] := by
      unfold astoreVar at hHy
      split at hHy
      · exact astore_kept hHy
      · cases hHy
    refine ⟨Nat.le_trans h1.1 h2.1, fun b hb hn => ?_⟩
    rw [h2.2 b (by have := h1.1; omega) (by simp; omega)]
    exact h1.2 b hb hn
  exact gcOf_ok ⟨Call.body fn_at fn_body hmain, hk⟩ h

end Go.Pier.Play
