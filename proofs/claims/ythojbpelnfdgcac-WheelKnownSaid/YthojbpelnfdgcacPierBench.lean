/-
  Pier: wheel's function newBench: the loop that deletes entries that are zero.
-/
import Derived.Test.YthojbpelnfdgcacPierV
import Derived.Test.YthojbpelnfdgcacProg
import Derived.KernelRfl
namespace Go.Pier.Bench
open Go Go.Pier Go.Proofs

def fst : Code → Code | .seq a _ => a | _ => .skip
def snd : Code → Code | .seq _ b => b | _ => .skip
def inn : Code → Code | .block _ a => a | .loop a => a | .scope a => a | _ => .skip
def ops : Code → Array Oper | .region _ o _ => o | _ => #[]
def yes : Code → Code | .cond _ a _ => a | _ => .skip

noncomputable def fn := Try.f74
noncomputable def body : Code := fn.body.getD .skip
noncomputable def R0 := fst body
noncomputable def R1 := fst (snd body)
noncomputable def R2 := fst (snd (snd body))
noncomputable def A3 := fst (snd (snd (snd body)))
noncomputable def A4 := fst (snd (snd (snd (snd body))))
noncomputable def R12 := fst A4
noncomputable def R17 := fst (snd (snd (snd (snd (snd body)))))
noncomputable def round := inn (inn (snd A4))
noncomputable def ops13 := ops (fst round)
noncomputable def inner := inn (snd (snd round))
noncomputable def ops14 := ops (fst inner)
noncomputable def ops15 := ops (fst (snd inner))
noncomputable def ops16 := ops (yes (snd (snd inner)))
noncomputable def ops17 := ops R17
noncomputable def opAt (o : Array Oper) (i : Nat) : Oper := (o[i]?).getD { dst := none, op := .move (.const undef), type := 0, pos := "", after := #[], guard := none }
noncomputable def callOf (o : Oper) : Go.Call := match o.op with | .call c => c | _ => { callee := .value (.const undef), args := #[], argTypes := #[] }
theorem r13 : List.range ops13.size = [0, 1] := by kernel_rfl
theorem r14 : List.range ops14.size = [0, 1, 2, 3, 4, 5] := by kernel_rfl
theorem r15 : List.range ops15.size = [0, 1] := by kernel_rfl
theorem r16 : List.range ops16.size = [0, 1, 2, 3] := by kernel_rfl
theorem r17 : List.range ops17.size = [0, 1] := by kernel_rfl

theorem body_eq : body = .seq R0 (.seq R1 (.seq R2 (.seq A3 (.seq (.seq R12 (.block 4 (.loop round))) (.seq (.region 17 ops17 false) .ret))))) := by kernel_rfl
theorem round_eq : round = .seq (.region 13 ops13 false) (.seq (.cond (.tmp 45) .skip (.exit 4)) (.block 5 (.seq (.region 14 ops14 false) (.seq (.region 15 ops15 false) (.cond (.tmp 50) (.region 16 ops16 false) .skip))))) := by kernel_rfl

/-- The map's type, the key's. -/
abbrev MT : TypeId := 105
abbrev KT : TypeId := 161
/-- The frame's places that a round writes. -/
def D : List Nat := [44, 45, 46, 47, 48, 8, 9, 49, 50, 51, 52, 53]

theorem mt_u : Try.prog.underlying MT = some (.map KT 2) := by kernel_rfl
theorem mt_agg : isAggT Try.prog MT = some false := by kernel_rfl
theorem kt_agg : isAggT Try.prog KT = some true := by kernel_rfl
theorem kt_size : sizeT Try.prog KT = some 2 := by kernel_rfl
theorem kt_zero : zeroT Try.prog KT = some (.agg #[.int .i64 0, .int .i64 0]) := by kernel_rfl
theorem fieldAddr7 (bx : Nat) : aFieldAddr Try.prog 107 (ptr bx) 2 = some (.pointer (some ⟨bx, 7, none⟩)) := by kernel_rfl

variable {ro : Option Nat} {H0 : Heap} {it m bx clock n : Nat} {es : List MapEntry} {seen : Array Nat} {t : Array Value}

set_option maxRecDepth 20000 in
theorem round_ok (hp : Purge Try.prog KT 2 clock es) (hh : Head H0 it m bx 7) (h60 : t.getD 43 undef = ptr it) (h5 : t.getD 3 undef = ptr bx) (hsz : t.size = 55) :
    CW ro Try.prog round (gH H0 it m clock seen (leftOf es seen) n) t (thenQ (fun t' H' => ∃ seen', Same D t t' ∧ H' = gH H0 it m clock seen' (leftOf es seen') (n + 1) ∧ (unseen es seen').length + 1 = (unseen es seen).length)
      (fun x t' H' => x = .exit 4 ∧ unseen es seen = [] ∧ Same D t t' ∧ H' = gH H0 it m clock seen (leftOf es seen) n)) := by
  refine CW.forget ?_
  rw [round_eq]
  refine CW.seq (CW.region ?_)
  rw [r13]
  refine opStep_next (i := 0) (o := opAt ops13 0) (x := .tmp 43) (by kernel_rfl) (by kernel_rfl) (by kernel_rfl) (by simp only [aeval]; rw [h60]) (next_outs hp (gH_it hh) (gH_m hh)) ?_
  intro p hpm
  split at hpm
  · rename_i hu
    simp only [List.mem_singleton] at hpm
    subst hpm
    refine st_extract (i := 1) (o := opAt ops13 1) (d := 45) (x := 44) (j := 0) (by kernel_rfl) (by kernel_rfl) (by kernel_rfl) (by kernel_rfl) (vs := #[.bool false]) (v := .bool false) ?_ rfl ?_
    · show (aput t (some 44) _).getD 44 undef = _
      simp only [getD_aput, hsz]; rfl
    refine CW.seq (CW.cond (b := false) ?_ ?_)
    · show some ((aput (aput t (some 44) _) (some 45) _).getD 45 undef) = _
      simp only [getD_aput, size_aput, hsz]; rfl
    refine CW.exit ⟨[], rfl, hu, ((Same.refl D t).put (d := 44) rfl _).put rfl _, rfl⟩
  · rename_i hu
    obtain ⟨e, he, rfl⟩ := List.mem_map.1 hpm
    have hes : e ∈ es := (List.mem_filter.1 he).1
    obtain ⟨cs, hkey, hcs, hsc⟩ := hp.key e hes
    obtain ⟨nv, hval⟩ := hp.num e hes
    obtain ⟨a, b, rfl⟩ : ∃ a b, cs = #[a, b] := by
      obtain ⟨l⟩ := cs
      match l, hcs with
      | [a, b], _ => exact ⟨a, b, rfl⟩
    simp only [gH_set_it hh]
    refine st_extract (i := 1) (o := opAt ops13 1) (d := 45) (x := 44) (j := 0) (by kernel_rfl) (by kernel_rfl) (by kernel_rfl) (by kernel_rfl) (vs := #[.bool true, e.key, e.val]) (v := .bool true) ?_ rfl ?_
    · show (aput t (some 44) _).getD 44 undef = _
      simp only [getD_aput, hsz]; rfl
    refine CW.seq (CW.cond (b := true) ?_ ?_)
    · show some ((aput (aput t (some 44) _) (some 45) _).getD 45 undef) = _
      simp only [getD_aput, size_aput, hsz]; rfl
    refine CW.skip ?_
    refine CW.block (CW.seq (CW.region ?_))
    rw [r14]
    generalize ht1 : aput (aput t _ _) (some 45) _ = t1
    have s1 : Same D t t1 := by rw [← ht1]; exact ((Same.refl D t).put (d := 44) rfl _).put rfl _
    have z1 : t1.size = 55 := s1.1.trans hsz
    refine st_entry (i := 0) (o := opAt ops14 0) (d := 46) (x := 43) (by kernel_rfl) (by kernel_rfl) (by kernel_rfl) (by kernel_rfl) (v := .tuple #[e.key, e.val]) ?_ ?_
    · rw [s1.2 43 (by decide), h60]; exact entry_own hp he (gH_it hh) (gH_m hh)
    refine st_extract (i := 1) (o := opAt ops14 1) (d := 47) (x := 46) (j := 0) (by kernel_rfl) (by kernel_rfl) (by kernel_rfl) (by kernel_rfl) (vs := #[e.key, e.val]) (v := e.key) ?_ rfl ?_
    · simp only [getD_aput, z1]; rfl
    refine st_extract (i := 2) (o := opAt ops14 2) (d := 48) (x := 46) (j := 1) (by kernel_rfl) (by kernel_rfl) (by kernel_rfl) (by kernel_rfl) (vs := #[e.key, e.val]) (v := e.val) ?_ rfl ?_
    · simp only [getD_aput, size_aput, z1]; rfl
    refine st_alloc (i := 3) (o := opAt ops14 3) (d := 8) (ty := KT) (by kernel_rfl) (by kernel_rfl) (by kernel_rfl) (by kernel_rfl) kt_zero ?_
    refine st_store (i := 4) (o := opAt ops14 4) (x := 8) (y := 47) (ty := KT) (by kernel_rfl) (by kernel_rfl) (by kernel_rfl) (by kernel_rfl) (a := ⟨(gH H0 it m clock (seen.push e.born) (leftOf es seen) n).length, 0, none⟩) (H1 := gH H0 it m clock (seen.push e.born) (leftOf es seen) n ++ [.rw [a, b] none]) ?_ ?_ ?_
    · simp only [getD_aput, size_aput, z1]; rfl
    · simp only [getD_aput, size_aput, z1]
      simp only [hkey]
      exact pair_store kt_size (by rw [← hkey]; exact hsc)
    refine st_move (i := 5) (o := opAt ops14 5) (d := 9) (x := 48) (by kernel_rfl) (by kernel_rfl) (by kernel_rfl) (.inr (by kernel_rfl)) ?_
    generalize hu1 : aput _ (some 9) _ = u1
    have s1' : Same D t u1 := by rw [← hu1]; exact (((((s1.put (d := 46) rfl _).put (d := 47) rfl _).put (d := 48) rfl _).put (d := 8) rfl _).put (d := 9) rfl _)
    have zu : u1.size = 55 := s1'.1.trans hsz
    have u12 : u1.getD 9 undef = .int .i64 nv := by rw [← hu1]; simp only [getD_aput, size_aput, z1, ← hval]; rfl
    have u11 : u1.getD 8 undef = ptr (gH H0 it m clock (seen.push e.born) (leftOf es seen) n).length := by rw [← hu1]; simp only [getD_aput, size_aput, z1]; rfl
    clear hu1
    refine CW.seq (CW.region ?_)
    rw [r15]
    refine st_move (i := 0) (o := opAt ops15 0) (d := 49) (x := 9) (by kernel_rfl) (by kernel_rfl) (by kernel_rfl) (.inl (by kernel_rfl)) ?_
    refine st_eql (i := 1) (o := opAt ops15 1) (d := 50) (x := 49) (ty := 2) (yt := 2) (b := 0) (a := nv) (by kernel_rfl) (by kernel_rfl) (by kernel_rfl) (by kernel_rfl) ?_ ?_
    · rw [getD_aput, if_pos ⟨rfl, by rw [zu]; decide⟩, u12]
    generalize ht2 : aput _ (some 50) _ = t2
    have s2 : Same D t t2 := by rw [← ht2]; exact ((s1'.put (d := 49) rfl _).put rfl _)
    have z2 : t2.size = 55 := s2.1.trans hsz
    have b67 : t2.getD 50 undef = .bool (nv == 0) := by rw [← ht2]; rw [getD_aput, if_pos ⟨rfl, by rw [size_aput, zu]; decide⟩]
    have b11 : t2.getD 8 undef = ptr (gH H0 it m clock (seen.push e.born) (leftOf es seen) n).length := by rw [← ht2]; rw [getD_aput, if_neg (by simp), getD_aput, if_neg (by simp), u11]
    clear ht2
    refine CW.cond (b := nv == 0) (by simp only [aeval, b67]) ?_
    have hz : isZ e.val = (nv == 0) := by rw [hval]; rfl
    cases hnv : (nv == 0) with
    | false =>
      rw [hnv] at hz
      refine CW.skip ?_
      refine ⟨[H0.length + n], seen.push e.born, s2, ?_, unseen_push hp.apart he⟩
      show (_ : Heap).set _ _ = _
      rw [gH_gone, left_push hp.apart he, hz]
      rfl
    | true =>
      rw [hnv] at hz
      simp only [if_true]
      refine CW.region ?_
      rw [r16]
      obtain ⟨r, room, hbx, hb0⟩ := gH_bx (clock := clock) (seen := seen.push e.born) (l := leftOf es seen) (n := n) hh
      have b51 : aFieldAddr Try.prog 107 (ptr bx) 2 = some (.pointer (some ⟨bx, 7, none⟩)) := fieldAddr7 bx
      refine st_fieldAddr (i := 0) (o := opAt ops16 0) (d := 51) (x := 3) (ty := 107) (f := 2) (u := .pointer (some ⟨bx, 7, none⟩)) (by kernel_rfl) (by kernel_rfl) (by kernel_rfl) (by kernel_rfl) ?_ ?_
      · rw [s2.2 3 (by decide), h5]; exact b51
      refine st_load (i := 1) (o := opAt ops16 1) (d := 52) (x := 51) (ty := MT) (by kernel_rfl) (by kernel_rfl) (by kernel_rfl) (by kernel_rfl) (a := ⟨bx, 7, none⟩) (v := .map (some m)) ?_ ?_ ?_
      · simp only [getD_aput, size_aput, z2]; rfl
      · unfold aloadVar
        rw [mt_agg]
        simp only [aload]
        rw [List.getElem?_append_left (List.getElem?_eq_some_iff.1 hbx).1, hbx]
        exact hb0
      refine st_load (i := 2) (o := opAt ops16 2) (d := 53) (x := 8) (ty := KT) (by kernel_rfl) (by kernel_rfl) (by kernel_rfl) (by kernel_rfl) (a := ⟨(gH H0 it m clock (seen.push e.born) (leftOf es seen) n).length, 0, none⟩) (v := e.key) ?_ ?_ ?_
      · simp only [getD_aput, b11]; rfl
      · rw [hkey]; exact pair_load kt_size kt_agg
      refine st_delete (i := 3) (o := opAt ops16 3) (x := 52) (y := 53) (H1 := gH H0 it m clock (seen.push e.born) ((leftOf es seen).filter fun x => !(x.born == e.born)) n ++ [.rw [a, b] none]) (c := callOf (opAt ops16 3)) (by kernel_rfl) (by kernel_rfl) (by kernel_rfl) (by kernel_rfl) (by kernel_rfl) (by kernel_rfl) ?_ ?_
      · have e1 : (aput (aput (aput t2 (some 51) (.pointer (some ⟨bx, 7, none⟩))) (some 52) (.map (some m))) (some 53) e.key).getD 52 undef = .map (some m) := by simp only [getD_aput, size_aput, z2]; rfl
        have e2 : (aput (aput (aput t2 (some 51) (.pointer (some ⟨bx, 7, none⟩))) (some 52) (.map (some m))) (some 53) e.key).getD 53 undef = e.key := by simp only [getD_aput, size_aput, z2]; rfl
        rw [e1, e2]
        rw [delete_own (hp.sub (left_sub es seen)) (mem_left he) (mt := MT) (by kernel_rfl) mt_u (by
          rw [List.getElem?_append_left (by rw [gH_length]; have := hh.hm; omega)]; exact gH_m hh)]
        rw [gH_set_app hh]
      refine ⟨[H0.length + n], seen.push e.born, ((s2.put (d := 51) rfl _).put (d := 52) rfl _).put rfl _, ?_, unseen_push hp.apart he⟩
      show (_ : Heap).set _ _ = _
      rw [gH_gone, left_push hp.apart he, hz]
      rfl

theorem loop_ok (hp : Purge Try.prog KT 2 clock es) (hh : Head H0 it m bx 7) (h1 : H0[it]? = some (.iter m clock #[] clock)) (h2 : H0[m]? = some (.map es clock)) (h60 : t.getD 43 undef = ptr it) (h5 : t.getD 3 undef = ptr bx) (hsz : t.size = 55) :
    CW ro Try.prog (.block 4 (.loop round)) H0 t (fun x t' H' => x = .normal ∧ Same D t t' ∧ H' = endH H0 it m clock es) := by
  refine CW.forget (CW.block ?_)
  refine CW.loopInv (I := fun t' H' => ∃ seen n, Same D t t' ∧ H' = gH H0 it m clock seen (leftOf es seen) n ∧ (unseen es seen).length + n = es.length) (fun _ H' => es.length + H0.length - H'.length) ?_ ?_
  · rintro t' H' ⟨seen, n, hs, rfl, hn⟩
    refine (round_ok hp hh (t := t') (by rw [hs.2 43 (by decide), h60]) (by rw [hs.2 3 (by decide), h5]) (hs.1.trans hsz)).mono ?_
    intro x t2 H2 hx
    cases x with
    | normal =>
      obtain ⟨seen', k1, rfl, k3⟩ := hx
      refine ⟨⟨seen', n + 1, ⟨k1.1.trans hs.1, fun k hk => (k1.2 k hk).trans (hs.2 k hk)⟩, rfl, by omega⟩, ?_⟩
      simp only [gH_length]
      omega
    | exit id =>
      obtain ⟨k0, k1, k2, rfl⟩ := hx
      cases k0
      refine ⟨[it], rfl, ⟨k2.1.trans hs.1, fun k hk => (k2.2 k hk).trans (hs.2 k hk)⟩, ?_⟩
      show (_ : Heap).set it .gone = _
      rw [k1] at hn
      exact gH_end hh k1 (by simpa using hn)
    | ret => obtain ⟨k0, _⟩ := hx; cases k0
  · refine ⟨#[], 0, Same.refl D t, ?_, by rw [unseen_none]; rfl⟩
    rw [left_none, gH_start hh h1 h2]

/-- The function, by a program. -/
noncomputable def bench (tbl : Tbl) (k : Nat) : List Value → Heap → Option (Value × Heap × List Nat) := fun args H =>
  match Nat.ble args.length 55 with
  | false => none
  | true => match evRun Try.prog tbl k [R0, R1, R2, A3] H ((Tr.mk 55 55).args 0 args) with
    | none => none
    | some (Ta, Ha, la) => match evCT Try.prog tbl k true R12 Ha Ta with
     | some (.normal, T, H1, lb) => match T.get 43, T.get 3, T.get 2 with
      | .pointer (some ⟨it, 0, none⟩), .pointer (some ⟨bx, 0, none⟩), .pointer (some ⟨rb, 0, none⟩) => match H1[it]?, H1[bx]? with
        | some (.iter m since seen last), some (.rw cs _) => match H1[m]?, (cs[7]? : Option Value) with
          | some (.map es clock), some (.map (some m')) => match Nat.beq m m' && (Nat.beq T.count 55 && (seen.isEmpty && (Nat.beq since clock && (Nat.beq last clock && (!Nat.beq it m && (!Nat.beq bx it && (!Nat.beq bx m && (Nat.ble H.length m && (Nat.ble H.length it && (Nat.ble H.length rb && purgeB Try.prog KT 2 clock es)))))))))) with
            | true => match aloadVar Try.prog (endH H1 it m clock es) 107 ⟨bx, 0, none⟩ with
              | some v1 => match astoreVar Try.prog (endH H1 it m clock es) 107 ⟨rb, 0, none⟩ v1 with
                | some Hy => match aloadVar Try.prog Hy 107 ⟨rb, 0, none⟩ with
                  | some v2 => some (gcOf H.length v2 Hy (la ++ lb))
                  | none => none
                | none => none
              | none => none
            | false => none
          | _, _ => none
        | _, _ => none
      | _, _, _ => none
     | _ => none

theorem R17_eq : R17 = .region 17 ops17 false := by kernel_rfl
theorem fn_at : Try.prog.funcs[74]? = some fn := by kernel_rfl
theorem fn_body : fn.body = some body := by kernel_rfl
theorem fn_tmps : fn.ntmps = 55 := by kernel_rfl
theorem fn_res : fn.results.toList = [.cell 2 107] := by kernel_rfl

set_option maxRecDepth 20000 in
theorem bench_ok {tbl : Tbl} (ht : TblOk Try.prog tbl) {k : Nat} {args : List Value} {H H' : Heap} {v : Value} {l : List Nat} (h : bench tbl k args H = some (v, H', l)) :
    Call Try.prog 74 args H (fun v' H2 => v' = v ∧ H2 = H') ∧ Kept H H' l := by
  unfold bench at h
  split at h <;> try (cases h; done)
  rename_i hle
  split at h <;> try (cases h; done)
  rename_i Ta Ha la hrun
  split at h <;> try (cases h; done)
  rename_i T H1 lb hrun2
  split at h <;> try (cases h; done)
  rename_i it bx rb e60 e5 e2
  split at h <;> try (cases h; done)
  rename_i m since seen last cs room hit hbx
  split at h <;> try (cases h; done)
  rename_i es clock m' hm hcs
  split at h <;> try (cases h; done)
  rename_i hck
  split at h <;> try (cases h; done)
  rename_i v1 hv1
  split at h <;> try (cases h; done)
  rename_i Hy hHy
  split at h <;> try (cases h; done)
  rename_i v2 hv2
  injection h with h
  simp only [Bool.and_eq_true, Bool.not_eq_true', Nat.ble_eq] at hck
  obtain ⟨d0, hcount, hseen, d1, d2, c1, c2, c3, c4, c5, c6, c7⟩ := hck
  replace d0 := beqT d0; replace d1 := beqT d1; replace d2 := beqT d2; replace c1 := beqF c1; replace c2 := beqF c2; replace c3 := beqF c3
  subst d0; subst d1; subst d2
  have hseen : seen = #[] := by simpa using hseen
  subst hseen
  have hp := purgeB_ok c7
  have hm1 : m < H1.length := (List.getElem?_eq_some_iff.1 hm).1
  have hh : Head H1 it m bx 7 := ⟨(List.getElem?_eq_some_iff.1 hit).1, hm1, c1, ⟨cs, room, hbx, hcs⟩, c2, c3⟩
  have hF := FR.start (n := 55) (args := args) (Nat.le_of_ble_eq_true hle)
  obtain ⟨t0, k1, k2, k3⟩ := evRun_sound ht _ hF hrun
  obtain ⟨t1, k4, k5⟩ := evCT_sub tbl k true _ _ _ _ _ _ _ _ k1 hrun2
  obtain ⟨k6, k7⟩ := (evC_sound ht k true none (fun _ => rfl) _ _ _ _ _ _ _ k5).1
  have hkept := k2.trans k7
  have t60 : t1.getD 43 undef = ptr it := by rw [← k4.2 43, e60]; rfl
  have t5 : t1.getD 3 undef = ptr bx := by rw [← k4.2 3, e5]; rfl
  have t2' : t1.getD 2 undef = ptr rb := by rw [← k4.2 2, e2]; rfl
  have hsz : t1.size = 55 := by rw [← Tr.count_full k4.1]; exact beqT hcount
  have hmain : CW none Try.prog body H (args.toArray ++ Array.replicate (fn.ntmps - args.length) undef) fun x t H' => (x = .normal ∨ x = .ret) ∧ ∃ v, aresults Try.prog fn t H' = some v ∧ v = v2 ∧ H' = Hy := by
    rw [body_eq, fn_tmps]
    refine k3 _ _ (CW.seq (CW.seq (k6.mono ?_)))
    rintro x t' H' ⟨rfl, rfl, rfl⟩
    refine (loop_ok hp hh hit hm t60 t5 hsz).mono ?_
    rintro x t2 H2 ⟨rfl, hs, rfl⟩
    refine CW.seq (CW.region ?_)
    rw [r17]
    have hz2 : t2.size = 55 := hs.1.trans hsz
    refine st_load (i := 0) (o := opAt ops17 0) (d := 54) (x := 3) (ty := 107) (by kernel_rfl) (by kernel_rfl) (by kernel_rfl) (by kernel_rfl) (a := ⟨bx, 0, none⟩) (v := v1) ?_ hv1 ?_
    · rw [hs.2 3 (by decide), t5]; rfl
    have f2 : (aput t2 (some 54) v1).getD 2 undef = ptr rb := by rw [getD_aput, if_neg (by simp), hs.2 2 (by decide), t2']
    have f54 : (aput t2 (some 54) v1).getD 54 undef = v1 := by rw [getD_aput, if_pos ⟨rfl, by rw [hz2]; decide⟩]
    refine st_store (i := 1) (o := opAt ops17 1) (x := 2) (y := 54) (ty := 107) (by kernel_rfl) (by kernel_rfl) (by kernel_rfl) (by kernel_rfl) (a := ⟨rb, 0, none⟩) (H1 := Hy) ?_ ?_ ?_
    · rw [f2]; rfl
    · rw [f54]; exact hHy
    refine CW.ret ⟨.inr rfl, v2, ?_, rfl, rfl⟩
    unfold aresults
    rw [fn_res]
    simp only [aress, aresVar, f2, ptr, hv2, Option.bind_some, Option.map_some]
  have hk : Kept H Hy (la ++ lb) := by
    have h1 : Kept H (endH H1 it m last es) (la ++ lb) := ⟨by rw [endH_length]; have := hkept.1; omega, fun b hb hn => by
      rw [endH_get (by have := hkept.1; omega) (by omega) (by omega)]; exact hkept.2 b hb hn⟩
    have h2 : Kept (endH H1 it m last es) Hy [rb] := by
      unfold astoreVar at hHy
      split at hHy
      · exact astore_kept hHy
      · cases hHy
    refine ⟨Nat.le_trans h1.1 h2.1, fun b hb hn => ?_⟩
    rw [h2.2 b (by have := h1.1; omega) (by simp; omega)]
    exact h1.2 b hb hn
  exact gcOf_ok ⟨Call.body fn_at fn_body hmain, hk⟩ h

end Go.Pier.Bench
