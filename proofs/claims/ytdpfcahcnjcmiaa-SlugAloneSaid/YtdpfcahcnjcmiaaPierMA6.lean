import Derived.Test.YtdpfcahcnjcmiaaPierW
import Derived.Test.YtdpfcahcnjcmiaaPierMA5
import Derived.Test.YtdpfcahcnjcmiaaPierSlugAL
import Derived.Test.YtdpfcahcnjcmiaaPierSlugAH
set_option linter.unusedSimpArgs false
set_option linter.unusedVariables false
namespace Go.Pier
open Go
variable {P : Program} {H : Heap} {f : FuncId}
noncomputable def endsB (P : Program) (fn : Func) (p : Value → Bool) : Option ResT → Bool
  | some (e, T, H, _) => (match e with | .ret => true | .normal => true | _ => false) && (match aresultsT P fn T H with | some v => p v | none => false)
  | none => false
theorem endsB_ok {fn : Func} {p : Value → Bool} {o : Option ResT} (h : endsB P fn p o = true) : ∃ e T H l v, o = some (e, T, H, l) ∧ (e = .normal ∨ e = .ret) ∧ aresultsT P fn T H = some v ∧ p v = true := by
  unfold endsB at h
  split at h
  · rename_i e T H l
    rw [Bool.and_eq_true] at h
    obtain ⟨h1, h2⟩ := h
    split at h2
    · rename_i v hv
      refine ⟨e, T, H, l, v, rfl, ?_, hv, h2⟩
      cases e <;> first | exact .inr rfl | exact .inl rfl | (cases h1; done)
    · cases h2
  · cases h
theorem evC_seq {tbl : Tbl} {n : Nat} {top : Option Nat} {A B : Code} {t t1 t2 : Array Value} {H1 H2 : Heap} {l1 l2 : List Nat} {e : AExit} (h1 : evC P tbl n top A H t = some (.normal, t1, H1, l1)) (h2 : evC P tbl n top B H1 t1 = some (e, t2, H2, l2)) :
    evC P tbl (n + 1) top (.seq A B) H t = some (e, t2, H2, l1 ++ l2) := by
  unfold evC
  simp only [h1, Option.bind_some, if_true, h2, Option.map_some]
theorem evC_of {tbl : Tbl} {n : Nat} {top : Option Nat} {A : Code} {T T2 : Tr} {t : Array Value} {H2 : Heap} {l : List Nat} {e : AExit} (h : evCT P tbl n top A H T = some (e, T2, H2, l)) (hF : FR T t) :
    ∃ t2, FR T2 t2 ∧ evC P tbl n top A H t = some (e, t2, H2, l) := evCT_sub tbl n top A H T t e T2 H2 l hF h
theorem Call.ofRunA {tbl : Tbl} (ht : TblOk P tbl) {n : Nat} {fn : Func} {c : Code} {args : List Value} {e : AExit} {t : Array Value} {H2 : Heap} {l : List Nat} {v : Value} (hf : P.funcs[f]? = some fn) (hb : fn.body = some c)
    (hc : evC P tbl n none c H (args.toArray ++ Array.replicate (fn.ntmps - args.length) undef) = some (e, t, H2, l)) (he : e = .normal ∨ e = .ret) (hv : aresults P fn t H2 = some v) : Call P f args H fun v' _ => v' = v := by
  have h : ∃ H' l', evFun P (evC P tbl n none) f args H = some (v, H', l') := by
    unfold evFun
    rw [hf]
    simp only [hb, hc, Option.bind_some, if_pos he, hv]
    split
    · exact ⟨_, _, rfl⟩
    · exact ⟨_, _, rfl⟩
  obtain ⟨H', l', h⟩ := h
  exact ((evFun_sound (P := P) (fun c H t x t' H' l h => (evC_sound ht n none c H t x t' H' l h).1) _ _ _ _ _ _ h).1).mono fun v' H2 h => h.1
end Go.Pier
namespace Go.Pier.SlugK
open Go Go.Pier Go.Proofs
def cFst : Code → Code | .seq a _ => a | _ => .skip
def cSnd : Code → Code | .seq _ b => b | _ => .skip
noncomputable def alB : Code := Try.f13.body.getD .skip
noncomputable def alC : Code := cSnd (cSnd alB)
noncomputable def ta : Bool → Tbl := fun b => match b with | false => pureTbl [16] [works] mat | true => pureTbl [16] [works] mbt
theorem ta_ok : ∀ b, TblOk Try.prog (ta b)
  | false => pureTbl_ok (by intro p hp; rw [List.mem_singleton] at hp; rw [hp]; exact works_ok) mat_ok
  | true => pureTbl_ok (by intro p hp; rw [List.mem_singleton] at hp; rw [hp]; exact works_ok) mbt_ok
noncomputable def alT (c w u x : Int) (b : Bool) : Tr := ((((((Tr.mk 59 59).args 0 [.int .u8 c, .bool b]).set 4 (.bool false)).set 13 (.int .u8 c)).set 14 (vi w)).set 15 (vi u)).set 16 (vi x) |>.set 5 (vi x)
noncomputable def alS (c : Int) (b : Bool) : Array Value := [Value.int .u8 c, .bool b].toArray ++ Array.replicate (59 - 2) undef
noncomputable def alA0 (c : Int) (b : Bool) : Array Value := (alS c b).setIfInBounds 4 (.bool false)
noncomputable def alA (c w u x : Int) (b : Bool) : Array Value := (((((alA0 c b).setIfInBounds 13 (.int .u8 c)).setIfInBounds 14 (vi w)).setIfInBounds 15 (vi u)).setIfInBounds 16 (vi x)).setIfInBounds 5 (vi x)
def isT : Value → Bool | .bool true => true | _ => false
noncomputable def alRun (c w u x : Int) (b : Bool) : Bool := endsB Try.prog Try.f13 isT (evCT Try.prog (ta b) 20000 none alC [] (alT c w u x b))
theorem al_seq : Try.f13.body = some (.seq (cFst alB) (.seq (cFst (cSnd alB)) alC)) := by kernel_rfl
theorem al_0 (t : Tbl) (c : Int) (b : Bool) : evC Try.prog t 20001 none (cFst alB) [] (alS c b) = some (.normal, alA0 c b, [], []) := by kernel_rfl
theorem al_1 (t : Tbl) (c : Int) (b : Bool) : evC Try.prog t 20000 none (cFst (cSnd alB)) [] (alA0 c b) = some (.normal, alA c (IntKind.i64.wrap c) ((IntKind.i64.wrap c).tmod 12) (IntKind.i64.wrap (1 + (IntKind.i64.wrap c).tmod 12)) b, [], []) := by kernel_rfl
theorem al_fr (c w u x : Int) (b : Bool) : FR (alT c w u x b) (alA c w u x b) :=
  ((((((FR.start (n := 59) (args := [Value.int .u8 c, .bool b]) (show 2 ≤ 59 by omega)).set 4 _).set 13 _).set 14 _).set 15 _).set 16 _).set 5 _
theorem al_call {c x : Int} {b : Bool} (hx : IntKind.i64.wrap (1 + (IntKind.i64.wrap c).tmod 12) = x) (h : ∀ w u, alRun c w u x b = true) : Call Try.prog 13 [.int .u8 c, .bool b] [] fun v _ => v = .bool true := by
  obtain ⟨e, T, H2, l, v, h1, h2, h3, h4⟩ := endsB_ok (h (IntKind.i64.wrap c) ((IntKind.i64.wrap c).tmod 12))
  obtain ⟨t2, f2, h5⟩ := evC_of h1 (al_fr _ _ _ _ _)
  have k1 := al_1 (ta b) c b
  rw [hx] at k1
  have k2 := evC_seq (al_0 (ta b) c b) (evC_seq k1 h5)
  have hv : v = .bool true := by
    unfold isT at h4
    split at h4
    · rfl
    · cases h4
  subst hv
  rw [f2.results] at h3
  exact Call.ofRunA (ta_ok b) (fn := Try.f13) Try.func13 al_seq k2 h2 h3
end Go.Pier.SlugK
