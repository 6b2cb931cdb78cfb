/-
  Pier: package wheel: the table of the functions that range over maps.
-/
import Derived.Test.YthojbpelnfdgcacPierPlay
import Derived.Test.YthojbpelnfdgcacPierW
namespace Go.Pier.WheelK
open Go Go.Pier Go.Proofs

def vi (n : Int) : Value := .int .i64 n
noncomputable def t0 : Tbl := fun _ => none
noncomputable def tb : Tbl := fun f => match Nat.beq f 74 with
  | true => some (Bench.bench t0 5000)
  | false => match Nat.beq f 109 with
    | true => some (Play.play t0 5000)
    | false => none
theorem t0_ok : TblOk Try.prog t0 := tblOk_none
theorem tb_ok : TblOk Try.prog tb := by
  intro f g hg args H v H' l h
  unfold tb at hg
  split at hg
  · rename_i hf
    cases hg
    rw [Nat.eq_of_beq_eq_true hf]
    exact Bench.bench_ok t0_ok h
  · split at hg
    · rename_i hf
      cases hg
      rw [Nat.eq_of_beq_eq_true hf]
      exact Play.play_ok t0_ok h
    · cases hg

end Go.Pier.WheelK
