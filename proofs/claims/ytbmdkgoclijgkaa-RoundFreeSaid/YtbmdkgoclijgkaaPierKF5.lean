import Derived.Test.YtbmdkgoclijgkaaPierKF4
import Derived.KernelRfl
import Derived.Test.YtbmdkgoclijgkaaPierW
import Derived.Test.YtbmdkgoclijgkaaProg
set_option linter.unusedSimpArgs false
set_option linter.unusedVariables false
namespace Go.Pier.Rd
open Go Go.Pier Go.Proofs
theorem u89 : Try.prog.underlying 89 = some (.array 10 2) := by kernel_rfl
theorem u2 : Try.prog.underlying 2 = some (.int .i64) := by kernel_rfl
theorem part10 {x : Nat → Int} {i : Nat} (h : i < 10) : pureRun Try.prog (part 2 (I10 x []).toArray (i * 1)) = some (vi (x i)) := by
  rcases i with _ | _ | _ | _ | _ | _ | _ | _ | _ | _ | i
  · kernel_rfl
  · kernel_rfl
  · kernel_rfl
  · kernel_rfl
  · kernel_rfl
  · kernel_rfl
  · kernel_rfl
  · kernel_rfl
  · kernel_rfl
  · kernel_rfl
  · omega
theorem eqArr10 (d : Nat) (x y : Nat → Int) : pureRun Try.prog (Op.equalIn (d + 2) 89 (.agg (I10 x []).toArray) (.agg (I10 y []).toArray)) = some ((List.range' 0 10).all fun i => x i == y i) := by
  unfold Op.equalIn
  rw [pureRun_bind (undl u89)]
  simp only []
  rw [pureRun_bind (show pureRun Try.prog (sizeOf 2) = some 1 by kernel_rfl)]
  simp only [Std.Legacy.Range.forIn_eq_forIn_range']
  rw [pureRun_bind (loop_all (e := fun i => x i == y i) _ fun i hi s => ?_)]
  · have e8 : List.range' 0 ([:10] : Std.Legacy.Range).size = List.range' 0 10 := rfl
    rw [e8]
    cases (List.range' 0 10).all fun i => x i == y i <;> rfl
  · have hi8 : i < 10 := by
      have : i ∈ List.range' 0 10 := hi
      simp [List.mem_range'] at this
      omega
    rw [pureRun_bind (part10 hi8), pureRun_bind (part10 hi8), pureRun_bind (eqNum _ u2 _ _)]
    cases x i == y i <;> rfl
def eq10 (x y : Nat → Int) : Bool := (List.range' 0 10).all fun i => x i == y i
theorem eq10_true {x y : Nat → Int} (h : ∀ i, i < 10 → x i = y i) : eq10 x y = true := List.all_eq_true.2 fun i hi => by
  simp [List.mem_range'] at hi
  rw [h i (by omega)]; exact beq_self_eq_true _
theorem eq10_false {x y : Nat → Int} {i : Nat} (hi : i < 10) (h : x i ≠ y i) : eq10 x y = false := by
  cases e : eq10 x y with
  | false => rfl
  | true =>
    have := List.all_eq_true.1 e i (by simp [List.mem_range']; omega)
    exact absurd (eq_of_beq this) h
def orcA10 : Orc := fun env H o => match o.op with
  | .binOp op t x y _ => match Nat.beq t 89 with
    | true => match env x, env y with
      | some (.agg ⟨[.int .i64 a0, .int .i64 a1, .int .i64 a2, .int .i64 a3, .int .i64 a4, .int .i64 a5, .int .i64 a6, .int .i64 a7, .int .i64 a8, .int .i64 a9]⟩), some (.agg ⟨[.int .i64 b0, .int .i64 b1, .int .i64 b2, .int .i64 b3, .int .i64 b4, .int .i64 b5, .int .i64 b6, .int .i64 b7, .int .i64 b8, .int .i64 b9]⟩) => match op with
        | .eql => some (True, some (.bool (eq10 (l10 a0 a1 a2 a3 a4 a5 a6 a7 a8 a9) (l10 b0 b1 b2 b3 b4 b5 b6 b7 b8 b9))), H)
        | _ => none
      | _, _ => none
    | false => none
  | _ => none
theorem orcA10_ok : OrcOk Try.prog orcA10 := fun env H o φ v H' h hφ => by
  unfold orcA10 at h
  split at h <;> try (cases h; done)
  rename_i op t x y yt hop
  split at h <;> try (cases h; done)
  rename_i ht
  obtain rfl := Nat.eq_of_beq_eq_true ht
  split at h <;> try (cases h; done)
  rename_i a0 a1 a2 a3 a4 a5 a6 a7 a8 a9 b0 b1 b2 b3 b4 b5 b6 b7 b8 b9 ha hb
  have hsc : ∀ a : Nat → Int, sc 0 (.agg (I10 a []).toArray) = true := fun a => by
    show (I10 a []).toArray.all (sc1 0) = true
    rw [← Array.all_toList]; rfl
  have hg : pureRun Try.prog (eqGuard .eql 89 x y (.agg (I10 (l10 a0 a1 a2 a3 a4 a5 a6 a7 a8 a9) []).toArray) (.agg (I10 (l10 b0 b1 b2 b3 b4 b5 b6 b7 b8 b9) []).toArray)) = some () := by
    have hp : pureRun Try.prog program = some Try.prog := rfl
    have hgd : Try.prog.eqGuardType Try.prog.depth 89 = false := by kernel_rfl
    unfold eqGuard
    simp only [Bool.not_true, Bool.false_eq_true, if_false]
    rw [pureRun_bind hp, pureRun_bind hp, hgd]
    rfl
  split at h <;> cases h
  unfold evOp
  rw [hop]
  simp only [ha, hb]
  have : evBin Try.prog .eql 89 x y (.agg (I10 (l10 a0 a1 a2 a3 a4 a5 a6 a7 a8 a9) []).toArray) (.agg (I10 (l10 b0 b1 b2 b3 b4 b5 b6 b7 b8 b9) []).toArray) = some (.bool (eq10 (l10 a0 a1 a2 a3 a4 a5 a6 a7 a8 a9) (l10 b0 b1 b2 b3 b4 b5 b6 b7 b8 b9))) := by
    unfold evBin
    rw [if_pos ⟨hsc _, hsc _⟩, pureRun_bind hg]
    have : pureRun Try.prog (binOp .eql 89 (.agg (I10 (l10 a0 a1 a2 a3 a4 a5 a6 a7 a8 a9) []).toArray) (.agg (I10 (l10 b0 b1 b2 b3 b4 b5 b6 b7 b8 b9) []).toArray)) = some (.bool (eq10 (l10 a0 a1 a2 a3 a4 a5 a6 a7 a8 a9) (l10 b0 b1 b2 b3 b4 b5 b6 b7 b8 b9))) := by
      show pureRun Try.prog (Op.equalIn (9998 + 2) 89 _ _ >>= fun r => (pure (Value.bool r) : Sem Value)) = _
      rw [pureRun_bind (eqArr10 9998 _ _)]; rfl
    rw [this]; rfl
  have e : (outOf (some (Value.bool (eq10 (l10 a0 a1 a2 a3 a4 a5 a6 a7 a8 a9) (l10 b0 b1 b2 b3 b4 b5 b6 b7 b8 b9))))) = .value (.bool (eq10 (l10 a0 a1 a2 a3 a4 a5 a6 a7 a8 a9) (l10 b0 b1 b2 b3 b4 b5 b6 b7 b8 b9))) := rfl
  show Option.map _ (evBin Try.prog .eql 89 x y (.agg (I10 (l10 a0 a1 a2 a3 a4 a5 a6 a7 a8 a9) []).toArray) (.agg (I10 (l10 b0 b1 b2 b3 b4 b5 b6 b7 b8 b9) []).toArray)) = _
  rw [this]; rfl
end Go.Pier.Rd
set_option maxRecDepth 100000
set_option linter.unusedVariables false
set_option linter.unusedSimpArgs false
namespace Go.Pier.Rd
open Go Go.Pier Go.Proofs
noncomputable def ls_c0 : Code := (Code.region (4 : Nat) { toList := [{ dst := some (7 : Nat), op := Op.alloc (91 : Nat), type := (0 : Nat), pos := "trip.go:77", after := { toList := [] }, guard := none }, { dst := none, op := Op.store (91 : Nat) (Operand.tmp (7 : Nat)) (Operand.tmp (9 : Nat)), type := (0 : Nat), pos := "trip.go:77", after := { toList := [{ on := (0 : Nat), ground := Ground.data }, { on := (0 : Nat), ground := Ground.phase }] }, guard := none }] } false)
noncomputable def ls_c1 : Code := (Code.block (1 : Nat) ((Code.region (5 : Nat) { toList := [{ dst := some (10 : Nat), op := Op.load (4 : Nat) (Operand.tmp (6 : Nat)), type := (4 : Nat), pos := "trip.go:78", after := { toList := [] }, guard := none }, { dst := some (11 : Nat), op := Op.move (Operand.tmp (10 : Nat)), type := (4 : Nat), pos := "trip.go:78", after := { toList := [{ on := (0 : Nat), ground := Ground.data }] }, guard := none }, { dst := some (12 : Nat), op := Op.load (129 : Nat) (Operand.tmp (3 : Nat)), type := (129 : Nat), pos := "trip.go:78", after := { toList := [{ on := (1 : Nat), ground := Ground.guard }] }, guard := some ((1 : Nat), false) }, { dst := some (13 : Nat), op := Op.load (91 : Nat) (Operand.tmp (7 : Nat)), type := (91 : Nat), pos := "trip.go:78", after := { toList := [{ on := (1 : Nat), ground := Ground.guard }] }, guard := some ((1 : Nat), false) }, { dst := some (14 : Nat), op := Op.call { callee := Callee.value (Operand.tmp (12 : Nat)), args := { toList := [Operand.tmp (13 : Nat)] }, argTypes := { toList := [(91 : Nat)] } }, type := (2 : Nat), pos := "trip.go:78", after := { toList := [{ on := (2 : Nat), ground := Ground.data }, { on := (3 : Nat), ground := Ground.data }, { on := (1 : Nat), ground := Ground.chain }, { on := (1 : Nat), ground := Ground.guard }] }, guard := some ((1 : Nat), false) }, { dst := some (15 : Nat), op := Op.load (129 : Nat) (Operand.tmp (3 : Nat)), type := (129 : Nat), pos := "trip.go:78", after := { toList := [{ on := (1 : Nat), ground := Ground.guard }] }, guard := some ((1 : Nat), false) }, { dst := some (16 : Nat), op := Op.load (91 : Nat) (Operand.tmp (5 : Nat)), type := (91 : Nat), pos := "trip.go:78", after := { toList := [{ on := (1 : Nat), ground := Ground.guard }] }, guard := some ((1 : Nat), false) }, { dst := some (17 : Nat), op := Op.call { callee := Callee.value (Operand.tmp (15 : Nat)), args := { toList := [Operand.tmp (16 : Nat)] }, argTypes := { toList := [(91 : Nat)] } }, type := (2 : Nat), pos := "trip.go:78", after := { toList := [{ on := (5 : Nat), ground := Ground.data }, { on := (6 : Nat), ground := Ground.data }, { on := (4 : Nat), ground := Ground.chain }, { on := (1 : Nat), ground := Ground.guard }] }, guard := some ((1 : Nat), false) }, { dst := some (18 : Nat), op := Op.binOp BinOp.lss (2 : Nat) (Operand.tmp (14 : Nat)) (Operand.tmp (17 : Nat)) (2 : Nat), type := (4 : Nat), pos := "trip.go:78", after := { toList := [{ on := (4 : Nat), ground := Ground.data }, { on := (7 : Nat), ground := Ground.data }, { on := (1 : Nat), ground := Ground.guard }] }, guard := some ((1 : Nat), false) }, { dst := some (19 : Nat), op := Op.pick (Operand.tmp (11 : Nat)) (Operand.const (Value.bool true)) (Operand.tmp (18 : Nat)), type := (4 : Nat), pos := "trip.go:78", after := { toList := [{ on := (1 : Nat), ground := Ground.data }, { on := (8 : Nat), ground := Ground.data }] }, guard := none }] } true).seq (Code.cond (Operand.tmp (19 : Nat)) (Code.region (6 : Nat) { toList := [{ dst := some (20 : Nat), op := Op.load (91 : Nat) (Operand.tmp (7 : Nat)), type := (91 : Nat), pos := "trip.go:79", after := { toList := [] }, guard := none }, { dst := none, op := Op.store (91 : Nat) (Operand.tmp (5 : Nat)) (Operand.tmp (20 : Nat)), type := (0 : Nat), pos := "trip.go:79", after := { toList := [{ on := (0 : Nat), ground := Ground.data }, { on := (0 : Nat), ground := Ground.phase }] }, guard := none }, { dst := none, op := Op.store (4 : Nat) (Operand.tmp (6 : Nat)) (Operand.const (Value.bool false)), type := (0 : Nat), pos := "trip.go:79", after := { toList := [{ on := (1 : Nat), ground := Ground.chain }, { on := (0 : Nat), ground := Ground.phase }, { on := (1 : Nat), ground := Ground.phase }] }, guard := none }] } false) Code.skip)))
noncomputable def ls_c2 : Code := (Code.region (2 : Nat) { toList := [{ dst := some (4 : Nat), op := Op.alloc (91 : Nat), type := (0 : Nat), pos := "trip.go:64", after := { toList := [] }, guard := none }, { dst := none, op := Op.store (91 : Nat) (Operand.tmp (4 : Nat)) (Operand.tmp (6 : Nat)), type := (0 : Nat), pos := "trip.go:64", after := { toList := [{ on := (0 : Nat), ground := Ground.data }, { on := (0 : Nat), ground := Ground.phase }] }, guard := none }] } false)
noncomputable def ls_c3 : Code := (Code.block (1 : Nat) ((Code.region (3 : Nat) { toList := [{ dst := some (7 : Nat), op := Op.load (93 : Nat) (Operand.tmp (2 : Nat)), type := (93 : Nat), pos := "trip.go:65", after := { toList := [] }, guard := none }, { dst := some (8 : Nat), op := Op.load (91 : Nat) (Operand.tmp (4 : Nat)), type := (91 : Nat), pos := "trip.go:65", after := { toList := [] }, guard := none }, { dst := some (9 : Nat), op := Op.call { callee := Callee.value (Operand.tmp (7 : Nat)), args := { toList := [Operand.tmp (8 : Nat)] }, argTypes := { toList := [(91 : Nat)] } }, type := (4 : Nat), pos := "trip.go:65", after := { toList := [{ on := (0 : Nat), ground := Ground.data }, { on := (1 : Nat), ground := Ground.data }] }, guard := none }, { dst := some (10 : Nat), op := Op.move (Operand.tmp (9 : Nat)), type := (4 : Nat), pos := "trip.go:65", after := { toList := [{ on := (2 : Nat), ground := Ground.data }, { on := (2 : Nat), ground := Ground.chain }] }, guard := none }, { dst := some (11 : Nat), op := Op.load (93 : Nat) (Operand.tmp (3 : Nat)), type := (93 : Nat), pos := "trip.go:65", after := { toList := [{ on := (3 : Nat), ground := Ground.guard }] }, guard := some ((3 : Nat), true) }, { dst := some (12 : Nat), op := Op.load (91 : Nat) (Operand.tmp (4 : Nat)), type := (91 : Nat), pos := "trip.go:65", after := { toList := [{ on := (3 : Nat), ground := Ground.guard }] }, guard := some ((3 : Nat), true) }, { dst := some (13 : Nat), op := Op.call { callee := Callee.value (Operand.tmp (11 : Nat)), args := { toList := [Operand.tmp (12 : Nat)] }, argTypes := { toList := [(91 : Nat)] } }, type := (4 : Nat), pos := "trip.go:65", after := { toList := [{ on := (4 : Nat), ground := Ground.data }, { on := (5 : Nat), ground := Ground.data }, { on := (3 : Nat), ground := Ground.chain }, { on := (3 : Nat), ground := Ground.guard }] }, guard := some ((3 : Nat), true) }, { dst := some (14 : Nat), op := Op.unOp UnOp.not (4 : Nat) (Operand.tmp (13 : Nat)), type := (4 : Nat), pos := "trip.go:65", after := { toList := [{ on := (6 : Nat), ground := Ground.data }, { on := (3 : Nat), ground := Ground.guard }] }, guard := some ((3 : Nat), true) }, { dst := some (15 : Nat), op := Op.pick (Operand.tmp (10 : Nat)) (Operand.tmp (14 : Nat)) (Operand.const (Value.bool false)), type := (4 : Nat), pos := "trip.go:65", after := { toList := [{ on := (3 : Nat), ground := Ground.data }, { on := (7 : Nat), ground := Ground.data }] }, guard := none }] } false).seq (Code.cond (Operand.tmp (15 : Nat)) Code.ret Code.skip)))
noncomputable def ls_c4 : Code := (Code.region (2 : Nat) { toList := [{ dst := some (3 : Nat), op := Op.assign (Operand.tmp (6 : Nat)), type := (25 : Nat), pos := "trip.go:40", after := { toList := [] }, guard := none }] } false)
noncomputable def ls_c5 : Code := (Code.block (1 : Nat) ((Code.region (3 : Nat) { toList := [{ dst := some (7 : Nat), op := Op.load (93 : Nat) (Operand.tmp (2 : Nat)), type := (93 : Nat), pos := "trip.go:41", after := { toList := [] }, guard := none }, { dst := some (8 : Nat), op := Op.load (79 : Nat) (Operand.tmp (1 : Nat)), type := (79 : Nat), pos := "trip.go:41", after := { toList := [] }, guard := none }, { dst := some (9 : Nat), op := Op.move (Operand.tmp (3 : Nat)), type := (25 : Nat), pos := "trip.go:41", after := { toList := [] }, guard := none }, { dst := some (10 : Nat), op := Op.call { callee := Callee.value (Operand.func (60 : Nat)), args := { toList := [Operand.tmp (8 : Nat), Operand.tmp (9 : Nat)] }, argTypes := { toList := [(79 : Nat), (25 : Nat)] } }, type := (91 : Nat), pos := "trip.go:41", after := { toList := [{ on := (1 : Nat), ground := Ground.data }, { on := (2 : Nat), ground := Ground.data }] }, guard := none }, { dst := some (11 : Nat), op := Op.call { callee := Callee.value (Operand.tmp (7 : Nat)), args := { toList := [Operand.tmp (10 : Nat)] }, argTypes := { toList := [(91 : Nat)] } }, type := (4 : Nat), pos := "trip.go:41", after := { toList := [{ on := (0 : Nat), ground := Ground.data }, { on := (3 : Nat), ground := Ground.data }, { on := (3 : Nat), ground := Ground.chain }] }, guard := none }, { dst := some (12 : Nat), op := Op.unOp UnOp.not (4 : Nat) (Operand.tmp (11 : Nat)), type := (4 : Nat), pos := "trip.go:41", after := { toList := [{ on := (4 : Nat), ground := Ground.data }] }, guard := none }] } true).seq (Code.cond (Operand.tmp (12 : Nat)) Code.ret Code.skip)))
noncomputable def shL (b : Int) (n f : Nat) (l : List Int) : LS := fdR b n l true empI (rds n n f f [])
noncomputable def g1Ct (b : Int) (n c f : Nat) (l : List Int) (S : LS) : Ct := fun fn args H => match Nat.beq fn 134 with
  | true => some (some (args = [ptr0 1, nilS, vi f, vi f, yv 15] ∧ H = EHL b n c f l true 16 empI), .bool true, EHL b n c f l S.no 16 S.st ++ [.gone], [8, 9])
  | false => none
noncomputable def ls1E (b : Int) (n c f : Nat) (l : List Int) (S : LS) : VEnv := { ct := g1Ct b n c f l S, orc := prO }
noncomputable def ls2E (b : Int) (n c f : Nat) (l : List Int) (S : LS) : VEnv := { orc := prO, cc := ccIn Try.prog (ls1E b n c f l S) [⟨133, Try.f133, fun _ _ _ => none⟩, ⟨124, Try.f124, fun _ _ _ => none⟩] }
noncomputable def ls3E (b : Int) (n c f : Nat) (l : List Int) (S : LS) : VEnv := { orc := prO, cc := ccIn Try.prog (ls2E b n c f l S) [⟨123, Try.f123, fun _ _ _ => none⟩] }
noncomputable def ls4E (b : Int) (n c f : Nat) (l : List Int) (S : LS) : VEnv := { orc := prO, cc := ccIn Try.prog (ls3E b n c f l S) [⟨122, Try.f122, fun _ _ _ => none⟩] }
noncomputable def lsB : Code := Try.f102.body.getD .skip
def B6 (b : Int) (n c f : Nat) (l : List Int) : Heap := [ros l, .rw (walkC b n c f (tmd n)) none, .rw [ptr0 1] none, .rw [tripsF] none, .rw [.func (.func 61) #[ptr0 1] #[]] none, .gone]
def LR (b : Int) (n c f : Nat) (l : List Int) (s : LS) (v : Value) (H' : Heap) : Prop := ∃ k, v = .agg (slotV s.no k n :: I10 s.st []).toArray ∧ H' = B6 b n c f l ++ H'.drop 6 ∧ k < H'.length
noncomputable def lsV_s0 (b : Int) (n c f : Nat) (l : List Int) : Array Value := { toList := [Value.func (Fn.func (122 : FuncId)) { toList := [] } { toList := [ptr0 3, ptr0 4] }, Value.func (Fn.func (70 : FuncId)) { toList := [] } { toList := [] }, junk, ptr0 6, ptr0 7, ptr0 8, ptr0 9, junk, Value.func (Fn.func (122 : FuncId)) { toList := [] } { toList := [ptr0 3, ptr0 4] }, junk, junk, junk, junk, junk, junk, junk, junk, junk, junk, junk, junk, junk] }
noncomputable def lsV_s1 (b : Int) (n c f : Nat) (l : List Int) : Array Value := { toList := [Value.func (Fn.yield (10 : Nat)) { toList := [] } { toList := [] }, ptr0 3, ptr0 4, ptr0 11, junk, Value.func (Fn.func (123 : FuncId)) { toList := [] } { toList := [ptr0 2] }, junk, junk, junk, junk, junk, junk, junk, junk, junk, junk] }
noncomputable def lsV_s2 (b : Int) (n c f : Nat) (l : List Int) := (Value.slice none (0 : Nat) (0 : Nat) :: I10 empI [])
noncomputable def lsV :=
fun (b : Int) (n c f : Nat) (l : List Int) ↦ Ob (some (Value.bool false) = some (Value.bool false) ∧ some (1 : Nat) = some (1 : Nat)) ∧ Ob (some (vi (↑f : Int)) = some (vi (↑f : Int))) ∧ Ob (some (vi (↑f : Int)) = some (vi (↑f : Int))) ∧ Ob ([ptr0 1, Value.slice none (0 : Nat) (0 : Nat), vi (↑f : Int), vi (↑f : Int), Value.func (Fn.yield (15 : Nat)) { toList := [] } { toList := [] }] = [ptr0 1, Value.slice none (0 : Nat) (0 : Nat), vi (↑f : Int), vi (↑f : Int), Value.func (Fn.yield (15 : Nat)) { toList := [] } { toList := [] }] ∧ [AObj.ro (List.map (Value.int IntKind.i64) l), AObj.rw (vi b :: Value.slice (some (ad0 0)) n c :: vi (↑f : Int) :: B10 (tmd n) []) none, AObj.rw [ptr0 1] none, AObj.rw [Value.func (Fn.func (123 : FuncId)) { toList := [] } { toList := [ptr0 2] }] none, AObj.rw [Value.func (Fn.func (61 : FuncId)) { toList := [ptr0 1] } { toList := [] }] none, AObj.gone, AObj.rw [Value.func (Fn.func (70 : FuncId)) { toList := [] } { toList := [] }] none, AObj.rw (lsV_s2 b n c f l) none, AObj.rw (lsV_s2 b n c f l) none, AObj.rw [Value.bool true] none, AObj.loop LoopState.ready none (lsV_s0 b n c f l) { toList := [(9 : Nat)] } ls_c0 ls_c1, AObj.rw [Value.func (Fn.yield (10 : Nat)) { toList := [] } { toList := [] }] none, AObj.loop LoopState.ready none (lsV_s1 b n c f l) { toList := [(6 : Nat)] } ls_c2 ls_c3, AObj.rw [Value.func (Fn.yield (12 : Nat)) { toList := [] } { toList := [] }] none, AObj.rw [ptr0 1] none, AObj.loop LoopState.ready none { toList := [Value.func (Fn.yield (12 : Nat)) { toList := [] } { toList := [] }, ptr0 2, ptr0 13, junk, ptr0 1, Value.func (Fn.func (133 : Nat)) { toList := [] } { toList := [ptr0 14] }, junk, junk, junk, junk, junk, junk, junk] } { toList := [(6 : Nat)] } ls_c4 ls_c5] = [AObj.ro (List.map (Value.int IntKind.i64) l), AObj.rw (vi b :: Value.slice (some (ad0 0)) n c :: vi (↑f : Int) :: B10 (tmd n) []) none, AObj.rw [ptr0 1] none, AObj.rw [Value.func (Fn.func (123 : FuncId)) { toList := [] } { toList := [ptr0 2] }] none, AObj.rw [Value.func (Fn.func (61 : FuncId)) { toList := [ptr0 1] } { toList := [] }] none, AObj.gone, AObj.rw [Value.func (Fn.func (70 : FuncId)) { toList := [] } { toList := [] }] none, AObj.rw (lsV_s2 b n c f l) none, AObj.rw (lsV_s2 b n c f l) none, AObj.rw [Value.bool true] none, AObj.loop LoopState.ready none (lsV_s0 b n c f l) { toList := [(9 : Nat)] } ls_c0 ls_c1, AObj.rw [Value.func (Fn.yield (10 : Nat)) { toList := [] } { toList := [] }] none, AObj.loop LoopState.ready none (lsV_s1 b n c f l) { toList := [(6 : Nat)] } ls_c2 ls_c3, AObj.rw [Value.func (Fn.yield (12 : Nat)) { toList := [] } { toList := [] }] none, AObj.rw [ptr0 1] none, AObj.loop LoopState.ready none { toList := [Value.func (Fn.yield (12 : Nat)) { toList := [] } { toList := [] }, ptr0 2, ptr0 13, junk, ptr0 1, Value.func (Fn.func (133 : FuncId)) { toList := [] } { toList := [ptr0 14] }, junk, junk, junk, junk, junk, junk, junk] } { toList := [(6 : Nat)] } ls_c4 ls_c5]) ∧ Ob ((0 : Nat) + (11 : Nat) ≤ (11 : Nat)) ∧ True ∧ Ob (LR b n c f l { no := true, st := empI } (Value.agg { toList := (lsV_s2 b n c f l) }) [AObj.ro (List.map (Value.int IntKind.i64) l), AObj.rw (vi b :: Value.slice (some (ad0 0)) n c :: vi (↑f : Int) :: B10 (tmd n) []) none, AObj.rw [ptr0 1] none, AObj.rw [Value.func (Fn.func (123 : FuncId)) { toList := [] } { toList := [ptr0 2] }] none, AObj.rw [Value.func (Fn.func (61 : FuncId)) { toList := [ptr0 1] } { toList := [] }] none, AObj.gone, AObj.rw [Value.func (Fn.func (70 : FuncId)) { toList := [] } { toList := [] }] none, AObj.rw (lsV_s2 b n c f l) none, AObj.rw (lsV_s2 b n c f l) none, AObj.rw [Value.bool true] none, AObj.gone, AObj.rw [Value.func (Fn.yield (10 : Nat)) { toList := [] } { toList := [] }] none, AObj.gone, AObj.rw [Value.func (Fn.yield (12 : Nat)) { toList := [] } { toList := [] }] none, AObj.rw [ptr0 1] none, AObj.gone, AObj.gone])
theorem lsV_eq : lsV = fun (b : Int) (n c f : Nat) (l : List Int) => vc Try.prog (ls4E b n c f l ⟨true, empI⟩) 6 22 true (fun _ => none) lsB [] (argFr 0 [allF, lnF]) (B6 b n c f l) (retK Try.prog Try.f102 (LR b n c f l ⟨true, empI⟩)) := by kernel_rfl
noncomputable def lsW_s0 (b : Int) (n c f : Nat) (l : List Int) (st : Nat → Int) : Array Value := { toList := [Value.func (Fn.func (122 : FuncId)) { toList := [] } { toList := [ptr0 3, ptr0 4] }, Value.func (Fn.func (70 : FuncId)) { toList := [] } { toList := [] }, junk, ptr0 6, ptr0 7, ptr0 8, ptr0 9, junk, Value.func (Fn.func (122 : FuncId)) { toList := [] } { toList := [ptr0 3, ptr0 4] }, junk, junk, junk, junk, junk, junk, junk, junk, junk, junk, junk, junk, junk] }
noncomputable def lsW_s1 (b : Int) (n c f : Nat) (l : List Int) (st : Nat → Int) : Array Value := { toList := [Value.func (Fn.yield (10 : Nat)) { toList := [] } { toList := [] }, ptr0 3, ptr0 4, ptr0 11, junk, Value.func (Fn.func (123 : FuncId)) { toList := [] } { toList := [ptr0 2] }, junk, junk, junk, junk, junk, junk, junk, junk, junk, junk] }
noncomputable def lsW_s2 (b : Int) (n c f : Nat) (l : List Int) (st : Nat → Int) := (Value.slice (some { block := (16 : Nat), off := (0 : Nat), spot := some (0 : Nat) }) n (0 : Nat) :: I10 st [])
noncomputable def lsW :=
fun (b : Int) (n c f : Nat) (l : List Int) (st : Nat → Int) ↦ Ob (some (Value.bool false) = some (Value.bool false) ∧ some (1 : Nat) = some (1 : Nat)) ∧ Ob (some (vi (↑f : Int)) = some (vi (↑f : Int))) ∧ Ob (some (vi (↑f : Int)) = some (vi (↑f : Int))) ∧ Ob ([ptr0 1, Value.slice none (0 : Nat) (0 : Nat), vi (↑f : Int), vi (↑f : Int), Value.func (Fn.yield (15 : Nat)) { toList := [] } { toList := [] }] = [ptr0 1, Value.slice none (0 : Nat) (0 : Nat), vi (↑f : Int), vi (↑f : Int), Value.func (Fn.yield (15 : Nat)) { toList := [] } { toList := [] }] ∧ [AObj.ro (List.map (Value.int IntKind.i64) l), AObj.rw (vi b :: Value.slice (some (ad0 0)) n c :: vi (↑f : Int) :: B10 (tmd n) []) none, AObj.rw [ptr0 1] none, AObj.rw [Value.func (Fn.func (123 : FuncId)) { toList := [] } { toList := [ptr0 2] }] none, AObj.rw [Value.func (Fn.func (61 : FuncId)) { toList := [ptr0 1] } { toList := [] }] none, AObj.gone, AObj.rw [Value.func (Fn.func (70 : FuncId)) { toList := [] } { toList := [] }] none, AObj.rw (Value.slice none (0 : Nat) (0 : Nat) :: I10 empI []) none, AObj.rw (Value.slice none (0 : Nat) (0 : Nat) :: I10 empI []) none, AObj.rw [Value.bool true] none, AObj.loop LoopState.ready none (lsW_s0 b n c f l st) { toList := [(9 : Nat)] } ls_c0 ls_c1, AObj.rw [Value.func (Fn.yield (10 : Nat)) { toList := [] } { toList := [] }] none, AObj.loop LoopState.ready none (lsW_s1 b n c f l st) { toList := [(6 : Nat)] } ls_c2 ls_c3, AObj.rw [Value.func (Fn.yield (12 : Nat)) { toList := [] } { toList := [] }] none, AObj.rw [ptr0 1] none, AObj.loop LoopState.ready none { toList := [Value.func (Fn.yield (12 : Nat)) { toList := [] } { toList := [] }, ptr0 2, ptr0 13, junk, ptr0 1, Value.func (Fn.func (133 : Nat)) { toList := [] } { toList := [ptr0 14] }, junk, junk, junk, junk, junk, junk, junk] } { toList := [(6 : Nat)] } ls_c4 ls_c5] = [AObj.ro (List.map (Value.int IntKind.i64) l), AObj.rw (vi b :: Value.slice (some (ad0 0)) n c :: vi (↑f : Int) :: B10 (tmd n) []) none, AObj.rw [ptr0 1] none, AObj.rw [Value.func (Fn.func (123 : FuncId)) { toList := [] } { toList := [ptr0 2] }] none, AObj.rw [Value.func (Fn.func (61 : FuncId)) { toList := [ptr0 1] } { toList := [] }] none, AObj.gone, AObj.rw [Value.func (Fn.func (70 : FuncId)) { toList := [] } { toList := [] }] none, AObj.rw (Value.slice none (0 : Nat) (0 : Nat) :: I10 empI []) none, AObj.rw (Value.slice none (0 : Nat) (0 : Nat) :: I10 empI []) none, AObj.rw [Value.bool true] none, AObj.loop LoopState.ready none (lsW_s0 b n c f l st) { toList := [(9 : Nat)] } ls_c0 ls_c1, AObj.rw [Value.func (Fn.yield (10 : Nat)) { toList := [] } { toList := [] }] none, AObj.loop LoopState.ready none (lsW_s1 b n c f l st) { toList := [(6 : Nat)] } ls_c2 ls_c3, AObj.rw [Value.func (Fn.yield (12 : Nat)) { toList := [] } { toList := [] }] none, AObj.rw [ptr0 1] none, AObj.loop LoopState.ready none { toList := [Value.func (Fn.yield (12 : Nat)) { toList := [] } { toList := [] }, ptr0 2, ptr0 13, junk, ptr0 1, Value.func (Fn.func (133 : FuncId)) { toList := [] } { toList := [ptr0 14] }, junk, junk, junk, junk, junk, junk, junk] } { toList := [(6 : Nat)] } ls_c4 ls_c5]) ∧ Ob ((0 : Nat) + (11 : Nat) ≤ (11 : Nat)) ∧ True ∧ Ob (LR b n c f l { no := false, st := st } (Value.agg { toList := (lsW_s2 b n c f l st) }) [AObj.ro (List.map (Value.int IntKind.i64) l), AObj.rw (vi b :: Value.slice (some (ad0 0)) n c :: vi (↑f : Int) :: B10 (tmd n) []) none, AObj.rw [ptr0 1] none, AObj.rw [Value.func (Fn.func (123 : FuncId)) { toList := [] } { toList := [ptr0 2] }] none, AObj.rw [Value.func (Fn.func (61 : FuncId)) { toList := [ptr0 1] } { toList := [] }] none, AObj.gone, AObj.rw [Value.func (Fn.func (70 : FuncId)) { toList := [] } { toList := [] }] none, AObj.rw (lsW_s2 b n c f l st) none, AObj.rw (lsW_s2 b n c f l st) none, AObj.rw [Value.bool false] none, AObj.gone, AObj.rw [Value.func (Fn.yield (10 : Nat)) { toList := [] } { toList := [] }] none, AObj.gone, AObj.rw [Value.func (Fn.yield (12 : Nat)) { toList := [] } { toList := [] }] none, AObj.rw [ptr0 1] none, AObj.gone, AObj.gone])
theorem lsW_eq : lsW = fun (b : Int) (n c f : Nat) (l : List Int) (st : Nat → Int) => vc Try.prog (ls4E b n c f l ⟨false, st⟩) 6 22 true (fun _ => none) lsB [] (argFr 0 [allF, lnF]) (B6 b n c f l) (retK Try.prog Try.f102 (LR b n c f l ⟨false, st⟩)) := by kernel_rfl
theorem lsV_ok (b : Int) (n c f : Nat) (l : List Int) : lsV b n c f l := by
  unfold lsV lsV_s2 lsV_s1 lsV_s0
  simp only [SS, reduceCtorEq, Arg.list, Arg.num, Arg.flag, intOf, andP, Nat.reduceLeDiff, Nat.reduceAdd, Nat.reduceMul, Nat.reduceLT, yv]
  exact ⟨16, by kernel_rfl, by kernel_rfl, by simp⟩
theorem lsW_ok (b : Int) (n c f : Nat) (l : List Int) (st : Nat → Int) : lsW b n c f l st := by
  unfold lsW lsW_s2 lsW_s1 lsW_s0
  simp only [SS, reduceCtorEq, Arg.list, Arg.num, Arg.flag, intOf, andP, Nat.reduceLeDiff, Nat.reduceAdd, Nat.reduceMul, Nat.reduceLT, yv]
  exact ⟨16, by kernel_rfl, by kernel_rfl, by simp⟩
theorem g1Ct_ok (b : Int) (n c f : Nat) (l : List Int) (S : LS) (hl : l.length = n * 2) (hn : n ≤ 10) (hr : rngP b n l) (hn1 : 1 ≤ n) (hf : f ≤ n) (hS : S = shL b n f l) : CtOk Try.prog (g1Ct b n c f l S) := by
  intro fn args H φ v H' lg h hφ
  unfold g1Ct at h
  split at h <;> cases h
  rename_i hb
  obtain rfl := Nat.eq_of_beq_eq_true hb
  obtain ⟨rfl, rfl⟩ := hφ
  subst hS
  refine ⟨grow0_ok b n c f l hl hn hr true empI n f hn1 hf (by omega) (fun _ => rfl), by rw [List.length_append, EHL_len, EHL_len]; omega, fun b1 h4 h5 => ?_⟩
  rw [EHL_len] at h4
  rw [List.getElem?_append_left (by rw [EHL_len]; exact h4)]
  have h8 : b1 ≠ 8 := fun e => h5 (by subst e; simp)
  have h9 : b1 ≠ 9 := fun e => h5 (by subst e; simp)
  unfold EHL EH
  rcases b1 with _ | _ | _ | _ | _ | _ | _ | _ | _ | _ | _ | _ | _ | _ | _ | _ | b1 <;> first | rfl | omega
theorem inl_two {f g : Nat} {fn gn : Func} {inv inv' : List Value → Heap → Nat → Option LInv} (h : Try.prog.funcs[f]? = some fn) (k : Try.prog.funcs[g]? = some gn) : ∀ e ∈ ([⟨f, fn, inv⟩, ⟨g, gn, inv'⟩] : List InlE), Try.prog.funcs[e.f]? = some e.fn := fun e he => by
  rcases List.mem_cons.1 he with rfl | he
  · exact h
  · rw [List.mem_singleton.1 he]; exact k
theorem ls4E_ok (b : Int) (n c f : Nat) (l : List Int) (S : LS) (hl : l.length = n * 2) (hn : n ≤ 10) (hr : rngP b n l) (hn1 : 1 ≤ n) (hf : f ≤ n) (hS : S = shL b n f l) : VOk Try.prog (ls4E b n c f l S) := by
  have h1 : VOk Try.prog (ls1E b n c f l S) := ⟨g1Ct_ok b n c f l S hl hn hr hn1 hf hS, E0_ok.cc, E0_ok.yc, prE1_ok.orc⟩
  have h2 : VOk Try.prog (ls2E b n c f l S) := ⟨CtOk.none, ccIn_ok h1 mixed (inl_two Try.func133 Try.func124), E0_ok.yc, prE1_ok.orc⟩
  have h3 : VOk Try.prog (ls3E b n c f l S) := ⟨CtOk.none, ccIn_ok h2 mixed (inl_one Try.func123), E0_ok.yc, prE1_ok.orc⟩
  exact ⟨CtOk.none, ccIn_ok h3 mixed (inl_one Try.func122), E0_ok.yc, prE1_ok.orc⟩
def σ6 (k b : Nat) : Nat := if b = 6 then k else b
theorem agg_slot {σ : Nat → Nat} {k n : Nat} {no : Bool} {st : Nat → Int} : nmap σ (.agg (slotV no k n :: I10 st []).toArray) = .agg (slotV no (σ k) n :: I10 st []).toArray := by
  show Value.agg ((slotV no k n :: I10 st []).toArray.map (nmap1 σ)) = _
  rw [List.map_toArray, List.map_cons, nmap1_all rfl]
  cases no <;> rfl
theorem agg_slot_sc {m k n : Nat} {no : Bool} {st : Nat → Int} (hk : k < m) : sc m (.agg (slotV no k n :: I10 st []).toArray) = true := by
  cases no with
  | false => exact agg_sc hk rfl
  | true =>
    show (nilS :: I10 st []).toArray.all (sc1 m) = true
    rw [← Array.all_toList]; rfl
theorem B6_map {σ : Nat → Nat} {b : Int} {n c f : Nat} {l : List Int} (h0 : σ 0 = 0) (h1 : σ 1 = 1) (h2 : σ 2 = 2) : (B6 b n c f l).map (omap σ) = B6 b n c f l := by
  unfold B6
  simp only [List.map_cons, List.map_nil, ros_omap, walk_omap h0]
  have e2 : omap σ (AObj.rw [ptr0 1] none) = .rw [ptr0 1] none := by
    show AObj.rw [.pointer (some ⟨σ 1, 0, none⟩)] none = _
    rw [h1]
  have e3 : omap σ (AObj.rw [tripsF] none) = .rw [tripsF] none := by simp [omap, tripsF, nmap1, nmapFn, nmap0, am, h2]
  have e4 : omap σ (AObj.rw [Value.func (.func 61) #[ptr0 1] #[]] none) = .rw [Value.func (.func 61) #[ptr0 1] #[]] none := by simp [omap, nmap1, nmapFn, nmapA, nmap0, am, h1]
  rw [e2, e3, e4]; rfl
theorem B6_sc {b : Int} {n c f : Nat} {l : List Int} : ∀ o ∈ B6 b n c f l, o.sc 6 = true := by
  refine List.all_eq_true.1 ?_
  unfold B6
  simp only [List.all_cons, List.all_nil, ros_sc, Bool.and_true, Bool.true_and]
  kernel_rfl
theorem LR_anew {b : Int} {n c f : Nat} {l : List Int} {s : LS} {v : Value} {H' : Heap} (h : LR b n c f l s v H') :
    ∃ σ v2 H2, Anew 6 σ H' H2 ∧ v = nmap σ v2 ∧ sc H2.length v2 = true ∧ (v2 = .agg (slotV s.no 6 n :: I10 s.st []).toArray ∧ H2 = B6 b n c f l ++ [.gone]) := by
  obtain ⟨k, rfl, he, hk⟩ := h
  have hl : (B6 b n c f l ++ [AObj.gone]).length = 7 := rfl
  have hb6 : (B6 b n c f l).length = 6 := rfl
  have g6 : (B6 b n c f l ++ [AObj.gone])[6]? = some .gone := rfl
  have hm := B6_map (σ := σ6 k) (b := b) (n := n) (c := c) (f := f) (l := l) rfl rfl rfl
  refine ⟨σ6 k, _, _, ⟨?_, fun b' hb => ?_, fun b' o hb => ?_, fun b1 b2 o h1 h2 h3 h4 h5 h6 => ?_, fun b' o hb => ?_⟩, ?_, agg_slot_sc (show 6 < 7 by omega), rfl, rfl⟩
  · rw [hl]; omega
  · unfold σ6; rw [if_neg (by omega)]
  · rcases Nat.lt_or_ge b' 6 with h1 | h1
    · right
      rw [List.getElem?_append_left (by rw [hb6]; exact h1)] at hb
      rw [he, show σ6 k b' = b' by unfold σ6; rw [if_neg (by omega)], List.getElem?_append_left (by rw [hb6]; exact h1), ← hm, List.getElem?_map, hb]
      rfl
    · left
      have h2 := (List.getElem?_eq_some_iff.1 hb).1
      rw [hl] at h2
      obtain rfl : b' = 6 := by omega
      rw [g6] at hb
      exact (Option.some.inj hb).symm
  · rw [hl] at h1 h2
    have n1 : b1 ≠ 6 := fun e => by subst e; rw [g6] at h3; cases h3; exact h4 rfl
    have n2 : b2 ≠ 6 := fun e => by
      subst e
      rcases h5 with h5 | h5
      · exact h5 g6
      · omega
    unfold σ6 at h6
    rw [if_neg n1, if_neg n2] at h6
    exact h6
  · rw [hl]
    rcases List.mem_append.1 (List.mem_of_getElem? hb) with h1 | h1
    · exact AObj.sc_mono (by omega) (B6_sc o h1)
    · rw [List.mem_singleton.1 h1]; rfl
  · rw [agg_slot]; rfl
theorem shL_emp {b : Int} {n f : Nat} {l : List Int} : (shL b n f l).no = true → (shL b n f l).st = empI := fdR_emp fun _ => rfl
theorem least_ok (b : Int) (n c f : Nat) (l : List Int) (hl : l.length = n * 2) (hn : n ≤ 10) (hr : rngP b n l) (hn1 : 1 ≤ n) (hf : f ≤ n) :
    Call Try.prog 102 [allF, lnF] (B6 b n c f l) fun v H' => v = .agg (slotV (shL b n f l).no 6 n :: I10 (shL b n f l).st []).toArray ∧ H' = B6 b n c f l ++ [.gone] := by
  have e := shL_emp (b := b) (n := n) (f := f) (l := l)
  generalize hS : shL b n f l = S at *
  have hE := ls4E_ok b n c f l S hl hn hr hn1 hf hS.symm
  refine Call.anew (Call.mono (Q := LR b n c f l S) ?_ fun v H' hy => LR_anew hy)
  obtain ⟨no, st⟩ := S
  cases no with
  | true =>
    obtain rfl : st = empI := e rfl
    have h := lsV_ok b n c f l
    rw [lsV_eq] at h
    exact Call.ofVc (H := B6 b n c f l) (args := [allF, lnF]) hE mixed (c := lsB) (inv := fun _ => none) (R := LR b n c f l ⟨true, empI⟩) Try.func102 (by kernel_rfl) (cast (by kernel_rfl) h)
  | false =>
    have h := lsW_ok b n c f l st
    rw [lsW_eq] at h
    exact Call.ofVc (H := B6 b n c f l) (args := [allF, lnF]) hE mixed (c := lsB) (inv := fun _ => none) (R := LR b n c f l ⟨false, st⟩) Try.func102 (by kernel_rfl) (cast (by kernel_rfl) h)
end Go.Pier.Rd
namespace Go.Pier.Rd
open Go Go.Pier Go.Proofs
def LeastOf (b : Int) (l : List Int) (g : (Nat → Int) → Bool) (N : (Nat → Int) → Int) (r : List (List Int)) (s : LS) : Prop :=
  (s.no = true → s.st = empI ∧ ∀ m ∈ r, g (stp b l m) = false) ∧ (s.no = false → (∃ m ∈ r, g (stp b l m) = true ∧ s.st = stp b l m) ∧ ∀ m ∈ r, g (stp b l m) = true → N s.st ≤ N (stp b l m))
theorem foldR_least {b : Int} {l : List Int} {g : (Nat → Int) → Bool} {N : (Nat → Int) → Int} : ∀ (r r0 : List (List Int)) (s : LS), LeastOf b l g N r0 s → LeastOf b l g N (r0 ++ r) (foldR b l g N s r)
  | [], r0, s, h => by rw [List.append_nil]; exact h
  | m :: r, r0, s, h => by
    suffices k : LeastOf b l g N (r0 ++ [m]) (stepL g N s (stp b l m)) by
      have := foldR_least r (r0 ++ [m]) (stepL g N s (stp b l m)) k
      rw [List.append_assoc] at this
      exact this
    obtain ⟨h1, h2⟩ := h
    cases hg : g (stp b l m) with
    | false =>
      rw [stepL_no hg]
      refine ⟨fun e => ⟨(h1 e).1, fun m2 hm => ?_⟩, fun e => ⟨?_, fun m2 hm k => ?_⟩⟩
      · rcases List.mem_append.1 hm with hm | hm
        · exact (h1 e).2 m2 hm
        · rw [List.mem_singleton.1 hm]; exact hg
      · obtain ⟨m2, k1, k2⟩ := (h2 e).1
        exact ⟨m2, List.mem_append_left _ k1, k2⟩
      · rcases List.mem_append.1 hm with hm | hm
        · exact (h2 e).2 m2 hm k
        · rw [List.mem_singleton.1 hm, hg] at k; cases k
    | true =>
      by_cases hc : s.no = true ∨ N (stp b l m) < N s.st
      · rw [stepL_new hg hc]
        refine ⟨fun e => (by cases e), fun _ => ⟨⟨m, List.mem_append_right _ List.mem_cons_self, hg, rfl⟩, fun m2 hm k => ?_⟩⟩
        rcases List.mem_append.1 hm with hm | hm
        · cases hno : s.no with
          | true => rw [(h1 hno).2 m2 hm] at k; cases k
          | false =>
            have := (h2 hno).2 m2 hm k
            rcases hc with hc | hc
            · rw [hno] at hc; cases hc
            · exact Int.le_trans (Int.le_of_lt hc) this
        · rw [List.mem_singleton.1 hm]; exact Int.le_refl _
      · have hno : s.no = false := by
          cases e : s.no with
          | true => exact absurd (.inl e) hc
          | false => rfl
        rw [stepL_old hno (fun k => hc (.inr k))]
        refine ⟨fun e => (by rw [hno] at e; cases e), fun e => ⟨?_, fun m2 hm k => ?_⟩⟩
        · obtain ⟨m2, k1, k2⟩ := (h2 e).1
          exact ⟨m2, List.mem_append_left _ k1, k2⟩
        · rcases List.mem_append.1 hm with hm | hm
          · exact (h2 e).2 m2 hm k
          · rw [List.mem_singleton.1 hm]
            exact Int.not_lt.1 fun k => hc (.inr k)
theorem foldR_from {b : Int} {l : List Int} {g : (Nat → Int) → Bool} {N : (Nat → Int) → Int} (r : List (List Int)) : LeastOf b l g N r (foldR b l g N ⟨true, empI⟩ r) :=
  foldR_least r [] ⟨true, empI⟩ ⟨fun _ => ⟨rfl, fun m hm => (by cases hm)⟩, fun e => (by cases e)⟩
theorem dist_pos {a b : Int} (h : a ≠ b) : 0 < dist a b := by rw [dist_eq]; omega
theorem dist_nn {a b : Int} : 0 ≤ dist a b := by rw [dist_eq]; omega
theorem rSt_mono {b : Int} {l m : List Int} {x : Nat} : ∀ y, x ≤ y → rSt b l m x ≤ rSt b l m y
  | 0, h => by obtain rfl : x = 0 := by omega
               exact Int.le_refl _
  | y + 1, h => by
    rcases Nat.lt_or_ge x (y + 1) with h1 | h1
    · have := rSt_mono (b := b) (l := l) (m := m) (x := x) y (by omega)
      have h2 : rSt b l m (y + 1) = rSt b l m y + dist (rAt b l m y) (pl l (m.getD y 0).toNat) := rfl
      have h3 : 0 ≤ dist (rAt b l m y) (pl l (m.getD y 0).toNat) := dist_nn
      omega
    · obtain rfl : x = y + 1 := by omega
      exact Int.le_refl _
theorem getD_nd {m : List Int} (h : m.Nodup) {i j : Nat} (hi : i < m.length) (hj : j < m.length) (e : m.getD i 0 = m.getD j 0) : i = j := by
  rw [List.getD_eq_getElem?_getD, List.getD_eq_getElem?_getD, List.getElem?_eq_getElem hi, List.getElem?_eq_getElem hj] at e
  exact (List.getElem_inj h).1 e
theorem sf_at {b : Int} {n : Nat} {l m : List Int} (hw : Whole n m) {i : Nat} (hi : i < m.length) : ∀ x, i < x → x ≤ m.length → sf b l m x (m.getD i 0).toNat = rSt b l m (i + 1)
  | 0, h, _ => by omega
  | x + 1, h, hx => by
    rw [sf]
    by_cases e : x = i
    · subst e; rw [show Nat.beq (m.getD x 0).toNat (m.getD x 0).toNat = true from Nat.beq_refl _]; rfl
    · have h1 := whole_mem hw i hi
      have h2 := whole_mem hw x (by omega)
      have h3 : m.getD i 0 ≠ m.getD x 0 := fun k => e (getD_nd hw.nd hi (by omega) k).symm
      have : Nat.beq (m.getD i 0).toNat (m.getD x 0).toNat = false := by
        cases hb : Nat.beq (m.getD i 0).toNat (m.getD x 0).toNat with
        | false => rfl
        | true => have := Nat.eq_of_beq_eq_true hb; omega
      rw [this]
      exact sf_at hw hi x (by omega) (by omega)
theorem stp_at {b : Int} {n : Nat} {l m : List Int} (hw : Whole n m) {i : Nat} (hi : i < m.length) : stp b l m (m.getD i 0).toNat = rSt b l m (i + 1) := sf_at hw hi m.length hi (Nat.le_refl _)
theorem whole_all {n : Nat} {m : List Int} (hw : Whole n m) {a : Nat} (ha : a < n) : ∃ i, i < m.length ∧ m.getD i 0 = (a : Int) := by
  have : (a : Int) ∈ m := hw.all a (Nat.zero_le _) ha
  obtain ⟨i, hi⟩ := List.mem_iff_getElem?.1 this
  exact ⟨i, (List.getElem?_eq_some_iff.1 hi).1, by rw [List.getD_eq_getElem?_getD, hi]; rfl⟩
theorem sf_out {b : Int} {n : Nat} {l m : List Int} (hm : ∀ j, j < m.length → 0 ≤ m.getD j 0 ∧ m.getD j 0 < n) {a : Nat} (ha : n ≤ a) : ∀ x, x ≤ m.length → sf b l m x a = 0
  | 0, _ => rfl
  | x + 1, hx => by
    rw [sf]
    have h2 := hm x (by omega)
    have : Nat.beq a (m.getD x 0).toNat = false := by
      cases hb : Nat.beq a (m.getD x 0).toNat with
      | false => rfl
      | true => have := Nat.eq_of_beq_eq_true hb; omega
    rw [this]
    exact sf_out hm ha x (by omega)
theorem stp_first {b : Int} {n : Nat} {l m : List Int} (hw : Whole n m) (hn : 1 ≤ n) (ho : ordP b n l) : ∃ i, i < n ∧ stp b l m i ≠ 0 := by
  have hl := whole_len hw
  have h0 := whole_mem hw 0 (by omega)
  refine ⟨(m.getD 0 0).toNat, by omega, ?_⟩
  rw [stp_at hw (by omega)]
  show rSt b l m 0 + dist (rAt b l m 0) (pl l (m.getD 0 0).toNat) ≠ 0
  have := dist_pos (a := b) (b := pl l (m.getD 0 0).toNat) (fun e => (ho (m.getD 0 0).toNat (by omega)).1 e.symm)
  show 0 + dist b _ ≠ 0
  omega
theorem rds_mem_whole {n f : Nat} (hf : f ≤ n) : ∀ r ∈ rds n n f f [], Whole n r := rds_whole n f f [] (by omega) (begun_nil hf)
theorem shL_least {b : Int} {n f : Nat} {l : List Int} : LeastOf b l (inTB n l) NL (rds n n f f []) (shL b n f l) := foldR_from _
theorem shL_ne {b : Int} {n f : Nat} {l : List Int} (hn : 1 ≤ n) (hf : f ≤ n) (hn10 : n ≤ 10) (ho : ordP b n l) (h : (shL b n f l).no = false) : eq10 (shL b n f l).st empI = false := by
  obtain ⟨⟨m, h1, h2, h3⟩, _⟩ := shL_least.2 h
  obtain ⟨i, hi, hne⟩ := stp_first (rds_mem_whole hf m h1) hn ho
  exact eq10_false (i := i) (by omega) (by rw [h3]; exact hne)
end Go.Pier.Rd
set_option maxRecDepth 100000
set_option linter.unusedVariables false
set_option linter.unusedSimpArgs false
namespace Go.Pier.Rd
open Go Go.Pier Go.Proofs
noncomputable def nnB : Code := Try.f103.body.getD .skip
noncomputable def nnE : VEnv := { orc := orcOr orcA10 prO }
noncomputable def nnV :=
fun (n : Nat) (st : Nat → Int) ↦ Ob True ∧ True ∧ Ob (eq10 (l10 (st (0 : Nat)) (st (1 : Nat)) (st (2 : Nat)) (st (3 : Nat)) (st (4 : Nat)) (st (5 : Nat)) (st (6 : Nat)) (st (7 : Nat)) (st (8 : Nat)) (st (9 : Nat))) (l10 (0 : Int) (0 : Int) (0 : Int) (0 : Int) (0 : Int) (0 : Int) (0 : Int) (0 : Int) (0 : Int) (0 : Int)) = eq10 st empI) ∧ True
theorem nnV_eq : nnV = fun (n : Nat) (st : Nat → Int) => vc Try.prog nnE 1 7 true (fun _ => none) nnB [] (argFr 0 [.agg (newS 0 n :: I10 st []).toArray]) [.gone] (retR Try.prog Try.f103 1 (fun b => b) (.bool (eq10 st empI)) [.gone]) := by kernel_rfl
noncomputable def nnN :=
fun (st : Nat → Int) ↦ Ob True ∧ True ∧ Ob (eq10 (l10 (st (0 : Nat)) (st (1 : Nat)) (st (2 : Nat)) (st (3 : Nat)) (st (4 : Nat)) (st (5 : Nat)) (st (6 : Nat)) (st (7 : Nat)) (st (8 : Nat)) (st (9 : Nat))) (l10 (0 : Int) (0 : Int) (0 : Int) (0 : Int) (0 : Int) (0 : Int) (0 : Int) (0 : Int) (0 : Int) (0 : Int)) = eq10 st empI) ∧ True
theorem nnN_eq : nnN = fun (st : Nat → Int) => vc Try.prog nnE 0 7 true (fun _ => none) nnB [] (argFr 0 [.agg (nilS :: I10 st []).toArray]) [] (retR Try.prog Try.f103 0 (fun b => b) (.bool (eq10 st empI)) []) := by kernel_rfl
def nnCt : List Value → Heap → Option (Option Prop × Value × Heap × List Nat) := fun args H => match args with
  | [.agg ⟨[sl, .int .i64 a0, .int .i64 a1, .int .i64 a2, .int .i64 a3, .int .i64 a4, .int .i64 a5, .int .i64 a6, .int .i64 a7, .int .i64 a8, .int .i64 a9]⟩] => match sl with
    | .slice none 0 0 => some (none, .bool (eq10 (l10 a0 a1 a2 a3 a4 a5 a6 a7 a8 a9) empI), H, [])
    | .slice (some ⟨_, 0, some 0⟩) _ 0 => some (none, .bool (eq10 (l10 a0 a1 a2 a3 a4 a5 a6 a7 a8 a9) empI), H, [])
    | _ => none
  | _ => none
noncomputable def leastCc (b : Int) (n c f : Nat) (l : List Int) (S : LS) : Cc := fun fn args H => match Nat.beq fn 102 with
  | true => match args with
    | [.func (.func 122) ⟨[]⟩ ⟨[.pointer (some ⟨a, 0, none⟩), .pointer (some ⟨i, 0, none⟩)]⟩, .func (.func 70) ⟨[]⟩ ⟨[]⟩] => match H[a]? with
      | some (.rw [.func (.func 123) ⟨[]⟩ ⟨[.pointer (some ⟨x, 0, none⟩)]⟩] none) => match H[x]? with
        | some (.rw [.pointer (some ⟨w, 0, none⟩)] none) => match nodupB [0, w, x, a, i, 1] with
          | true => some fun Q => Ob (H[0]? = some (ros l) ∧ H[w]? = some (.rw (walkC b n c f (tmd n)) none) ∧ H[i]? = some (.rw [.func (.func 61) #[ptr0 w] #[]] none) ∧ 1 < H.length) ∧
              (S.no = true → Q (.agg (nilS :: I10 empI []).toArray) (H ++ [.gone])) ∧ (S.no = false → Q (.agg (newS H.length n :: I10 S.st []).toArray) (H ++ [.gone]))
          | false => none
        | _ => none
      | _ => none
    | _ => none
  | false => none
noncomputable def shE0 : VEnv := { prE1 with cc := ccIn Try.prog prE1 [⟨105, Try.f105, fun _ _ _ => none⟩, ⟨106, Try.f106, fun _ _ _ => none⟩] }
noncomputable def shT : Ct := (prT.add 70 lenCt).add 103 nnCt
noncomputable def shE1 (b : Int) (n c : Nat) (l : List Int) (S : LS) : VEnv := { ct := shT, orc := prO, cc := ccOr (leastCc b n c (lg b l n) l S) (ccIn Try.prog shE0 [⟨72, Try.f72, fun _ _ _ => none⟩, ⟨57, Try.f57, inv57 b n c l⟩]) }
noncomputable def shE2 (b : Int) (n c : Nat) (l : List Int) (S : LS) : VEnv := { ct := shT, orc := prO, cc := ccIn Try.prog (shE1 b n c l S) [⟨69, Try.f69, fun _ _ _ => none⟩] }
noncomputable def shB : Code := Try.f24.body.getD .skip
def shV (S : LS) : Value := .tuple #[vi (bif S.no then 0 else mxN S.st 9), vi (bif S.no then 12 else 0)]
noncomputable def shV0_s0 (b : Int) (n c : Nat) (l : List Int) (S : LS) (x : Nat) : List Value := [vi b, Value.slice (some (ad0 0)) n c, vi (↑(lg b l x) : Int), Value.bool (bif Nat.beq (3 : Nat) ((0 : Nat) + (3 : Nat) + (↑x : Int).toNat * (1 : Nat)) then true else tmd x (0 : Nat)), Value.bool (bif Nat.beq (4 : Nat) ((0 : Nat) + (3 : Nat) + (↑x : Int).toNat * (1 : Nat)) then true else tmd x (1 : Nat)), Value.bool (bif Nat.beq (5 : Nat) ((0 : Nat) + (3 : Nat) + (↑x : Int).toNat * (1 : Nat)) then true else tmd x (2 : Nat)), Value.bool (bif Nat.beq (6 : Nat) ((0 : Nat) + (3 : Nat) + (↑x : Int).toNat * (1 : Nat)) then true else tmd x (3 : Nat)), Value.bool (bif Nat.beq (7 : Nat) ((0 : Nat) + (3 : Nat) + (↑x : Int).toNat * (1 : Nat)) then true else tmd x (4 : Nat)), Value.bool (bif Nat.beq (8 : Nat) ((0 : Nat) + (3 : Nat) + (↑x : Int).toNat * (1 : Nat)) then true else tmd x (5 : Nat)), Value.bool (bif Nat.beq (9 : Nat) ((0 : Nat) + (3 : Nat) + (↑x : Int).toNat * (1 : Nat)) then true else tmd x (6 : Nat)), Value.bool (bif Nat.beq (10 : Nat) ((0 : Nat) + (3 : Nat) + (↑x : Int).toNat * (1 : Nat)) then true else tmd x (7 : Nat)), Value.bool (bif Nat.beq (11 : Nat) ((0 : Nat) + (3 : Nat) + (↑x : Int).toNat * (1 : Nat)) then true else tmd x (8 : Nat)), Value.bool (bif Nat.beq (12 : Nat) ((0 : Nat) + (3 : Nat) + (↑x : Int).toNat * (1 : Nat)) then true else tmd x (9 : Nat))]
noncomputable def shV0_s1 (b : Int) (n c : Nat) (l : List Int) (S : LS) : Array Value := { toList := [vi (bif S.no then (0 : Int) else mxN S.st (9 : Nat)), vi (bif S.no then (12 : Int) else (0 : Int))] }
noncomputable def shV0_s2 (b : Int) (n c : Nat) (l : List Int) (S : LS) (x : Nat) := ((0 : Nat) + (3 : Nat) + (↑x : Int).toNat * (1 : Nat))
noncomputable def shV0_s3 (b : Int) (n c : Nat) (l : List Int) (S : LS) := (List.map (Value.int IntKind.i64) l)
noncomputable def shV0_s4 (b : Int) (n c : Nat) (l : List Int) (S : LS) := (mxL [(0 : Int), (0 : Int), (0 : Int), (0 : Int), (0 : Int), (0 : Int), (0 : Int), (0 : Int), (0 : Int), (0 : Int)])
noncomputable def shV0_s5 (b : Int) (n c : Nat) (l : List Int) (S : LS) : List Value := [vi b, Value.slice (some (ad0 0)) n c]
noncomputable def shV0_s6 (b : Int) (n c : Nat) (l : List Int) (S : LS) := (l10 (S.st (0 : Nat)) (S.st (1 : Nat)) (S.st (2 : Nat)) (S.st (3 : Nat)) (S.st (4 : Nat)) (S.st (5 : Nat)) (S.st (6 : Nat)) (S.st (7 : Nat)) (S.st (8 : Nat)) (S.st (9 : Nat)))
noncomputable def shV0_s7 (b : Int) (n c : Nat) (l : List Int) (S : LS) := (Value.slice none (0 : Nat) (0 : Nat) :: I10 empI [])
noncomputable def shV0 :=
fun (b : Int) (n c : Nat) (l : List Int) (S : LS) ↦ Ob ((true = true ∧ Flat (shV0_s3 b n c l S)) ∧ okL (Leaf.view (shV0_s3 b n c l S) n false)) ∧ ((errP b n (intsOf (shV0_s3 b n c l S)) != (0 : Int)) = true → ((errP b n (intsOf (shV0_s3 b n c l S)) != (0 : Int)) = true → Ob ((0 : Nat) + (11 : Nat) ≤ (11 : Nat)) ∧ Ob ((0 : Nat) + (11 : Nat) ≤ (11 : Nat)) ∧ True ∧ Ob (Value.tuple { toList := [vi (shV0_s4 b n c l S), vi (errP b n (intsOf (shV0_s3 b n c l S)))] } = Value.tuple (shV0_s1 b n c l S))) ∧ ((errP b n (intsOf (shV0_s3 b n c l S)) != (0 : Int)) = false → False)) ∧ ((errP b n (intsOf (shV0_s3 b n c l S)) != (0 : Int)) = false → (∃ (y : Nat), Ob (y ≤ n) ∧ (Ob (AObj.ro (shV0_s3 b n c l S) = AObj.ro (List.map (nmap1 fun (bq : Nat) ↦ bq) (shV0_s3 b n c l S)) ∧ AObj.sc (6 : Nat) (AObj.ro (shV0_s3 b n c l S)) = true) ∧ Ob (AObj.rw (shV0_s5 b n c l S) none = AObj.rw (shV0_s5 b n c l S) none ∧ true = true) ∧ Ob (AObj.rw (shV0_s5 b n c l S) none = AObj.rw (shV0_s5 b n c l S) none ∧ true = true) ∧ Ob (AObj.rw (shV0_s7 b n c l S) none = AObj.rw (shV0_s7 b n c l S) none ∧ true = true) ∧ Ob (AObj.rw (shV0_s5 b n c l S) none = AObj.rw (shV0_s5 b n c l S) none ∧ true = true) ∧ Ob (AObj.rw (vi b :: Value.slice (some (ad0 0)) n c :: vi (0 : Int) :: B10 empB []) none = AObj.rw (vi b :: Value.slice (some (ad0 0)) n c :: vi (↑(lg b l y) : Int) :: B10 (tmd y) []) none ∧ true = true) ∧ True) ∧ Ob (ptr0 5 = ptr0 5) ∧ Ob (Value.slice (some (ad0 0)) n c = Value.slice (some (ad0 0)) n c) ∧ Ob ((↑n : Int) = (↑n : Int)) ∧ Ob ((0 : Int) = (↑y : Int)) ∧ True) ∧ ∀ (x : Nat), Ob (x ≤ n) → (decide ((↑x : Int) < (↑n : Int)) = true → Ob ((0 : Int) ≤ (↑x : Int) ∧ (↑x : Int) < (↑n : Int) ∧ true = true) ∧ Ob (ckAsk [CK.i IntKind.i64, CK.i IntKind.i64] (shV0_s3 b n c l S) ((0 : Nat) + (↑x : Int).toNat * (2 : Nat))) ∧ Ob ((0 : Nat) + (2 : Nat) ≤ (2 : Nat)) ∧ Ob ((0 : Int) ≤ (↑x : Int) ∧ (↑x : Int) < (↑(10 : Nat) : Int)) ∧ Ob (BoolAt (vi b :: Value.slice (some (ad0 0)) n c :: vi (↑(lg b l x) : Int) :: B10 (tmd x) []) (shV0_s2 b n c l S x) ∧ some (1 : Nat) = some (1 : Nat)) ∧ Ob (some (vi (getI (shV0_s3 b n c l S) ((0 : Nat) + (↑x : Int).toNat * (2 : Nat)))) = some (vi (getI (shV0_s3 b n c l S) ((0 : Nat) + (↑x : Int).toNat * (2 : Nat))))) ∧ Ob (some (vi b) = some (vi b)) ∧ (decide (getI (shV0_s3 b n c l S) ((0 : Nat) + (↑x : Int).toNat * (2 : Nat)) < b) = true → Ob (IntAt IntKind.i64 (shV0_s0 b n c l S x) ((0 : Nat) + (2 : Nat)) ∧ some (1 : Nat) = some (1 : Nat)) ∧ ∃ (y : Nat), Ob (y ≤ n) ∧ Ob (n - y < n - x) ∧ (Ob (AObj.ro (shV0_s3 b n c l S) = AObj.ro (List.map (nmap1 fun (bqq : Nat) ↦ bqq) (shV0_s3 b n c l S)) ∧ AObj.sc (6 : Nat) (AObj.ro (shV0_s3 b n c l S)) = true) ∧ Ob (AObj.rw (shV0_s5 b n c l S) none = AObj.rw (shV0_s5 b n c l S) none ∧ true = true) ∧ Ob (AObj.rw (shV0_s5 b n c l S) none = AObj.rw (shV0_s5 b n c l S) none ∧ true = true) ∧ Ob (AObj.rw (shV0_s7 b n c l S) none = AObj.rw (shV0_s7 b n c l S) none ∧ true = true) ∧ Ob (AObj.rw (shV0_s5 b n c l S) none = AObj.rw (shV0_s5 b n c l S) none ∧ true = true) ∧ Ob (AObj.rw [vi (bif false then IntKind.i64.wrap ((↑x : Int) + (1 : Int)) else b), Value.slice (some (ad0 0)) n c, vi (bif true then IntKind.i64.wrap ((↑x : Int) + (1 : Int)) else (↑(lg b l x) : Int)), Value.bool (bif Nat.beq (3 : Nat) (shV0_s2 b n c l S x) then true else tmd x (0 : Nat)), Value.bool (bif Nat.beq (4 : Nat) (shV0_s2 b n c l S x) then true else tmd x (1 : Nat)), Value.bool (bif Nat.beq (5 : Nat) (shV0_s2 b n c l S x) then true else tmd x (2 : Nat)), Value.bool (bif Nat.beq (6 : Nat) (shV0_s2 b n c l S x) then true else tmd x (3 : Nat)), Value.bool (bif Nat.beq (7 : Nat) (shV0_s2 b n c l S x) then true else tmd x (4 : Nat)), Value.bool (bif Nat.beq (8 : Nat) (shV0_s2 b n c l S x) then true else tmd x (5 : Nat)), Value.bool (bif Nat.beq (9 : Nat) (shV0_s2 b n c l S x) then true else tmd x (6 : Nat)), Value.bool (bif Nat.beq (10 : Nat) (shV0_s2 b n c l S x) then true else tmd x (7 : Nat)), Value.bool (bif Nat.beq (11 : Nat) (shV0_s2 b n c l S x) then true else tmd x (8 : Nat)), Value.bool (bif Nat.beq (12 : Nat) (shV0_s2 b n c l S x) then true else tmd x (9 : Nat))] none = AObj.rw (vi b :: Value.slice (some (ad0 0)) n c :: vi (↑(lg b l y) : Int) :: B10 (tmd y) []) none ∧ true = true) ∧ True) ∧ Ob (Value.pointer (some { block := (4 : Nat) + (1 : Nat), off := (0 : Nat), spot := none }) = Value.pointer (some { block := (4 : Nat) + (1 : Nat), off := (0 : Nat), spot := none })) ∧ Ob (Value.slice (some (ad0 0)) n c = Value.slice (some (ad0 0)) n c) ∧ Ob ((↑n : Int) = (↑n : Int)) ∧ Ob (IntKind.i64.wrap ((↑x : Int) + (1 : Int)) = (↑y : Int)) ∧ True) ∧ (decide (getI (shV0_s3 b n c l S) ((0 : Nat) + (↑x : Int).toNat * (2 : Nat)) < b) = false → ∃ (y : Nat), Ob (y ≤ n) ∧ Ob (n - y < n - x) ∧ (Ob (AObj.ro (shV0_s3 b n c l S) = AObj.ro (List.map (nmap1 fun (bqqq : Nat) ↦ bqqq) (shV0_s3 b n c l S)) ∧ AObj.sc (6 : Nat) (AObj.ro (shV0_s3 b n c l S)) = true) ∧ Ob (AObj.rw (shV0_s5 b n c l S) none = AObj.rw (shV0_s5 b n c l S) none ∧ true = true) ∧ Ob (AObj.rw (shV0_s5 b n c l S) none = AObj.rw (shV0_s5 b n c l S) none ∧ true = true) ∧ Ob (AObj.rw (shV0_s7 b n c l S) none = AObj.rw (shV0_s7 b n c l S) none ∧ true = true) ∧ Ob (AObj.rw (shV0_s5 b n c l S) none = AObj.rw (shV0_s5 b n c l S) none ∧ true = true) ∧ Ob (AObj.rw (shV0_s0 b n c l S x) none = AObj.rw (vi b :: Value.slice (some (ad0 0)) n c :: vi (↑(lg b l y) : Int) :: B10 (tmd y) []) none ∧ true = true) ∧ True) ∧ Ob (Value.pointer (some { block := (4 : Nat) + (1 : Nat), off := (0 : Nat), spot := none }) = Value.pointer (some { block := (4 : Nat) + (1 : Nat), off := (0 : Nat), spot := none })) ∧ Ob (Value.slice (some (ad0 0)) n c = Value.slice (some (ad0 0)) n c) ∧ Ob ((↑n : Int) = (↑n : Int)) ∧ Ob (IntKind.i64.wrap ((↑x : Int) + (1 : Int)) = (↑y : Int)) ∧ True)) ∧ (decide ((↑x : Int) < (↑n : Int)) = false → (false = true → Ob ((0 : Nat) + (11 : Nat) ≤ (11 : Nat)) ∧ Ob ((0 : Nat) + (11 : Nat) ≤ (11 : Nat)) ∧ True ∧ Ob (Value.tuple { toList := [vi (shV0_s4 b n c l S), vi (0 : Int)] } = Value.tuple (shV0_s1 b n c l S))) ∧ (false = false → Ob (some (AObj.ro (shV0_s3 b n c l S)) = some (AObj.ro (shV0_s3 b n c l S)) ∧ some (AObj.rw (vi b :: Value.slice (some (ad0 0)) n c :: vi (↑(lg b l x) : Int) :: B10 (tmd x) []) none) = some (AObj.rw (vi b :: Value.slice (some (ad0 0)) n c :: vi (↑(lg b l n) : Int) :: B10 (tmd n) []) none) ∧ some (AObj.rw [Value.func (Fn.func (61 : Nat)) { toList := [Value.pointer (some { block := (4 : Nat) + (1 : Nat), off := (0 : Nat), spot := none })] } { toList := [] }] none) = some (AObj.rw [Value.func (Fn.func (61 : FuncId)) { toList := [Value.pointer (some { block := (4 : Nat) + (1 : Nat), off := (0 : Nat), spot := none })] } { toList := [] }] none) ∧ (1 : Nat) < (9 : Nat)) ∧ (S.no = true → Ob ((0 : Nat) + (11 : Nat) ≤ (11 : Nat)) ∧ (true = true → Ob ((0 : Nat) + (11 : Nat) ≤ (11 : Nat)) ∧ Ob ((0 : Nat) + (11 : Nat) ≤ (11 : Nat)) ∧ True ∧ Ob (Value.tuple { toList := [vi (shV0_s4 b n c l S), vi (12 : Int)] } = Value.tuple (shV0_s1 b n c l S))) ∧ (true = false → Ob ((0 : Nat) + (11 : Nat) ≤ (11 : Nat)) ∧ Ob ((0 : Nat) + (11 : Nat) ≤ (11 : Nat)) ∧ True ∧ Ob (Value.tuple { toList := [vi (mxL [empI (0 : Nat), empI (1 : Nat), empI (2 : Nat), empI (3 : Nat), empI (4 : Nat), empI (5 : Nat), empI (6 : Nat), empI (7 : Nat), empI (8 : Nat), empI (9 : Nat)]), vi (0 : Int)] } = Value.tuple (shV0_s1 b n c l S)))) ∧ (S.no = false → Ob ((0 : Nat) + (11 : Nat) ≤ (11 : Nat)) ∧ (eq10 (shV0_s6 b n c l S) empI = true → Ob ((0 : Nat) + (11 : Nat) ≤ (11 : Nat)) ∧ Ob ((0 : Nat) + (11 : Nat) ≤ (11 : Nat)) ∧ True ∧ Ob (Value.tuple { toList := [vi (shV0_s4 b n c l S), vi (12 : Int)] } = Value.tuple (shV0_s1 b n c l S))) ∧ (eq10 (shV0_s6 b n c l S) empI = false → Ob ((0 : Nat) + (11 : Nat) ≤ (11 : Nat)) ∧ Ob ((0 : Nat) + (11 : Nat) ≤ (11 : Nat)) ∧ True ∧ Ob (Value.tuple { toList := [vi (mxL [S.st (0 : Nat), S.st (1 : Nat), S.st (2 : Nat), S.st (3 : Nat), S.st (4 : Nat), S.st (5 : Nat), S.st (6 : Nat), S.st (7 : Nat), S.st (8 : Nat), S.st (9 : Nat)]), vi (0 : Int)] } = Value.tuple (shV0_s1 b n c l S)))))))
theorem shV0_eq : shV0 = fun (b : Int) (n c : Nat) (l : List Int) (S : LS) => vc Try.prog (shE2 b n c l S) 1 14 true (fun _ => none) shB [] (argFr 0 [pierV b (some ⟨0,0,none⟩) n c]) [ros l] (retK Try.prog Try.f24 (fun v _ => v = shV S)) := by kernel_rfl
theorem l10_same {x : Nat → Int} {i : Nat} (h : i < 10) : l10 (x 0) (x 1) (x 2) (x 3) (x 4) (x 5) (x 6) (x 7) (x 8) (x 9) i = x i := by
  rcases i with _ | _ | _ | _ | _ | _ | _ | _ | _ | _ | i <;> first | rfl | omega
theorem l10_zero {i : Nat} : l10 0 0 0 0 0 0 0 0 0 0 i = 0 := by
  rcases i with _ | _ | _ | _ | _ | _ | _ | _ | _ | _ | i <;> rfl
theorem eq10_l10 {st : Nat → Int} {y : Nat → Int} (hy : ∀ i, y i = 0) : eq10 (l10 (st 0) (st 1) (st 2) (st 3) (st 4) (st 5) (st 6) (st 7) (st 8) (st 9)) y = eq10 st empI := by
  cases h : eq10 st empI with
  | true =>
    refine eq10_true fun i hi => ?_
    have := List.all_eq_true.1 h i (by simp [List.mem_range']; omega)
    rw [l10_same hi, hy]
    exact eq_of_beq this
  | false =>
    obtain ⟨i, hi, h1⟩ := List.all_eq_false.1 h
    simp [List.mem_range'] at hi
    exact eq10_false (i := i) (by omega) (by rw [l10_same (by omega), hy]; intro e; exact h1 (by rw [e]; rfl))
theorem nnV_ok (n : Nat) (st : Nat → Int) : nnV n st := by
  unfold nnV
  simp only [SS, reduceCtorEq, Arg.list, Arg.num, Arg.flag, intOf, andP, Nat.reduceLeDiff, Nat.reduceAdd, Nat.reduceMul, Nat.reduceLT]
  exact eq10_l10 fun _ => l10_zero
theorem nnN_ok (st : Nat → Int) : nnN st := by
  unfold nnN
  simp only [SS, reduceCtorEq, Arg.list, Arg.num, Arg.flag, intOf, andP, Nat.reduceLeDiff, Nat.reduceAdd, Nat.reduceMul, Nat.reduceLT]
  exact eq10_l10 fun _ => l10_zero
theorem shV0_ok (b : Int) (n c : Nat) (l : List Int) (S : LS) (hl : l.length = n * 2) (hP : errP b n l = 0) (hne : S.no = false → eq10 S.st empI = false) : shV0 b n c l S := by
  have hn : n ≤ 1000000 := by have := (errP_cases hP).1; omega
  have fo : Flat (List.map (Value.int .i64) l) ∧ okL (.view (List.map (Value.int .i64) l) n false) := ⟨flat_ints, okL_ints hl hn⟩
  unfold shV0 shV0_s7 shV0_s6 shV0_s5 shV0_s4 shV0_s3 shV0_s2 shV0_s1 shV0_s0
  simp only [SS, reduceCtorEq, Arg.list, Arg.num, Arg.flag, intOf, andP, Nat.reduceLeDiff, Nat.reduceAdd, Nat.reduceMul, Nat.reduceLT, errT, ckAsk, CK.ask, pl_fold, tw_fold, nb1_1, nb1_2, nb1_3, nb1_4, nb1_5, nb1_6, nb1_7, nb1_8, nb1_9, nb1_10, nb3_3, nb3_4, nb3_5, nb3_6, nb3_7, nb3_8, nb3_9, nb3_10, nb3_11, nb3_12, cond_true, cond_false, tmd_step, getI_2b, intAt_2b, mxL_zero, mxL_fold]
  refine ⟨fo, fun h1 => absurd hP h1, fun h1 => ?_⟩
  obtain ⟨⟨n1, n2⟩, hr, ho⟩ := errP_cases hP
  refine ⟨⟨0, by omega, ⟨rfl, tmd_zero⟩, rfl⟩, fun x hx => ⟨fun h2 => ?_, fun h2 => ?_⟩⟩
  · have hx10 : x < 10 := by omega
    refine ⟨by omega, by omega, by omega, B10_at hx10, fun h3 => ⟨rfl, x + 1, by omega, by omega, ⟨?_, rfl⟩, wrap_succ (n := n) (by omega) hn⟩, fun h3 => ⟨x + 1, by omega, by omega, ⟨?_, rfl⟩, wrap_succ (n := n) (by omega) hn⟩⟩
    · rw [lg, if_pos h3]; exact wrap_succ (n := n) (by omega) hn
    · rw [lg, if_neg h3]
  have ex : x = n := by omega
  subst ex
  refine ⟨⟨rfl, rfl⟩, fun h => ?_, fun h => ⟨fun h3 => ?_, fun h3 => ?_⟩⟩
  · rw [h]; rfl
  · rw [eq10_l10 (y := empI) (fun _ => rfl), hne h] at h3; cases h3
  · rw [h]; rfl
theorem nnE_ok : VOk Try.prog nnE := ⟨CtOk.none, E0_ok.cc, E0_ok.yc, orcOr_ok orcA10_ok prE1_ok.orc⟩
theorem nnV_call (n : Nat) (st : Nat → Int) : Call Try.prog 103 [.agg (newS 0 n :: I10 st []).toArray] [.gone] fun v H' => v = .bool (eq10 st empI) ∧ H' = [.gone] :=
  Call.ofVcR (H := [.gone]) (args := [.agg (newS 0 n :: I10 st []).toArray]) nnE_ok mixed (c := nnB) Try.func103 (by kernel_rfl) (cast (congrFun (congrFun nnV_eq n) st) (nnV_ok n st))
theorem nnN_call (st : Nat → Int) : Call Try.prog 103 [.agg (nilS :: I10 st []).toArray] [] fun v H' => v = .bool (eq10 st empI) ∧ H' = [] :=
  Call.ofVcR (H := []) (args := [.agg (nilS :: I10 st []).toArray]) nnE_ok mixed (c := nnB) Try.func103 (by kernel_rfl) (cast (congrFun nnN_eq st) (nnN_ok st))
theorem nn_ok : ∀ args H φ v H' l, nnCt args H = some (φ, v, H', l) → Asks φ → Call Try.prog 103 args H (fun v' H2 => v' = v ∧ H2 = H') ∧ Kept H H' l := by
  intro args H φ v H' l h _
  unfold nnCt at h
  split at h <;> try (cases h; done)
  rename_i sl a0 a1 a2 a3 a4 a5 a6 a7 a8 a9
  split at h <;> cases h
  · exact ⟨nil_any (cs := I10 (l10 a0 a1 a2 a3 a4 a5 a6 a7 a8 a9) []) rfl rfl (nnN_call (l10 a0 a1 a2 a3 a4 a5 a6 a7 a8 a9)), Kept.refl _ _⟩
  · exact ⟨slot_any (cs := I10 (l10 a0 a1 a2 a3 a4 a5 a6 a7 a8 a9) []) rfl rfl (nnV_call _ (l10 a0 a1 a2 a3 a4 a5 a6 a7 a8 a9)) _, Kept.refl _ _⟩
theorem B6_at {σ : Nat → Nat} {b : Int} {n c f : Nat} {l : List Int} (h0 : σ 0 = 0) : (B6 b n c f l).map (omap σ) = [ros l, .rw (walkC b n c f (tmd n)) none, .rw [ptr0 (σ 1)] none, .rw [.func (.func 123) #[] #[ptr0 (σ 2)]] none, .rw [.func (.func 61) #[ptr0 (σ 1)] #[]] none, .gone] := by
  unfold B6
  simp only [List.map_cons, List.map_nil, ros_omap, walk_omap h0]
  have e2 : omap σ (AObj.rw [ptr0 1] none) = .rw [ptr0 (σ 1)] none := rfl
  have e3 : omap σ (AObj.rw [tripsF] none) = .rw [.func (.func 123) #[] #[ptr0 (σ 2)]] none := by simp [omap, tripsF, nmap1, nmapFn, nmap0, am]
  have e4 : omap σ (AObj.rw [Value.func (.func 61) #[ptr0 1] #[]] none) = .rw [Value.func (.func 61) #[ptr0 (σ 1)] #[]] none := by simp [omap, nmap1, nmapFn, nmapA, nmap0, am]
  rw [e2, e3, e4]; rfl
theorem B6_nm {b : Int} {n c f : Nat} {l : List Int} : ∀ o ∈ B6 b n c f l, o.nm tt' = true := by
  refine List.all_eq_true.1 ?_
  unfold B6
  simp only [List.all_cons, List.all_nil, ros_nm, Bool.and_true, Bool.true_and]
  kernel_rfl
theorem least_at {b : Int} {n c f w x a i : Nat} {l : List Int} {H : Heap} (hl : l.length = n * 2) (hn : n ≤ 10) (hr : rngP b n l) (hn1 : 1 ≤ n) (hf : f ≤ n) (hnd : nodupB [0, w, x, a, i, 1] = true)
    (h0 : H[0]? = some (ros l)) (hw : H[w]? = some (.rw (walkC b n c f (tmd n)) none)) (hx : H[x]? = some (.rw [ptr0 w] none)) (ha : H[a]? = some (.rw [.func (.func 123) #[] #[ptr0 x]] none)) (hi : H[i]? = some (.rw [.func (.func 61) #[ptr0 w] #[]] none)) (h1 : 1 < H.length) :
    Call Try.prog 102 [.func (.func 122) #[] #[ptr0 a, ptr0 i], lnF] H fun v H' => v = .agg (slotV (shL b n f l).no H.length n :: I10 (shL b n f l).st []).toArray ∧ H' = H ++ [.gone] := by
  have lt : ∀ {k : Nat} {o : AObj}, H[k]? = some o → k < H.length := fun h => (List.getElem?_eq_some_iff.1 h).1
  have hlt : ∀ y ∈ [0, w, x, a, i, 1], y < H.length := fun y hy => by
    simp only [List.mem_cons, List.not_mem_nil, or_false] at hy
    rcases hy with rfl | rfl | rfl | rfl | rfl | rfl
    · exact lt h0
    · exact lt hw
    · exact lt hx
    · exact lt ha
    · exact lt hi
    · exact h1
  have hm1 := B6_at (σ := fun c => [0, w, x, a, i, 1].getD c 0) (b := b) (n := n) (c := c) (f := f) (l := l) rfl
  have hm2 := B6_at (σ := nameL [0, w, x, a, i, 1] 6 H.length) (b := b) (n := n) (c := c) (f := f) (l := l) rfl
  have hmem : ∀ (c' : Nat) (o : AObj), ([ros l, .rw (walkC b n c f (tmd n)) none, .rw [ptr0 w] none, .rw [.func (.func 123) #[] #[ptr0 x]] none, .rw [.func (.func 61) #[ptr0 w] #[]] none, .gone] : Heap)[c']? = some o → o = .gone ∨ H[[0, w, x, a, i, 1].getD c' 0]? = some o := fun c' o hc => by
    rcases c' with _ | _ | _ | _ | _ | _ | c'
    · cases hc; exact .inr h0
    · cases hc; exact .inr hw
    · cases hc; exact .inr hx
    · cases hc; exact .inr ha
    · cases hc; exact .inr hi
    · cases hc; exact .inl rfl
    · simp at hc
  have hso : ∀ o ∈ ([ros l, .rw (walkC b n c f (tmd n)) none, .rw [ptr0 w] none, .rw [.func (.func 123) #[] #[ptr0 x]] none, .rw [.func (.func 61) #[ptr0 w] #[]] none, .gone] : Heap), o.sc H.length = true := fun o ho => by
    have hw' := lt hw
    have hx' := lt hx
    have h0' := lt h0
    simp only [List.mem_cons, List.not_mem_nil, or_false] at ho
    rcases ho with rfl | rfl | rfl | rfl | rfl | rfl
    · exact ros_sc
    · show ((vi b :: sl0 n c :: vi f :: B10 (tmd n) []).all _) = true; simp [sl0, B10, sc1, sc0]; omega
    · simp [AObj.sc, sc1, sc0]; omega
    · simp [AObj.sc, sc1, sc0, scA]; omega
    · simp [AObj.sc, sc1, sc0, scA]; omega
    · rfl
  have := (Call.frameG (H := H) (Et := B6 b n c f l) (Ft := B6 b n c f l) (N := [.gone]) (L := [0, w, x, a, i, 1]) (vs := [.func (.func 122) #[] #[ptr0 a, ptr0 i], lnF]) rfl rfl (nodupB_ok hnd) hlt
    (fun c' o hc => by
      have h2 : ((B6 b n c f l).map (omap fun c => [0, w, x, a, i, 1].getD c 0))[c']? = some (omap (fun c => [0, w, x, a, i, 1].getD c 0) o) := by rw [List.getElem?_map, hc]; rfl
      rw [hm1] at h2
      rcases hmem c' _ h2 with h3 | h3
      · left
        cases o <;> first | rfl | (cases h3; done)
      · exact .inr h3)
    (fun o ho => B6_sc o ho) (by simp [allF, lnF, nmap, nmap2, nmap1, nmapFn, nmap0, am]) (by kernel_rfl) (least_ok b n c f l hl hn hr hn1 hf)
    (fun o ho => by
      show o.nm (fun d => decide (d < 6) || decide (6 ≤ d)) = true
      rw [any_nm rfl]
      rcases List.mem_append.1 ho with h2 | h2
      · exact B6_nm o h2
      · rw [List.mem_singleton.1 h2]; rfl)
    (fun o ho => by rw [List.mem_singleton.1 ho]; rfl)
    (by
      show nm (fun d => decide (d < 6) || decide (6 ≤ d)) _ = true
      rw [any_nm rfl]
      cases (shL b n f l).no with
      | true =>
        show (nilS :: I10 _ []).toArray.all (nm1 tt') = true
        rw [← Array.all_toList]; rfl
      | false => exact agg_nm rfl rfl)
    (fun o ho => by
      rcases List.mem_append.1 ho with h2 | h2
      · have h3 := List.mem_map_of_mem (f := omap (nameL [0, w, x, a, i, 1] 6 H.length)) h2
        rw [hm2] at h3
        exact AObj.sc_mono (Nat.le_add_right _ _) (hso _ h3)
      · rw [List.mem_singleton.1 h2]; rfl)
    (by
      rw [agg_slot]
      exact agg_slot_sc (show H.length + (6 - 6) < H.length + 1 by omega))).1
  refine this.mono fun v H' hh => ⟨by rw [hh.1, agg_slot]; rfl, ?_⟩
  rw [hh.2]
  congr 1
  refine setG_same _ _ _ _ fun c' b' e o k1 k2 k3 k4 => ?_
  have h2 : (List.map (omap (nameL [0, w, x, a, i, 1] 6 H.length)) (B6 b n c f l))[c']? = some o := k4
  rw [hm2] at h2
  rcases hmem c' o h2 with h3 | h3
  · subst h3
    rw [List.getElem?_map, k1, Option.map_some, Option.some.injEq] at k4
    cases e <;> first | (cases k2; done) | (cases k4; done)
  · rwa [natD_of_get k3] at h3
theorem leastCc_ok {b : Int} {n c f : Nat} {l : List Int} (hl : l.length = n * 2) (hn : n ≤ 10) (hr : rngP b n l) (hn1 : 1 ≤ n) (hf : f ≤ n) : CcOk Try.prog (leastCc b n c f l (shL b n f l)) := by
  intro fn args H T hT Q hQ
  unfold leastCc at hT
  split at hT <;> try (cases hT; done)
  rename_i hfn
  obtain rfl := Nat.eq_of_beq_eq_true hfn
  split at hT <;> try (cases hT; done)
  rename_i a i
  split at hT <;> try (cases hT; done)
  rename_i x ha
  split at hT <;> try (cases hT; done)
  rename_i w hx
  split at hT <;> cases hT
  rename_i hnd
  obtain ⟨hO, q1, q2⟩ := hQ
  obtain ⟨h0, hw, hi, h1⟩ := hO.out
  refine (least_at hl hn hr hn1 hf hnd h0 hw hx ha hi h1).mono fun v H' hh => ?_
  rw [hh.1, hh.2]
  have e := shL_emp (b := b) (n := n) (f := f) (l := l)
  cases hno : (shL b n f l).no with
  | true => rw [e hno]; exact q1 hno
  | false => exact q2 hno
theorem shT_ok : CtOk Try.prog shT := (prT_ok.add len_ok).add nn_ok
theorem shE2_ok {b : Int} {n c : Nat} {l : List Int} (hl : l.length = n * 2) (hP : errP b n l = 0) : VOk Try.prog (shE2 b n c l (shL b n (lg b l n) l)) := by
  obtain ⟨⟨n1, n2⟩, hr, ho⟩ := errP_cases hP
  have h0 : VOk Try.prog shE0 := ⟨prE1_ok.ct, ccIn_ok prE1_ok mixed (inl_two Try.func105 Try.func106), E0_ok.yc, prE1_ok.orc⟩
  have h1 : VOk Try.prog (shE1 b n c l (shL b n (lg b l n) l)) := ⟨shT_ok, ccOr_ok (leastCc_ok hl n2 hr n1 (lg_spec n).1) (ccIn_ok h0 mixed (inl_two Try.func72 Try.func57)), E0_ok.yc, prE1_ok.orc⟩
  exact ⟨shT_ok, ccIn_ok h1 mixed (inl_one Try.func69), E0_ok.yc, prE1_ok.orc⟩
theorem sh_call (b : Int) (n c : Nat) (l : List Int) (hl : l.length = n * 2) (hP : errP b n l = 0) : Call Try.prog 24 [pierV b (some ⟨0,0,none⟩) n c] [ros l] fun v _ => v = shV (shL b n (lefts b n l) l) := by
  obtain ⟨⟨n1, n2⟩, hr, ho⟩ := errP_cases hP
  have h := shV0_ok b n c l (shL b n (lg b l n) l) hl hP (shL_ne n1 (lg_spec n).1 n2 ho)
  rw [shV0_eq] at h
  rw [← lg_lefts ho]
  exact Call.ofVc (H := [ros l]) (args := [pierV b (some ⟨0,0,none⟩) n c]) (shE2_ok (c := c) hl hP) mixed (c := shB) (inv := fun _ => none) (R := fun v _ => v = shV (shL b n (lg b l n) l)) Try.func24 (by kernel_rfl) (cast (by kernel_rfl) h)
noncomputable def specQ (F : Int → Nat → List Int → Value) : List Arg3 → Option (Prop × Value)
  | [.agg [.plain (.int .i64 b), .view cs n r]] => some (okL (.view cs n r) ∧ errP b n (intsOf cs) = 0, F b n (intsOf cs))
  | _ => none
theorem specQ_ok {f : FuncId} {F : Int → Nat → List Int → Value} (hv : ∀ b n l, sc 0 (F b n l) = true)
    (hV : ∀ b n c l, l.length = n * 2 → errP b n l = 0 → Call Try.prog f [pierV b (some ⟨0,0,none⟩) n c] [ros l] fun v _ => v = F b n l) :
    ∀ args H φ v H' l, pure3 psP (specQ F) args H = some (φ, v, H', l) → Asks φ → Call Try.prog f args H (fun v' H2 => v' = v ∧ H2 = H') ∧ Kept H H' l :=
  pure3_ok fun r ψ v hk hs hψ => by
    obtain ⟨b, lf, rfl, hl⟩ := kinds_pier hk
    rcases hl with rfl | ⟨s, rfl⟩ | ⟨cs, n, rfl⟩
    · cases hs
    · cases hs
    · cases hs
      refine ⟨hv _ _ _, fun caps _ => ?_⟩
      obtain ⟨⟨h1, h2, h3⟩, h5⟩ := hψ
      have h4 := hV b n (caps 0) (intsOf cs) (by rw [← h2, intsOf, List.length_map]) h5
      have e : canonH3 [.agg [.plain (.int .i64 b), .view cs n false]] = [ros (intsOf cs)] := by
        show [AObj.ro cs] = [.ro ((intsOf cs).map (.int .i64))]
        rw [← h1]
      rw [e]
      exact h4
noncomputable def shF (b : Int) (n : Nat) (l : List Int) : Value := shV (shL b n (lefts b n l) l)
theorem shG_ok : ∀ args H φ v H' l, pure3 psP (specQ shF) args H = some (φ, v, H', l) → Asks φ → Call Try.prog 24 args H (fun v' H2 => v' = v ∧ H2 = H') ∧ Kept H H' l :=
  specQ_ok (fun _ _ _ => by simp [shF, shV, sc, sc2, sc1, sc0]) sh_call
end Go.Pier.Rd
set_option maxRecDepth 100000
set_option linter.unusedVariables false
set_option linter.unusedSimpArgs false
namespace Go.Pier.Rd
open Go Go.Pier Go.Proofs
noncomputable def ltB : Code := Try.f50.body.getD .skip
def clampT (k x : Int) : Int := if (0 : Int) < (if x + k < 9000 then x + k else 9000) then (if x + k < 9000 then x + k else 9000) else 0
def laterL (k : Int) (l : List Int) : Nat → List Int
  | 0 => []
  | i + 1 => laterL k l i ++ [pl l i, clampT k (tw l i)]
def rw2 (l : List Int) : AObj := .rw (l.map (.int .i64)) (some 2)
def ltI (b k : Int) (n c : Nat) (l : List Int) : Nat → Option LInv := invOf 0 (.mk [
    ⟨Unit, fun _ => True, fun _ => [(1, vi k), (2, ptr0 1), (4, ptr0 2), (5, ptr0 3), (6, vi 0)], fun _ => [ros l, boxP b n c, .rw [vi 0, nilS] none, .rw [vi b, nilS] none], fun _ => 1000001, fun _ _ => none⟩,
    ⟨Nat, fun i => 0 < i ∧ i ≤ n, fun i => [(1, vi k), (2, ptr0 1), (4, ptr0 2), (5, ptr0 3), (6, vi i)], fun i => [ros l, boxP b n c, .rw [vi 0, nilS] none, .rw [vi b, newS 4 i] none, rw2 (laterL k l i)], fun i => n - i, fun _ _ => none⟩]
  (fun _ b => b) (fun i j => match j with | 0 => [] | _ => match i with | 0 => [nsub 4 6] | _ => [nsub 4 7]))
noncomputable def ltV_s0 (b k : Int) (n c : Nat) (l : List Int) (xq : Nat) : List Value := [vi (getI (List.map (Value.int IntKind.i64) l) ((0 : Nat) + (↑xq : Int).toNat * (2 : Nat))), vi (getI (List.map (Value.int IntKind.i64) l) ((0 : Nat) + (↑xq : Int).toNat * (2 : Nat) + (1 : Nat)))]
noncomputable def ltV_s1 (b k : Int) (n c : Nat) (l : List Int) := (getI [vi (getI (List.map (Value.int IntKind.i64) l) (0 : Nat)), vi (getI (List.map (Value.int IntKind.i64) l) (1 : Nat))] ((0 : Nat) + (1 : Nat)) + k)
noncomputable def ltV_s2 (b k : Int) (n c : Nat) (l : List Int) := (List.map (Value.int IntKind.i64) l)
noncomputable def ltV_s3 (b k : Int) (n c : Nat) (l : List Int) (xq : Nat) := (getI (ltV_s0 b k n c l xq) ((0 : Nat) + (1 : Nat)) + k)
noncomputable def ltV_s4 (b k : Int) (n c : Nat) (l : List Int) : List Value := [vi (0 : Int), Value.slice none (0 : Nat) (0 : Nat)]
noncomputable def ltV :=
fun (b k : Int) (n c : Nat) (l : List Int) ↦ Ob (some (vi b) = some (vi b)) ∧ Ob ((0 : Nat) + (2 : Nat) ≤ (2 : Nat)) ∧ ((∃ (y : Unit), Ob True ∧ (Ob (AObj.ro (ltV_s2 b k n c l) = AObj.ro (List.map (nmap1 fun (bq : Nat) ↦ bq) (ltV_s2 b k n c l)) ∧ AObj.sc (4 : Nat) (AObj.ro (ltV_s2 b k n c l)) = true) ∧ Ob (AObj.rw [vi b, Value.slice (some (ad0 0)) n c] none = AObj.rw [vi b, Value.slice (some (ad0 0)) n c] none ∧ true = true) ∧ Ob (AObj.rw (ltV_s4 b k n c l) none = AObj.rw (ltV_s4 b k n c l) none ∧ true = true) ∧ Ob (AObj.rw [vi b, Value.slice none (0 : Nat) (0 : Nat)] none = AObj.rw [vi b, Value.slice none (0 : Nat) (0 : Nat)] none ∧ true = true) ∧ True) ∧ Ob (k = k) ∧ Ob (ptr0 1 = ptr0 1) ∧ Ob (ptr0 2 = ptr0 2) ∧ Ob (ptr0 3 = ptr0 3) ∧ Ob ((0 : Int) = (0 : Int)) ∧ True) ∨ ∃ (yq : Nat), Ob ((0 : Nat) < yq ∧ yq ≤ n) ∧ (Ob (AObj.ro (ltV_s2 b k n c l) = AObj.ro (List.map (nmap1 fun (bqq : Nat) ↦ bqq) (ltV_s2 b k n c l)) ∧ AObj.sc (5 : Nat) (AObj.ro (ltV_s2 b k n c l)) = true) ∧ Ob (AObj.rw [vi b, Value.slice (some (ad0 0)) n c] none = AObj.rw [vi b, Value.slice (some (ad0 0)) n c] none ∧ true = true) ∧ Ob (AObj.rw (ltV_s4 b k n c l) none = AObj.rw (ltV_s4 b k n c l) none ∧ true = true) ∧ Ob (AObj.rw [vi b, Value.slice none (0 : Nat) (0 : Nat)] none = AObj.rw [vi b, Value.slice (some { block := (4 : Nat), off := (0 : Nat), spot := some (0 : Nat) }) yq (0 : Nat)] none ∧ true = true) ∧ False) ∧ Ob (k = k) ∧ Ob (ptr0 1 = ptr0 1) ∧ Ob (ptr0 2 = ptr0 2) ∧ Ob (ptr0 3 = ptr0 3) ∧ Ob ((0 : Int) = (↑yq : Int)) ∧ True) ∧ (∀ (x : Unit), Ob True → (decide ((0 : Int) < (↑n : Int)) = true → Ob ((0 : Int) ≤ (0 : Int) ∧ (0 : Int) < (↑n : Int) ∧ true = true) ∧ Ob (ckAsk [CK.i IntKind.i64, CK.i IntKind.i64] (ltV_s2 b k n c l) (0 : Nat)) ∧ Ob ((0 : Nat) + (2 : Nat) ≤ (2 : Nat)) ∧ Ob (IntAt IntKind.i64 [vi (getI (ltV_s2 b k n c l) (0 : Nat)), vi (getI (ltV_s2 b k n c l) (1 : Nat))] ((0 : Nat) + (1 : Nat))) ∧ Ob (IntAt IntKind.i64 [vi (getI (ltV_s2 b k n c l) (0 : Nat)), vi (getI (ltV_s2 b k n c l) (1 : Nat))] ((0 : Nat) + (1 : Nat)) ∧ some (1 : Nat) = some (1 : Nat)) ∧ Ob (andP (some ((0 : Nat) + (2 : Nat) ≤ (2 : Nat) ∧ true = true)) ((1 : Nat) ≤ (1099511627776 : Nat) ∧ (4128 : Nat) ≤ (281474976710656 : Nat) ∧ (2 : Nat) = (2 : Nat) ∧ (0 : Nat) = (0 : Nat) ∧ (0 : Nat) < (1 : Nat))) ∧ Ob ((2 : Nat) ≤ (2 : Nat)) ∧ (False ∨ ∃ (yqq : Nat), Ob ((0 : Nat) < yqq ∧ yqq ≤ n) ∧ Ob (n - yqq < (1000001 : Nat)) ∧ (Ob (AObj.ro (ltV_s2 b k n c l) = AObj.ro (List.map (nmap1 (nsub (4 : Nat) (6 : Nat))) (ltV_s2 b k n c l)) ∧ AObj.sc (5 : Nat) (AObj.ro (ltV_s2 b k n c l)) = true) ∧ Ob (AObj.rw [vi b, Value.slice (some (ad0 0)) n c] none = AObj.rw [vi b, Value.slice (some (ad0 0)) n c] none ∧ true = true) ∧ Ob (AObj.rw (ltV_s4 b k n c l) none = AObj.rw (ltV_s4 b k n c l) none ∧ true = true) ∧ Ob (AObj.rw [vi b, Value.slice (some { block := (6 : Nat), off := (0 : Nat), spot := some (0 : Nat) }) (1 : Nat) (0 : Nat)] none = AObj.rw [vi b, Value.slice (some { block := (6 : Nat), off := (0 : Nat), spot := some (0 : Nat) }) yqq (0 : Nat)] none ∧ true = true) ∧ Ob (AObj.rw [vi (bif false then if (if IntKind.i64.wrap (ltV_s1 b k n c l) < (9000 : Int) then IntKind.i64.wrap (ltV_s1 b k n c l) else (9000 : Int)) > (0 : Int) then if IntKind.i64.wrap (ltV_s1 b k n c l) < (9000 : Int) then IntKind.i64.wrap (ltV_s1 b k n c l) else (9000 : Int) else (0 : Int) else getI (ltV_s2 b k n c l) (0 : Nat)), vi (bif true then if (if IntKind.i64.wrap (ltV_s1 b k n c l) < (9000 : Int) then IntKind.i64.wrap (ltV_s1 b k n c l) else (9000 : Int)) > (0 : Int) then if IntKind.i64.wrap (ltV_s1 b k n c l) < (9000 : Int) then IntKind.i64.wrap (ltV_s1 b k n c l) else (9000 : Int) else (0 : Int) else getI (ltV_s2 b k n c l) (1 : Nat))] (some (2 : Nat)) = AObj.rw (List.map (nmap1 (nsub (4 : Nat) (6 : Nat))) (List.map (Value.int IntKind.i64) (laterL k l yqq))) (some (2 : Nat)) ∧ AObj.sc (5 : Nat) (AObj.rw (List.map (Value.int IntKind.i64) (laterL k l yqq)) (some (2 : Nat))) = true) ∧ True) ∧ Ob (k = k) ∧ Ob (ptr0 1 = ptr0 1) ∧ Ob (ptr0 2 = ptr0 2) ∧ Ob (ptr0 3 = ptr0 3) ∧ Ob (IntKind.i64.wrap ((0 : Int) + (1 : Int)) = (↑yqq : Int)) ∧ True)) ∧ (decide ((0 : Int) < (↑n : Int)) = false → Ob ((2 : Nat) ≤ (2 : Nat)) ∧ (Ob (AObj.ro (ltV_s2 b k n c l) = AObj.ro (List.map (nmap1 (nsub (1 : Nat) (4 : Nat))) (ltV_s2 b k n c l)) ∧ AObj.sc (2 : Nat) (AObj.ro (ltV_s2 b k n c l)) = true) ∧ False) ∧ Ob (Value.agg { toList := [vi b, Value.slice none (0 : Nat) (0 : Nat)] } = Value.agg { toList := [vi b, Value.slice (some { block := (4 : Nat), off := (0 : Nat), spot := some (0 : Nat) }) n (0 : Nat)] }) ∧ True)) ∧ ∀ (xq : Nat), Ob ((0 : Nat) < xq ∧ xq ≤ n) → (decide ((↑xq : Int) < (↑n : Int)) = true → Ob ((0 : Int) ≤ (↑xq : Int) ∧ (↑xq : Int) < (↑n : Int) ∧ true = true) ∧ Ob (ckAsk [CK.i IntKind.i64, CK.i IntKind.i64] (ltV_s2 b k n c l) ((0 : Nat) + (↑xq : Int).toNat * (2 : Nat))) ∧ Ob ((0 : Nat) + (2 : Nat) ≤ (2 : Nat)) ∧ Ob (IntAt IntKind.i64 (ltV_s0 b k n c l xq) ((0 : Nat) + (1 : Nat))) ∧ Ob (IntAt IntKind.i64 (ltV_s0 b k n c l xq) ((0 : Nat) + (1 : Nat)) ∧ some (1 : Nat) = some (1 : Nat)) ∧ Ob (andP (some ((0 : Nat) + (2 : Nat) ≤ (2 : Nat) ∧ true = true)) (xq + (1 : Nat) ≤ (1099511627776 : Nat) ∧ ((2 : Nat) * (xq + (1 : Nat)) + (256 : Nat)) * (16 : Nat) ≤ (281474976710656 : Nat) ∧ (2 : Nat) = (2 : Nat) ∧ (List.map (Value.int IntKind.i64) (laterL k l xq)).length = xq * (2 : Nat))) ∧ Ob ((2 : Nat) ≤ (2 : Nat)) ∧ (False ∨ ∃ (yqqq : Nat), Ob ((0 : Nat) < yqqq ∧ yqqq ≤ n) ∧ Ob (n - yqqq < n - xq) ∧ (Ob (AObj.ro (ltV_s2 b k n c l) = AObj.ro (List.map (nmap1 (nsub (4 : Nat) (7 : Nat))) (ltV_s2 b k n c l)) ∧ AObj.sc (5 : Nat) (AObj.ro (ltV_s2 b k n c l)) = true) ∧ Ob (AObj.rw [vi b, Value.slice (some (ad0 0)) n c] none = AObj.rw [vi b, Value.slice (some (ad0 0)) n c] none ∧ true = true) ∧ Ob (AObj.rw (ltV_s4 b k n c l) none = AObj.rw (ltV_s4 b k n c l) none ∧ true = true) ∧ Ob (AObj.rw [vi b, Value.slice (some { block := (7 : Nat), off := (0 : Nat), spot := some (0 : Nat) }) (xq + (1 : Nat)) (0 : Nat)] none = AObj.rw [vi b, Value.slice (some { block := (7 : Nat), off := (0 : Nat), spot := some (0 : Nat) }) yqqq (0 : Nat)] none ∧ true = true) ∧ Ob (AObj.rw (List.map (Value.int IntKind.i64) (laterL k l xq) ++ [vi (bif false then if (if IntKind.i64.wrap (ltV_s3 b k n c l xq) < (9000 : Int) then IntKind.i64.wrap (ltV_s3 b k n c l xq) else (9000 : Int)) > (0 : Int) then if IntKind.i64.wrap (ltV_s3 b k n c l xq) < (9000 : Int) then IntKind.i64.wrap (ltV_s3 b k n c l xq) else (9000 : Int) else (0 : Int) else getI (ltV_s2 b k n c l) ((0 : Nat) + (↑xq : Int).toNat * (2 : Nat))), vi (bif true then if (if IntKind.i64.wrap (ltV_s3 b k n c l xq) < (9000 : Int) then IntKind.i64.wrap (ltV_s3 b k n c l xq) else (9000 : Int)) > (0 : Int) then if IntKind.i64.wrap (ltV_s3 b k n c l xq) < (9000 : Int) then IntKind.i64.wrap (ltV_s3 b k n c l xq) else (9000 : Int) else (0 : Int) else getI (ltV_s2 b k n c l) ((0 : Nat) + (↑xq : Int).toNat * (2 : Nat) + (1 : Nat)))]) (some (2 : Nat)) = AObj.rw (List.map (nmap1 (nsub (4 : Nat) (7 : Nat))) (List.map (Value.int IntKind.i64) (laterL k l yqqq))) (some (2 : Nat)) ∧ AObj.sc (5 : Nat) (AObj.rw (List.map (Value.int IntKind.i64) (laterL k l yqqq)) (some (2 : Nat))) = true) ∧ True) ∧ Ob (k = k) ∧ Ob (ptr0 1 = ptr0 1) ∧ Ob (ptr0 2 = ptr0 2) ∧ Ob (ptr0 3 = ptr0 3) ∧ Ob (IntKind.i64.wrap ((↑xq : Int) + (1 : Int)) = (↑yqqq : Int)) ∧ True)) ∧ (decide ((↑xq : Int) < (↑n : Int)) = false → Ob ((2 : Nat) ≤ (2 : Nat)) ∧ (Ob (AObj.ro (ltV_s2 b k n c l) = AObj.ro (List.map (nmap1 (nsub (1 : Nat) (4 : Nat))) (ltV_s2 b k n c l)) ∧ AObj.sc (2 : Nat) (AObj.ro (ltV_s2 b k n c l)) = true) ∧ Ob (AObj.rw (List.map (Value.int IntKind.i64) (laterL k l xq)) (some (2 : Nat)) = AObj.rw (List.map (nmap1 (nsub (1 : Nat) (4 : Nat))) (List.map (Value.int IntKind.i64) (laterL k l n))) (some (2 : Nat)) ∧ AObj.sc (2 : Nat) (AObj.rw (List.map (Value.int IntKind.i64) (laterL k l n)) (some (2 : Nat))) = true) ∧ True) ∧ Ob (Value.agg { toList := [vi b, Value.slice (some { block := (4 : Nat), off := (0 : Nat), spot := some (0 : Nat) }) xq (0 : Nat)] } = Value.agg { toList := [vi b, Value.slice (some { block := (4 : Nat), off := (0 : Nat), spot := some (0 : Nat) }) n (0 : Nat)] }) ∧ True)
theorem ltV_eq : ltV = fun (b k : Int) (n c : Nat) (l : List Int) => vc Try.prog prE1 1 37 true (ltI b k n c l) ltB [] (argFr 0 [pierV b (some ⟨0,0,none⟩) n c, vi k]) [ros l] (retR Try.prog Try.f50 1 (nsub 1 4) (.agg #[vi b, newS 1 n]) [ros l, rw2 (laterL k l n)]) := by kernel_rfl
theorem later_len {k : Int} {l : List Int} : ∀ i, (laterL k l i).length = i * 2
  | 0 => rfl
  | i + 1 => by rw [laterL, List.length_append, later_len i]; simp only [List.length_cons, List.length_nil]; omega
theorem clamp_val {x k : Int} (hx : 0 ≤ x ∧ x ≤ 9000) (hk : -1000000 ≤ k ∧ k ≤ 1000000) :
    (if (if IntKind.i64.wrap (x + k) < 9000 then IntKind.i64.wrap (x + k) else 9000) > 0 then if IntKind.i64.wrap (x + k) < 9000 then IntKind.i64.wrap (x + k) else 9000 else 0) = clampT k x := by
  rw [wrap_in (x := x + k) (by omega) (by omega)]; rfl
theorem ltV_ok (b k : Int) (n c : Nat) (l : List Int) (hl : l.length = n * 2) (hn : n ≤ 10) (hn1 : 1 ≤ n) (hr : rngP b n l) (hk : -1000000 ≤ k ∧ k ≤ 1000000) : ltV b k n c l := by
  unfold ltV ltV_s4 ltV_s3 ltV_s2 ltV_s1 ltV_s0
  simp only [SS, reduceCtorEq, Arg.list, Arg.num, Arg.flag, intOf, andP, Nat.reduceLeDiff, Nat.reduceAdd, Nat.reduceMul, Nat.reduceLT, ckAsk, CK.ask, pl_fold, tw_fold, getI_2b, intAt_2b, cond_true, cond_false, rw2]
  refine ⟨⟨fun h => ⟨by omega, by omega, 1, by omega, by omega, ⟨rfl, ?_⟩, by decide⟩, fun h => by omega⟩, fun x hx => ⟨fun h => ⟨by omega, by omega, ⟨by omega, by omega, later_len x⟩, x + 1, by omega, by omega, ⟨rfl, ?_⟩, wrap_succ (n := n) (by omega) (by omega)⟩, fun h => ?_⟩⟩
  · have := clamp_val (x := tw l 0) (hr.1 0 (by omega)).2 hk
    show _ = List.map (Value.int .i64) [pl l 0, clampT k (tw l 0)]
    rw [← this]; rfl
  · rw [clamp_val (hr.1 x (by omega)).2 hk, laterL, List.map_append]; rfl
  · rw [show x = n by omega]; exact ⟨rfl, rfl⟩
theorem lt_call (b k : Int) (n c : Nat) (l : List Int) (hl : l.length = n * 2) (hn : n ≤ 10) (hn1 : 1 ≤ n) (hr : rngP b n l) (hk : -1000000 ≤ k ∧ k ≤ 1000000) : Call Try.prog 50 [pierV b (some ⟨0,0,none⟩) n c, vi k] [ros l] fun v H' => v = .agg #[vi b, newS 1 n] ∧ H' = [ros l, rw2 (laterL k l n)] := by
  have h := ltV_ok b k n c l hl hn hn1 hr hk
  rw [ltV_eq] at h
  exact Call.ofVcR (H := [ros l]) (args := [pierV b (some ⟨0,0,none⟩) n c, vi k]) (σ := nsub 1 4) (v2 := .agg #[vi b, newS 1 n]) (H2 := [ros l, rw2 (laterL k l n)]) prE1_ok mixed (c := ltB) (inv := ltI b k n c l) Try.func50 (by kernel_rfl) (cast (by kernel_rfl) h)
theorem rw2_omap {σ : Nat → Nat} {l : List Int} : omap σ (rw2 l) = rw2 l := omap_ints
theorem rw2_sc {l : List Int} {n : Nat} : (rw2 l).sc n = true := List.all_eq_true.2 fun u hu => by
  obtain ⟨x, _, rfl⟩ := List.mem_map.1 hu; rfl
theorem rw2_nm {l : List Int} {p : Nat → Bool} : (rw2 l).nm p = true := List.all_eq_true.2 fun u hu => by
  obtain ⟨x, _, rfl⟩ := List.mem_map.1 hu; rfl
theorem made_at {f : FuncId} {b b2 : Int} {n n2 c : Nat} {l r : List Int} {az : List Value} {H : Heap} (has : az.all (sc 0) = true) (h0 : H[0]? = some (ros l))
    (h : Call Try.prog f (pierV b (some ⟨0,0,none⟩) n c :: az) [ros l] fun v H' => v = .agg #[vi b2, newS 1 n2] ∧ H' = [ros l, rw2 r]) :
    Call Try.prog f (pierV b (some ⟨0,0,none⟩) n c :: az) H fun v H' => v = .agg #[vi b2, newS H.length n2] ∧ H' = H ++ [rw2 r] := by
  have hlt : 0 < H.length := (List.getElem?_eq_some_iff.1 h0).1
  have e : ∀ σ : Nat → Nat, nmap σ (.agg #[vi b2, newS 1 n2]) = .agg #[vi b2, newS (σ 1) n2] := fun σ => by simp [nmap, nmap2, nmap1, nmap0, newS, am]
  have hp : ∀ σ : Nat → Nat, σ 0 = 0 → nmap σ (pierV b (some ⟨0,0,none⟩) n c) = pierV b (some ⟨0,0,none⟩) n c := fun σ h0 => by simp [pierV, nmap, nmap2, nmap1, nmap0, am, h0]
  have hm : ∀ σ : Nat → Nat, az.map (nmap σ) = az := fun σ => by
    conv => rhs; rw [← List.map_id az]
    exact List.map_congr_left fun u hu => nmap_closed (List.all_eq_true.1 has u hu)
  have := (Call.frameG (H := H) (Et := [ros l]) (Ft := [ros l]) (N := [rw2 r]) (L := [0]) (vs := pierV b (some ⟨0,0,none⟩) n c :: az) rfl rfl (by simp) (fun y hy => by rw [List.mem_singleton.1 hy]; exact hlt)
    (fun c' o hc => by
      cases c' with
      | zero => cases hc; exact .inr (by rw [ros_omap]; exact h0)
      | succ c' => simp at hc)
    (fun o ho => by rw [List.mem_singleton.1 ho]; exact ros_sc) (by rw [List.map_cons, hp _ rfl, hm])
    (by
      rw [List.all_cons, Bool.and_eq_true]
      exact ⟨by kernel_rfl, List.all_eq_true.2 fun u hu => sc_mono (Nat.zero_le _) (List.all_eq_true.1 has u hu)⟩) h
    (fun o ho => by
      rcases List.mem_append.1 ho with h2 | h2
      · rw [List.mem_singleton.1 h2]; exact ros_nm
      · rw [List.mem_singleton.1 h2]; exact rw2_nm)
    (fun o ho => by rw [List.mem_singleton.1 ho]; rfl) (by kernel_rfl)
    (fun o ho => by
      rcases List.mem_append.1 ho with h2 | h2
      · rw [List.mem_singleton.1 h2, ros_omap]; exact ros_sc
      · rw [List.mem_singleton.1 h2, rw2_omap]; exact rw2_sc)
    (by
      rw [e]
      simp [sc, sc2, sc1, sc0, newS, nameL])).1
  refine this.mono fun v H' hh => ⟨by rw [hh.1, e]; rfl, ?_⟩
  rw [hh.2]
  show H ++ [omap _ (rw2 r)] = _
  rw [rw2_omap]
end Go.Pier.Rd
namespace Go.Pier.Rd
open Go Go.Pier Go.Proofs
theorem mxN_le {st : Nat → Int} {c : Int} : ∀ x, (∀ i, i ≤ x → st i ≤ c) → mxN st x ≤ c
  | 0, h => h 0 (Nat.le_refl _)
  | x + 1, h => by
    have h1 := mxN_le x fun i hi => h i (by omega)
    have h2 := h (x + 1) (Nat.le_refl _)
    rw [mxN]
    split <;> assumption
theorem le_mxN {st : Nat → Int} : ∀ (x i : Nat), i ≤ x → st i ≤ mxN st x
  | 0, i, h => by obtain rfl : i = 0 := by omega
                  exact Int.le_refl _
  | x + 1, i, h => by
    rw [mxN]
    by_cases e : i = x + 1
    · subst e; split <;> omega
    · have := le_mxN (st := st) x i (by omega)
      split <;> omega
theorem rSt_zero {b : Int} {l m : List Int} (x : Nat) : 0 ≤ rSt b l m x := rSt_mono (x := 0) x (Nat.zero_le _)
theorem stp_le {b : Int} {n : Nat} {l m : List Int} (hw : Whole n m) (i : Nat) : stp b l m i ≤ rSt b l m n := by
  have hl := whole_len hw
  rcases Nat.lt_or_ge i n with h | h
  · obtain ⟨k, h1, h2⟩ := whole_all hw h
    have := stp_at (b := b) (l := l) hw h1
    rw [h2, Int.toNat_natCast] at this
    rw [this]
    exact rSt_mono n (by omega)
  · rw [stp, sf_out (whole_mem hw) h _ (Nat.le_refl _)]
    exact rSt_zero n
theorem NL_is {b : Int} {n : Nat} {l m : List Int} (hw : Whole n m) (hn : 1 ≤ n) (hn10 : n ≤ 10) : NL (stp b l m) = rSt b l m n := by
  have hl := whole_len hw
  refine Int.le_antisymm (mxN_le 9 fun i _ => stp_le hw i) ?_
  have h1 := whole_mem hw (n - 1) (by omega)
  have h2 := stp_at (b := b) (l := l) hw (i := n - 1) (by omega)
  rw [show n - 1 + 1 = n by omega] at h2
  rw [← h2]
  exact le_mxN 9 _ (by omega)
theorem rSt_far {b : Int} {l m : List Int} {x : Nat} : ∀ y, x ≤ y → rAt b l m y - rAt b l m x ≤ rSt b l m y - rSt b l m x ∧ rAt b l m x - rAt b l m y ≤ rSt b l m y - rSt b l m x
  | 0, h => by
    obtain rfl : x = 0 := by omega
    omega
  | y + 1, h => by
    rcases Nat.lt_or_ge x (y + 1) with h1 | h1
    · have := rSt_far (b := b) (l := l) (m := m) (x := x) y (by omega)
      have h2 : rSt b l m (y + 1) = rSt b l m y + dist (rAt b l m y) (rAt b l m (y + 1)) := rfl
      rw [dist_eq] at h2
      omega
    · obtain rfl : x = y + 1 := by omega
      omega
theorem getD_app {m r : List Int} {x : Nat} (h : x < m.length) : (m ++ r).getD x 0 = m.getD x 0 := by
  rw [List.getD_eq_getElem?_getD, List.getD_eq_getElem?_getD, List.getElem?_append_left h]
theorem rAt_app {b : Int} {l m r : List Int} : ∀ x, x ≤ m.length → rAt b l (m ++ r) x = rAt b l m x
  | 0, _ => rfl
  | x + 1, h => by rw [rAt, rAt, getD_app (by omega)]
theorem rSt_app {b : Int} {l m r : List Int} : ∀ x, x ≤ m.length → rSt b l (m ++ r) x = rSt b l m x
  | 0, _ => rfl
  | x + 1, h => by rw [rSt, rSt, rSt_app x (by omega), rAt_app x (by omega), getD_app (by omega)]
theorem getD_snoc {m : List Int} {y : Int} : (m ++ [y]).getD m.length 0 = y := by
  rw [List.getD_eq_getElem?_getD, List.getElem?_append_right (Nat.le_refl _), Nat.sub_self]; rfl
def eAt (b : Int) (l m : List Int) : Int := rAt b l m m.length
def eSt (b : Int) (l m : List Int) : Int := rSt b l m m.length
theorem eAt_snoc {b : Int} {l m : List Int} {y : Nat} : eAt b l (m ++ [(y : Int)]) = pl l y := by
  show rAt b l (m ++ [(y : Int)]) (m ++ [(y : Int)]).length = _
  rw [List.length_append, List.length_cons, List.length_nil, rAt, getD_snoc, Int.toNat_natCast]
theorem eSt_snoc {b : Int} {l m : List Int} {y : Nat} : eSt b l (m ++ [(y : Int)]) = eSt b l m + dist (eAt b l m) (pl l y) := by
  show rSt b l (m ++ [(y : Int)]) (m ++ [(y : Int)]).length = _
  rw [List.length_append, List.length_cons, List.length_nil, rSt, rSt_app _ (Nat.le_refl _), rAt_app _ (Nat.le_refl _), getD_snoc, Int.toNat_natCast]; rfl
theorem rds_left {n k f t : Nat} {m r : List Int} (hf : 0 < f) (h : r ∈ rds n k (f - 1) t (m ++ [((f - 1 : Nat) : Int)])) : r ∈ rds n (k + 1) f t m := by
  rw [rds, if_pos hf]; exact List.mem_append_left _ h
theorem rds_right {n k f t : Nat} {m r : List Int} (ht : t < n) (h : r ∈ rds n k f (t + 1) (m ++ [(t : Int)])) : r ∈ rds n (k + 1) f t m := by
  rw [rds, if_pos ht]; exact List.mem_append_right _ h
section
variable {b : Int} {n : Nat} {l : List Int} (ho : ordP b n l)
include ho
theorem ord_le {i j : Nat} (h : i ≤ j) (hj : j < n) : pl l i ≤ pl l j := by
  rcases Nat.lt_or_ge i j with h1 | h1
  · exact Int.le_of_lt (ord_lt ho j i h1 hj)
  · obtain rfl : i = j := by omega
    exact Int.le_refl _
theorem go_right : ∀ (k t : Nat) (m : List Int), n - t = k → t ≤ n → ∃ r ∈ rds n k 0 t m, eSt b l r ≤ eSt b l m + if t < n then dist (eAt b l m) (pl l t) + (pl l (n - 1) - pl l t) else 0
  | 0, t, m, hk, ht => ⟨m, List.mem_cons_self, by rw [if_neg (by omega)]; omega⟩
  | k + 1, t, m, hk, ht => by
    obtain ⟨r, h1, h2⟩ := go_right k (t + 1) (m ++ [(t : Int)]) (by omega) (by omega)
    refine ⟨r, rds_right (by omega) h1, ?_⟩
    rw [eSt_snoc, eAt_snoc] at h2
    rw [if_pos (by omega)]
    by_cases e : t + 1 < n
    · rw [if_pos e, dist_eq (a := pl l t)] at h2
      have := ord_le ho (i := t) (j := t + 1) (by omega) e
      omega
    · rw [if_neg e] at h2
      rw [show n - 1 = t by omega]
      omega
theorem go_left : ∀ (k : Nat) (m : List Int), k ≤ n → ∃ r ∈ rds n k k n m, eSt b l r ≤ eSt b l m + if 0 < k then dist (eAt b l m) (pl l (k - 1)) + (pl l (k - 1) - pl l 0) else 0
  | 0, m, hk => ⟨m, List.mem_cons_self, by rw [if_neg (by omega)]; omega⟩
  | k + 1, m, hk => by
    obtain ⟨r, h1, h2⟩ := go_left k (m ++ [(k : Int)]) (by omega)
    refine ⟨r, rds_left (by omega) h1, ?_⟩
    rw [eSt_snoc, eAt_snoc] at h2
    rw [if_pos (by omega), show k + 1 - 1 = k from rfl]
    by_cases e : 0 < k
    · rw [if_pos e, dist_eq (a := pl l k)] at h2
      have := ord_le ho (i := k - 1) (j := k) (by omega) (by omega)
      omega
    · rw [if_neg e] at h2
      obtain rfl : k = 0 := by omega
      omega
theorem left_right : ∀ (f t : Nat) (m : List Int), t ≤ n → f ≤ t → ∃ r ∈ rds n (f + (n - t)) f t m, eSt b l r ≤ eSt b l m + if 0 < f then dist (eAt b l m) (pl l (f - 1)) + (pl l (f - 1) - pl l 0) + (if t < n then pl l (n - 1) - pl l 0 else 0)
      else if t < n then dist (eAt b l m) (pl l t) + (pl l (n - 1) - pl l t) else 0
  | 0, t, m, ht, hf => by
    obtain ⟨r, h1, h2⟩ := go_right ho (n - t) t m rfl ht
    exact ⟨r, by rw [Nat.zero_add]; exact h1, by rw [if_neg (by omega)]; exact h2⟩
  | f + 1, t, m, ht, hf => by
    obtain ⟨r, h1, h2⟩ := left_right f t (m ++ [(f : Int)]) ht (by omega)
    refine ⟨r, by rw [show f + 1 + (n - t) = f + (n - t) + 1 by omega]; exact rds_left (by omega) h1, ?_⟩
    rw [eSt_snoc, eAt_snoc] at h2
    rw [if_pos (by omega), show f + 1 - 1 = f from rfl]
    by_cases e : 0 < f
    · rw [if_pos e, dist_eq (a := pl l f)] at h2
      have := ord_le ho (i := f - 1) (j := f) (by omega) (by omega)
      omega
    · rw [if_neg e] at h2
      obtain rfl : f = 0 := by omega
      by_cases e2 : t < n
      · rw [if_pos e2, dist_eq (a := pl l 0)] at h2
        rw [if_pos e2]
        have := ord_le ho (i := 0) (j := t) (by omega) e2
        omega
      · rw [if_neg e2] at h2
        rw [if_neg e2]
        omega
theorem right_left : ∀ (k f t : Nat) (m : List Int), n - t = k → t ≤ n → f ≤ t → ∃ r ∈ rds n (f + k) f t m, eSt b l r ≤ eSt b l m + if t < n then dist (eAt b l m) (pl l t) + (pl l (n - 1) - pl l t) + (if 0 < f then pl l (n - 1) - pl l 0 else 0)
      else if 0 < f then dist (eAt b l m) (pl l (f - 1)) + (pl l (f - 1) - pl l 0) else 0
  | 0, f, t, m, hk, ht, hf => by
    obtain rfl : t = n := by omega
    obtain ⟨r, h1, h2⟩ := go_left ho f m hf
    exact ⟨r, h1, by rw [if_neg (by omega)]; exact h2⟩
  | k + 1, f, t, m, hk, ht, hf => by
    obtain ⟨r, h1, h2⟩ := right_left k f (t + 1) (m ++ [(t : Int)]) (by omega) (by omega) (by omega)
    refine ⟨r, rds_right (by omega) h1, ?_⟩
    rw [eSt_snoc, eAt_snoc] at h2
    rw [if_pos (show t < n by omega)]
    by_cases e : t + 1 < n
    · rw [if_pos e, dist_eq (a := pl l t)] at h2
      have := ord_le ho (i := t) (j := t + 1) (by omega) e
      omega
    · rw [if_neg e] at h2
      rw [show n - 1 = t by omega]
      by_cases e2 : 0 < f
      · rw [if_pos e2, dist_eq (a := pl l t)] at h2
        rw [if_pos e2]
        have := ord_le ho (i := f - 1) (j := t) (by omega) (by omega)
        omega
      · rw [if_neg e2] at h2
        rw [if_neg e2]
        omega
end
def frm (b P Q : Int) : Int := max b Q - min b P + min (b - min b P) (max b Q - b)
theorem lefts_spec {b : Int} {n : Nat} {l : List Int} (ho : ordP b n l) : (∀ j, j < lefts b n l → pl l j < b) ∧ (∀ j, lefts b n l ≤ j → j < n → b < pl l j) := by
  obtain ⟨h1, h2, h3, h4⟩ := lf_spec (b := b) (l := l) n 0
  refine ⟨fun j hj => h3 j (Nat.zero_le _) hj, fun j h5 h6 => ?_⟩
  have hlt : lefts b n l < n := by omega
  have h7 : ¬ pl l (lefts b n l) < b := h4 (by unfold lefts at hlt; omega)
  have h8 := (ho (lefts b n l) hlt).1
  have h9 := ord_le ho h5 h6
  omega
theorem frm_max {b Q : Int} : (if Q > b then Q else b) = max b Q := by split <;> omega
theorem frm_min {b P : Int} : (if P < b then P else b) = min b P := by split <;> omega
theorem long_enough {b : Int} {n : Nat} {l m : List Int} (ho : ordP b n l) (hn : 1 ≤ n) (hw : Whole n m) : frm b (pl l 0) (pl l (n - 1)) ≤ rSt b l m n := by
  have hl := whole_len hw
  obtain ⟨i, h1, h2⟩ := whole_all hw (a := 0) (by omega)
  obtain ⟨j, h3, h4⟩ := whole_all hw (a := n - 1) (by omega)
  have a1 : rAt b l m (i + 1) = pl l 0 := by rw [rAt, h2]; rfl
  have a2 : rAt b l m (j + 1) = pl l (n - 1) := by rw [rAt, h4, Int.toNat_natCast]
  have hPQ := ord_le ho (i := 0) (j := n - 1) (by omega) (by omega)
  have f1 := rSt_far (b := b) (l := l) (m := m) (x := 0) (i + 1) (Nat.zero_le _)
  have f2 := rSt_far (b := b) (l := l) (m := m) (x := 0) (j + 1) (Nat.zero_le _)
  have z1 : rAt b l m 0 = b := rfl
  have z2 : rSt b l m 0 = 0 := rfl
  have m1 := rSt_mono (b := b) (l := l) (m := m) (x := i + 1) n (by omega)
  have m2 := rSt_mono (b := b) (l := l) (m := m) (x := j + 1) n (by omega)
  unfold frm
  rcases Nat.le_total i j with hij | hij
  · have f3 := rSt_far (b := b) (l := l) (m := m) (x := i + 1) (j + 1) (by omega)
    omega
  · have f3 := rSt_far (b := b) (l := l) (m := m) (x := j + 1) (i + 1) (by omega)
    omega
theorem short_one {b : Int} {n : Nat} {l : List Int} (ho : ordP b n l) (hn : 1 ≤ n) : ∃ m ∈ rds n n (lefts b n l) (lefts b n l) [], rSt b l m n ≤ frm b (pl l 0) (pl l (n - 1)) := by
  obtain ⟨h1, h2⟩ := lefts_spec ho
  have hf := lefts_le (b := b) (n := n) (l := l)
  generalize lefts b n l = f at *
  have e0 : eSt b l [] = 0 := rfl
  have e1 : eAt b l [] = b := rfl
  have hk : f + (n - f) = n := by omega
  obtain ⟨r1, k1, k2⟩ := left_right ho f f [] hf (Nat.le_refl _)
  obtain ⟨r2, k3, k4⟩ := right_left ho (n - f) f f [] rfl hf (Nat.le_refl _)
  rw [hk] at k1 k3
  have w1 : r1.length = n := whole_len (rds_mem_whole hf r1 k1)
  have w2 : r2.length = n := whole_len (rds_mem_whole hf r2 k3)
  have q1 : eSt b l r1 = rSt b l r1 n := by rw [eSt, w1]
  have q2 : eSt b l r2 = rSt b l r2 n := by rw [eSt, w2]
  rw [q1, e0, e1] at k2
  rw [q2, e0, e1] at k4
  have hPQ := ord_le ho (i := 0) (j := n - 1) (by omega) (by omega)
  by_cases hf0 : 0 < f
  · have p1 := h1 (f - 1) (by omega)
    have p0 := h1 0 hf0
    rw [if_pos hf0, dist_eq] at k2
    by_cases hfn : f < n
    · have p2 := h2 f (Nat.le_refl _) hfn
      have p3 := h2 (n - 1) (by omega) (by omega)
      rw [if_pos hfn] at k2
      rw [if_pos hfn, dist_eq, if_pos hf0] at k4
      by_cases hc : b - pl l 0 ≤ pl l (n - 1) - b
      · refine ⟨r1, k1, ?_⟩
        unfold frm; omega
      · refine ⟨r2, k3, ?_⟩
        unfold frm; omega
    · rw [if_neg hfn] at k2
      have p3 := h1 (n - 1) (by omega)
      refine ⟨r1, k1, ?_⟩
      unfold frm; omega
  · obtain rfl : f = 0 := by omega
    have p3 := h2 (n - 1) (by omega) (by omega)
    have p2 := h2 0 (Nat.le_refl _) (by omega)
    rw [if_neg hf0, if_pos (by omega), dist_eq] at k2
    refine ⟨r1, k1, ?_⟩
    unfold frm; omega
theorem free_math {b : Int} {n : Nat} {l : List Int} (hP : errP b n l = 0) (ht : ∀ i, i < n → tw l i = 9000) :
    (shL b n (lefts b n l) l).no = false ∧ NL (shL b n (lefts b n l) l).st = frm b (pl l 0) (pl l (n - 1)) := by
  obtain ⟨⟨n1, n2⟩, hr, ho⟩ := errP_cases hP
  have hf := lefts_le (b := b) (n := n) (l := l)
  obtain ⟨m, hm, hle⟩ := short_one ho n1
  have hw := rds_mem_whole hf m hm
  have b1 := (hr.1 0 (by omega)).1
  have b2 := (hr.1 (n - 1) (by omega)).1
  have b0 := hr.2
  have h9 : frm b (pl l 0) (pl l (n - 1)) ≤ 9000 := by unfold frm; omega
  have hg : inTB n l (stp b l m) = true := (dB_true fun i hi => by
    have := stp_le (b := b) (l := l) hw i
    rw [ht i hi]; omega).symm
  obtain ⟨q1, q2⟩ := shL_least (b := b) (n := n) (f := lefts b n l) (l := l)
  have hno : (shL b n (lefts b n l) l).no = false := by
    cases hc : (shL b n (lefts b n l) l).no with
    | false => rfl
    | true => have := (q1 hc).2 m hm; rw [hg] at this; cases this
  obtain ⟨⟨m2, k1, k2, k3⟩, k4⟩ := q2 hno
  have hw2 := rds_mem_whole hf m2 k1
  refine ⟨hno, Int.le_antisymm ?_ ?_⟩
  · have := k4 m hm hg
    rw [NL_is hw n1 n2] at this
    exact Int.le_trans this hle
  · rw [k3, NL_is hw2 n1 n2]
    exact long_enough ho n1 hw2
end Go.Pier.Rd
namespace Go.Pier.RoundK
open Go Go.Pier Go.Proofs
def vi (n : Int) : Value := .int .i64 n
noncomputable def t0 : Tbl := fun _ => none
theorem t0_ok : TblOk Try.prog t0 := tblOk_none
end Go.Pier.RoundK
