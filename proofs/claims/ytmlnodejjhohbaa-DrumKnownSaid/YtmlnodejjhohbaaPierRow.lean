import Derived.Test.YtmlnodejjhohbaaPierW
import Derived.WalkKit
import Derived.ProofKit
import Derived.OpenShut
set_option linter.unusedSimpArgs false
set_option linter.unusedVariables false
namespace Go.Pier
open Go
theorem kept_of_ext {P : Program} {ρ ρ' : Ren} {w w' : World} {H : Heap} (hw : ∀ b,wr H b = false) {H' : Heap} (X : Ext ρ H w ρ' H' w') : w.keptBut w' (fun _ => False) := by
 refine ⟨X.os,X.output,fun i hi => ?_⟩
 have := X.keep i hi (fun b hb => by rw [hw b] at hb; cases hb)
 rw [this]
 exact (World.keptBut_refl w (fun _ => False)).2.2 i hi
theorem Rel.empty (ρ : Ren) (w : World) : Rel ρ [] w := ⟨fun b o h => by simp at h,fun b b' h => by simp [wr] at h,fun b b' h => by simp [isRo] at h,fun b b' h => by simp [isMix] at h,fun b o h => by simp at h⟩
theorem closed_call {P : Program} {f : FuncId} {v0 : Value} (h : Call P f [] [] fun v H' => v = v0∧H' = []) (hv : sc 0 v0 = true) (w : World) : Calls P f #[] w fun e w' => e = .returned v0∧w.keptBut w' (fun _ => False) := by
 have := h ⟨fun _ => 0,fun _ => 0,fun _ => 0⟩ w (Rel.empty _ _) rfl
 refine this.mono ?_
 rintro e w' ⟨ρ',v,H',rfl,⟨rfl,rfl⟩,_,X,_⟩
 exact ⟨by rw [ren_closed hv],kept_of_ext (P := P) (fun b => by simp [wr]) X⟩
theorem post_kept {H : Type} {enc : TypeId × Value→H} {P : Program} {f : Func} {s : ChangeSpec} {apart fresh handsOn : Bool} {W W' : World} {args : Array Value} {v : Value} {ds gs : List (DataW H)} {before pa pv : List MemPlace}
   (hW : DataW.Whole enc P f.params.toList s.vars apart W args.toList ds gs before)
   (hres : ∀ (b : Nat) (sp : Nat→Bool) (hd : Bool),DataW.TrodAll enc P W' b sp hd f.resultTypes.toList (v.resultList f.resultTypes.size) (s.fn H (ds ++ gs)).results [])
   (hargs : ∀ sp : Nat→Bool,(∀ p ∈ before,sp p.block = true)→DataW.TrodAll enc P W' 0 sp true f.params.toList args.toList (s.fn H (ds ++ gs)).args pa)
   (hvars : ∀ sp : Nat→Bool,(∀ p ∈ before,sp p.block = true)→DataW.TrodVars enc P W' sp s.vars (s.fn H (ds ++ gs)).vars pv)
   (hps : before = pa ++ pv) (hk : W.keptBut W' (· ∈ before)) : s.post enc P f apart fresh handsOn false W args v W' := by
 have hold : ∀ p ∈ before,(fun b => decide (b < W.heap.size)) p.block = true := fun p hp => by simpa using hW.lt p hp
 refine ⟨ds,gs,before,[],pa,pv,hW,hres _ _ _,hargs _ hold,hvars _ hold,World.keptBut_mono (fun p hp => ⟨hp,?_⟩) hk,fun h => by cases h⟩
 rw [hps,List.mem_append] at hp
 exact Or.inr hp
end Go.Pier
