import Derived.Test.YtbehncpoppoglaaPierKP1
import Derived.WalkKit
import Derived.ProofKit
import Derived.OpenShut
set_option linter.unusedSimpArgs false
set_option linter.unusedVariables false
namespace Go.Pier
open Go Go.RowKit Go.ChangeShapes Go.WideShapes
variable {K : Type} {enc : TypeId × Value→K} {P : Program}
def readsB (P : Program) (ts : List TypeId) : Bool := ts.all fun t => P.readableRec t && decide (t < P.types.size)
theorem trodAll_length {w : World} : ∀ {ts : List TypeId} {vs : List Value} {ds : List (DataW K)} {ps : List MemPlace},DataW.TrodAll enc P w 0 (fun _ => true) true ts vs ds ps→ds.length = ts.length
 | [],[],[],_,_ => rfl
 | _ :: ts,_ :: vs,_ :: ds,_,h => by
   obtain ⟨p,q,_,h2,_⟩ := h
   simp [trodAll_length h2]
 | [],[],_ :: _,_,h => h.elim
 | [],_ :: _,[],_,h => h.elim
 | [],_ :: _,_ :: _,_,h => h.elim
 | _ :: _,[],[],_,h => h.elim
 | _ :: _,[],_ :: _,_,h => h.elim
 | _ :: _,_ :: _,[],_,h => h.elim
theorem trodAll_below (hl : laidOutB P = true) {W W' : World} (hb : Below W.heap.size W W') : ∀ {ts : List TypeId} {vs : List Value} {ds : List (DataW K)} {ps : List MemPlace},readsB P ts = true →
   DataW.TrodAll enc P W 0 (fun _ => true) true ts vs ds ps→(∀ x ∈ ps,x.block < W.heap.size)→DataW.TrodAll enc P W' 0 (fun b => decide (b < W.heap.size)) true ts vs ds ps
 | [],[],[],_,_,h,_ => h
 | t :: ts,v :: vs,d :: ds,_,hr,h,hlt => by
   obtain ⟨p,q,h1,h2,rfl⟩ := h
   simp only [readsB,List.all_cons,Bool.and_eq_true,decide_eq_true_eq] at hr
   exact ⟨p,q,Below.trod hl hr.1.1 hr.1.2 h1 hb (fun x hx => hlt x (List.mem_append_left _ hx)),trodAll_below hl hb (by simpa [readsB] using hr.2) h2 (fun x hx => hlt x (List.mem_append_right _ hx)),rfl⟩
 | [],[],_ :: _,_,_,h,_ => h.elim
 | [],_ :: _,[],_,_,h,_ => h.elim
 | [],_ :: _,_ :: _,_,_,h,_ => h.elim
 | _ :: _,[],[],_,_,h,_ => h.elim
 | _ :: _,[],_ :: _,_,_,h,_ => h.elim
 | _ :: _,_ :: _,[],_,_,h,_ => h.elim
theorem open_contract {f : FuncId} {F : Func} {s : ChangeSpec} {N : Nat} {t : TypeId} (hl : laidOutB P = true) (hts : readsB P F.params.toList = true) (hsim : F.params.toList.all (simple P N) = true) (hvars : s.vars = [])
   (hspec : ∀ ds : List (DataW K),ds.length = F.params.toList.length→s.fn K ds = { results := [.lit (.bool true)],args := ds }) (hres : F.resultTypes = #[t])
   (hbool : ∀ (W' : World) (b : Nat),DataW.Trod enc P W' b (fun _ => false) false t (.bool true) (.lit (.bool true)) [])
   (law : ∀ (H : Heap) (avs : List Value) (ds : List (DataW K)),Still H→ReadsAll P H F.params.toList avs ds→Call P f avs H fun v _ => v = .bool true)
   {W : World} {base : Nat} {args : Array Value} {ds gs : List (DataW K)} {before : List MemPlace}
   (hval : ∀ (j : Nat) t v,F.params[j]? = some t→args[j]? = some v→Value.okWide P W .any base t v) (hW : DataW.Whole enc P F.params.toList s.vars false W args.toList ds gs before) :
   Calls P f args W fun e W' => ∃ v,e = .returned v∧s.post enc P F false true false false W args v W' := by
 have hW' := hW
 have hlt : ∀ x ∈ before,x.block < W.heap.size := fun x hx => by simpa using hW.lt x hx
 obtain ⟨p,q,hA,hV,rfl,hfz,hnd⟩ := hW
 rw [hvars] at hV
 obtain ⟨rfl,rfl⟩ := trodVars_none hV
 have hc := open_call (f := f) (base := base) hsim (fun j t v hj hv => hval j t v (by simpa using hj) hv) hA (fun H avs => law H avs ds)
 refine hc.mono fun e W' ⟨he,bel⟩ => ?_
 subst he
 have hsp := hspec ds (trodAll_length hA)
 refine ⟨_,rfl,ds,[],_,[],p,[],hW',?_,?_,?_,bel.frame _,fun h => by cases h⟩
 · rw [List.append_nil,hsp,hres]
   exact trodAll_cons_mk (hbool W' _) trodAll_mk0
 · rw [List.append_nil,hsp]
   exact trodAll_below hl bel hts hA (fun x hx => hlt x (List.mem_append_left _ hx))
 · rw [List.append_nil,hsp,hvars]
   rfl
end Go.Pier
