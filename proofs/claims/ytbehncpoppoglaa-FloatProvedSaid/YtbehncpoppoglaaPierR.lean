import Derived.Test.YtbehncpoppoglaaPierO
import Derived.RangeFuncRecord
set_option linter.unusedSimpArgs false
set_option linter.unusedVariables false
namespace Go.Pier
open Go
variable {P : Program} {ρ : Ren} {H H' : Heap} {w : World} {ro : Option Nat}
theorem setLoop_sound (R : Rel ρ H w) {b : Nat} {st st1 : LoopState} {pend pend1 : Option Code} {t : Array Value} {ps : Array Tmp} {assign body : Code}
   (hb : H[b]? = some (.loop st pend t ps assign body)) : ∃ (r : Loop),w.heap[ρ.φ b]? = some (.loop r)∧r.state = st∧r.pending = pend∧TmOk ρ t r.tmps∧r.params = ps∧r.assign = assign∧r.body = body ∧
     Rel ρ (H.set b (.loop st1 pend1 t ps assign body)) (w.putObj (ρ.φ b) (.loop { r with state := st1,pending := pend1 })) ∧
     Ext ρ H w ρ (H.set b (.loop st1 pend1 t ps assign body)) (w.putObj (ρ.φ b) (.loop { r with state := st1,pending := pend1 })) := by
 obtain ⟨fn,df,tm,ho,htm⟩ := R.obj b _ hb
 refine ⟨_,ho,rfl,rfl,htm,rfl,rfl,rfl,?_⟩
 have hlt : ρ.φ b < w.heap.size := by
   obtain ⟨hl,_⟩ := Array.getElem?_eq_some_iff.1 ho
   exact hl
 refine R.upd (by rw [wr_of_get hb]; rfl) _ rfl (show t.all (sc H.length) = true from R.scp b _ hb) (by simp [World.putObj]) (fun i hi => ?_) ?_ rfl rfl rfl
 · simp only [World.putObj]
   exact Array.getElem?_setIfInBounds_ne (Ne.symm hi)
 · exact ⟨fn,df,tm,by simp [World.putObj,hlt],htm⟩
def roundT (t : Array Value) : List (Tmp × Value)→Array Value
 | [] => t
 | (k,v) :: l => roundT (t.setIfInBounds k v) l
theorem roundT_ren : ∀ (l : List (Tmp × Value)) (t : Array Value),(l.map fun p => (p.1,ren ρ p.2)).foldl (fun (t : Array Value) (p : Tmp × Value) => t.setIfInBounds p.1 p.2) (t.map (ren ρ)) = (roundT t l).map (ren ρ)
 | [],_ => rfl
 | (k,v) :: l,t => by
   simp only [List.map_cons,List.foldl_cons,roundT]
   rw [← roundT_ren l]
   congr 1
   apply Array.ext_getElem?
   intro i
   simp only [Array.getElem?_setIfInBounds,Array.getElem?_map,Array.size_map]
   split <;> rename_i h1
   · split <;> simp
   · rfl
theorem roundT_sc {n : Nat} : ∀ (l : List (Tmp × Value)) (t : Array Value),t.all (sc n) = true→(∀ p ∈ l,sc n p.2 = true)→(roundT t l).all (sc n) = true
 | [],_,h,_ => h
 | (k,_) :: l,_,h,hl => roundT_sc l _ (aput_sc (d := some k) h (hl _ List.mem_cons_self)) fun p hp => hl p (List.mem_cons_of_mem _ hp)
def roundEnd (x : AExit) (t : Array Value) (ps : Array Tmp) (assign body : Code) : AObj :=
 match x with
 | .normal => .loop .ready none t ps assign body
 | .exit id => .loop .done (some (.exit id)) t ps assign body
 | .ret => .loop .done (some .ret) t ps assign body
theorem Yield.intro {b : Nat} {t0 : Array Value} {ps : Array Tmp} {assign body : Code} {args : List Value} {Q : Value→Heap→Prop} (hb : H[b]? = some (.loop .ready none t0 ps assign body)) (hl : args.length = ps.size) (hj : t0.toList.all (fun v => !isJunk v) = true)
   (h : CW (some b) P assign H (roundT t0 (ps.toList.zip args)) fun x t2 H2 => x = .normal∧H2[b]? = some (.loop .ready none t0 ps assign body) ∧
     CW (some b) P body (H2.set b (.loop .busy none t0 ps assign body)) t2 fun x _ H3 => H3[b]? = some (.loop .busy none t0 ps assign body)∧Q (.bool (decide (x = .normal))) (H3.set b (roundEnd x t0 ps assign body))) :
   Yield P b args H Q := by
 intro ρ w R hs
 obtain ⟨fn,df,tm,ho,htm⟩ := R.obj b _ hb
 obtain rfl := htm.eq hj
 have hz : (ps.zip (args.map (ren ρ)).toArray).foldl (fun (t : Array Value) (p : Tmp × Value) => t.setIfInBounds p.1 p.2) (t0.map (ren ρ)) = (roundT t0 (ps.toList.zip args)).map (ren ρ) := by
   rw [← roundT_ren,← Array.foldl_toList]
   congr 1
   simp [List.zip_map_right]
 refine ⟨fn,(roundT t0 (ps.toList.zip args)).map (ren ρ),assign,body,?_,roundIn_of_wpIn trivial ?_⟩
 · simp only [Instr.yield,Sem.run_bind,run_getLoop ho,Result.andThen_ok]
   rw [if_neg (by simp [hl])]
   simp only [Sem.run_bind,Sem.run_pure,Result.andThen_ok]
   rw [← hz]
 · have hsc : (roundT t0 (ps.toList.zip args)).all (sc H.length) = true := roundT_sc _ _ (R.scp b _ hb) fun p hp => List.all_eq_true.1 hs p.2 (List.of_mem_zip hp).2
   have hlt := (List.getElem?_eq_some_iff.1 hb).1
   have h0 := h w.heap.size [] ρ w R ⟨Nat.le_refl _,List.Pairwise.nil,by simp⟩ hsc fun _ e => by cases e; exact hlt
   refine wpIn_mono h0 ?_
   rintro e a w1 ⟨x,rfl,ds,ρ1,t2,H2,rfl,⟨rfl,hb2,hbody⟩,R1,X1,s1,M1⟩
   have hφ1 : ρ1.φ b = ρ.φ b := (X1.agree b (.inl (List.getElem?_eq_some_iff.1 hb).1)).1
   obtain ⟨r,hr,r1,r2,r3,r4,r5,r6,R2,X2⟩ := setLoop_sound (st1 := .busy) (pend1 := none) R1 hb2
   rw [hφ1] at hr R2 X2
   refine ⟨w1.putObj (ρ.φ b) (.loop { r with state := .busy,pending := none }),?_,?_⟩
   · have e : ({ r with state := .busy } : Loop) = { r with state := .busy, pending := none } := by
       cases r
       simp only at r2
       subst r2
       rfl
     simp only [Instr.beginRound,Sem.run_bind,run_getLoop hr,Result.andThen_ok,run_setObj_loop _ hr,r1,e,Sem.run_pure]
   · have hL : (H2.set b (.loop .busy none t0 ps assign body)).length = H2.length := by simp
     have h8 := hbody w.heap.size ds ρ1 _ R2 (M1.ext X2) (by rw [hL]; exact s1) fun _ e => by cases e; rw [hL]; exact (List.getElem?_eq_some_iff.1 hb2).1
     rw [show (some b).map ρ1.φ = (some b).map ρ.φ by simp [hφ1]] at h8
     refine wpIn_mono h8 ?_
     rintro e a w3 ⟨x,rfl,ds3,ρ3,t3,H3,rfl,⟨hb3,hq⟩,R3,X3,s3,M3⟩
     have hφ3 : ρ3.φ b = ρ.φ b := by
       rw [(X3.agree b (.inl (by rw [hL]; exact (List.getElem?_eq_some_iff.1 hb2).1))).1,hφ1]
     have fin : ∀ (st : LoopState) (pend : Option Code), roundEnd x t0 ps assign body = .loop st pend t0 ps assign body → (if pend.isNone then LoopState.ready else LoopState.done) = st → decide (x = .normal) = pend.isNone →
         ∃ v w',(Instr.endRound (ρ.φ b) pend).run P w3 = .ok v w'∧∃ ρ' v' H',Ending.returned v = .returned (ren ρ' v')∧Q v' H'∧Rel ρ' H' w'∧Ext ρ H w ρ' H' w'∧sc H'.length v' = true := by
       intro st pend he hst hx
       subst hst
       obtain ⟨r',hr',q1,q2,q3,q4,q5,q6,R4,X4⟩ := setLoop_sound (st1 := if pend.isNone then LoopState.ready else LoopState.done) (pend1 := pend) R3 hb3
       rw [hφ3] at hr' R4 X4
       refine ⟨.bool pend.isNone,w3.putObj (ρ.φ b) (.loop { r' with state := if pend.isNone then LoopState.ready else LoopState.done,pending := pend }),?_,ρ3,.bool pend.isNone,H3.set b (.loop (if pend.isNone then LoopState.ready else LoopState.done) pend t0 ps assign body),rfl,?_,R4,((X1.trans X2).trans X3).trans X4,rfl⟩
       · simp only [Instr.endRound,Sem.run_bind,run_getLoop hr',Result.andThen_ok,run_setObj_loop _ hr',Sem.run_pure]
       · rw [← he,← hx]; exact hq
     cases x with
     | normal => exact fin .ready none rfl rfl rfl
     | exit id => exact fin .done (some (.exit id)) rfl rfl rfl
     | ret => exact fin .done (some .ret) rfl rfl rfl
end Go.Pier
