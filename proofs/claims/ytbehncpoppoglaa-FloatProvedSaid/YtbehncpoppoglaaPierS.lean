import Derived.Test.YtbehncpoppoglaaPierR
set_option linter.unusedSimpArgs false
set_option linter.unusedVariables false
namespace Go.Pier
open Go
variable {P : Program} {ρ : Ren} {H H' : Heap} {w : World}
theorem alloc_size (w : World) (o : Obj) : (w.alloc o).heap.size = w.heap.size + 1 := Array.size_push _
theorem Rel.more (R : Rel ρ H w) (o : Obj) : Rel ρ H (w.alloc o)∧Ext ρ H w ρ H (w.alloc o) := by
 refine ⟨⟨fun b a hb => ?_,R.inj,R.sep,R.deep,R.scp⟩,⟨Nat.le_refl _,fun _ _ => ⟨rfl,rfl,rfl⟩,by rw [alloc_size]; omega,fun k hk _ => alloc_old _ _ _ hk,fun _ h => .inl h,fun _ h => .inl h,fun _ h => h,rfl,rfl,rfl⟩⟩
 refine ObjOk.move (Agree.refl H.length ρ) (List.getElem?_eq_some_iff.1 hb).1 (R.scp b a hb) ?_ (Below'.of (by rw [alloc_size]; omega) fun cs e k hk => alloc_old _ _ _ (by subst e; have := (R.obj b _ hb).2.1; omega)) (R.obj b a hb)
 by_cases hx : a = .gone
 · exact .inl hx
 · refine .inr (alloc_old _ _ _ ?_)
   cases a with
   | gone => exact absurd rfl hx
   | mix cs => have := R.obj b _ hb; exact Nat.lt_of_lt_of_le this.1 this.2.1
   | ro cs => exact (R.obj b _ hb).1
   | _ => exact R.phys_lt (by rw [wr_of_get hb]; rfl)
theorem Mark.forget {base : Nat} {d : Deferred} (h : Mark base ρ H w d) (b : Nat) : Mark base ρ (H.set b .gone) w d := by
 obtain ⟨r,h1,h2,h3,h4⟩ := h
 exact ⟨r,h1,h2,h3,fun c hc => h4 c (wr_forget hc).1⟩
theorem callFunc_ok {g : FuncId} (h : fnOk P g = true) (args : Array Value) : (callFunc g args).run P w = .ok (.enter g args) w := by
 unfold fnOk at h
 split at h <;> try (cases h; done)
 rename_i fn hfn
 simp only [Bool.and_eq_true,bne_iff_ne,ne_eq] at h
 have hbody : fn.body.isNone = false := by
   cases hb : fn.body with
   | none => rw [hb] at h; cases h.2
   | some c => rfl
 have hname : (fn.name == "runtime.NumGoroutine") = false := by simpa using h.1
 simp only [callFunc,Sem.run_bind,run_program,Result.andThen_ok,hfn,hname,hbody,Bool.false_eq_true,↓reduceIte,Sem.run_pure]
theorem run_enterLoop_inner {l₀ : Nat} {r₀ : Loop} (h : w.heap[l₀]? = some (.loop r₀)) (fn : FuncId) (tmps : Array Value) (ps : Array Tmp) (assign body : Code) :
   (Instr.enterLoop fn tmps ps assign body (some l₀)).run P w = .ok (w.heap.size,[]) (w.alloc (.loop { state := .ready,pending := none,fn := fn,tmps := tmps,params := ps,assign := assign,body := body,defers := r₀.defers })) := by
 unfold Instr.enterLoop
 simp only [Sem.run_bind,run_getLoop h,run_newObj_alloc,Result.andThen,Sem.run_pure]
def rangeEnd (n : Nat) (t : Array Value) (Q : AExit→Array Value→Heap→Prop) (H2 : Heap) : Prop :=
 ∃ st pend t1 ps assign body,H2[n]? = some (.loop st pend t1 ps assign body)∧st ≠ .busy∧match pend with
   | none => Q .normal t (H2.set n .gone)
   | some (.exit id) => Q (.exit id) t (H2.set n .gone)
   | some .ret => Q .ret t (H2.set n .gone)
   | some _ => False
theorem CW.rangeFunc {g : Operand} {ps : Array Tmp} {assign body : Code} {t : Array Value} {Q : AExit→Array Value→Heap→Prop} {gf : FuncId} {a cap : Array Value} (hg : aeval t g = some (.func (.func gf) a cap)) (hok : fnOk P gf = true)
   (h : Pier.Call P gf (a.toList ++ [.func (.yield H.length) #[] #[]] ++ cap.toList) (H ++ [.loop .ready none t ps assign body]) fun _ H2 => rangeEnd H.length t Q H2) :
   CW none P (.rangeFunc g ps assign body) H t Q := by
 intro base ds ρ w R M hs _
 show (Code.rangeFunc g ps assign body).wpIn (Place.F ⟨ds,none⟩) 0 P (Post base none ρ H w Q) (act ⟨ds,none⟩ ρ t) w
 refine wpIn_rangeFunc fun fn _ => ?_
 obtain ⟨gs,ge⟩ := aeval_ok (D := ⟨ds,none⟩) (ρ := ρ) hs _ _ hg
 have hsc : a.all (scA H.length) = true∧cap.all (sc0 H.length) = true := by
   have : (a.all (scA H.length) && cap.all (sc0 H.length)) = true := gs
   simpa only [Bool.and_eq_true] using this
 obtain ⟨R0,X0⟩ := R.more (.deferred (some []))
 let w0 := w.alloc (.deferred (some []))
 have hw0 : w0.heap.size = w.heap.size + 1 := alloc_size _ _
 let L : Obj := .loop { state := .ready,pending := none,fn := fn,tmps := (act ⟨ds,none⟩ ρ t).tmps,params := ps,assign := assign,body := body,defers := w.heap.size }
 let w1 := w0.alloc L
 let ρ1 := ρ.ext H.length w0.heap.size 0
 have hag : Agree H.length ρ ρ1 := Ren.ext_agree ρ H.length w0.heap.size 0
 have hφ1 : ρ1.φ H.length = w0.heap.size := by simp [ρ1,Ren.ext]
 obtain ⟨R1,X1⟩ := R0.push (w' := w1) (.loop .ready none t ps assign body) 0 rfl (all_mono (fun _ => sc_mono (Nat.le_succ _)) t hs) (alloc_size _ _) (fun i hi => alloc_old _ _ _ hi)
   ⟨fn,w.heap.size,t.map (ren ρ),by
     rw [show (ρ.ext H.length w0.heap.size 0).φ H.length = w0.heap.size from hφ1]
     rw [alloc_new]
     rfl,by
     rw [← map_congr_all (fun v hv => ren_agree hag hv) t hs]
     exact TmOk.map _ _⟩ rfl rfl rfl
 have X01 := X0.trans X1
 have M1 : Marks base ρ1 (H ++ [.loop .ready none t ps assign body]) w1 ({ target := .collected w.heap.size,args := #[] } :: ds) := by
   have M' := M.ext X01
   refine ⟨M'.low,List.pairwise_cons.2 ⟨fun d hd => ?_,M'.apart⟩,fun d hd => ?_⟩
   · obtain ⟨r,e1,e2,e3,e4⟩ := M.each d hd
     have hr : r < w.heap.size := by
       obtain ⟨hl,_⟩ := Array.getElem?_eq_some_iff.1 e3
       exact hl
     rw [e1]
     intro he
     injection he with he
     omega
   · rcases List.mem_cons.1 hd with rfl | hd
     · refine ⟨w.heap.size,rfl,M.low,?_,fun b hb => ?_⟩
       · show w1.heap[w.heap.size]? = _
         rw [show w1.heap[w.heap.size]? = w0.heap[w.heap.size]? from alloc_old _ _ _ (by omega)]
         exact alloc_new _ _
       · have hlt := wr_lt hb
         simp only [List.length_append,List.length_cons,List.length_nil] at hlt
         by_cases hbn : b = H.length
         · subst hbn; rw [hφ1]; omega
         · rw [(hag b (by omega)).1]
           have := R.phys_lt (b := b) (by rw [← hb]; exact (wr_append_lt (by omega)).symm)
           omega
     · exact M'.each d hd
 have hsY : (a.toList ++ [Value.func (.yield H.length) #[] #[]] ++ cap.toList).all (sc (H ++ [AObj.loop .ready none t ps assign body]).length) = true := by
   have k1 := all_sc_of_scA (all_mono (fun v => scA_mono (Nat.le_succ H.length) (v := v)) a hsc.1)
   have k2 := all_sc_of_sc0 (all_mono (fun v => sc0_mono (Nat.le_succ H.length) (v := v)) cap hsc.2)
   have k3 : sc (H.length + 1) (.func (.yield H.length) #[] #[]) = true := by simp [sc,sc2,sc1]
   simp only [List.all_append,List.length_append,List.length_cons,List.length_nil,Nat.zero_add,List.all_cons,List.all_nil,Bool.and_true,Bool.and_eq_true]
   exact ⟨⟨k1,k3⟩,k2⟩
 have hcall := h ρ1 w1 R1 hsY
 refine ⟨w.heap.size + 1,[{ target := .collected w.heap.size,args := #[] }],w1,{ target := .fn (.func gf) (cap.map (ren0 ρ1)),args := a.map (renA ρ1) ++ #[.func (.yield (w.heap.size + 1)) #[] #[]] },w1,gf,
   a.map (renA ρ1) ++ #[.func (.yield (w.heap.size + 1)) #[] #[]] ++ cap.map (ren0 ρ1),w1,?_,?_,fun _ _ => trivial,?_,fun hd => (by cases hd),?_⟩
 · exact run_enterLoop_outer _ _ _ _ _
 · have e1 : (act ⟨ds, none⟩ ρ t).eval g = .func (.func gf) (a.map (renA ρ1)) (cap.map (ren0 ρ1)) := by
     rw [ge]
     show Value.func (.func gf) (a.map (renA ρ)) (cap.map (ren0 ρ)) = _
     rw [map_congr_all (fun v hv => renA_agree hag hv) a hsc.1,map_congr_all (fun v hv => ren0_agree hag hv) cap hsc.2]
   simp only [resolve,rangeCall,e1,Deferred.ofValue,Sem.run_pure]
   simp [Act.eval]
 · simp only [invoke]
   exact callFunc_ok hok _
 · have ea : ((a.toList ++ [Value.func (.yield H.length) #[] #[]] ++ cap.toList).map (ren ρ1)).toArray = a.map (renA ρ1) ++ #[.func (.yield (w.heap.size + 1)) #[] #[]] ++ cap.map (ren0 ρ1) := by
     have k1 := map_renA (ρ := ρ1) hsc.1
     have k2 := map_ren0 (ρ := ρ1) hsc.2
     apply Array.toList_inj.1
     simp only [List.map_append,← k1,← k2,List.map_cons,List.map_nil]
     simp [ren,ren2,ren1,hφ1,hw0]
   rw [ea] at hcall
   refine CallsIn.mono (callsIn_wide.2 hcall) ?_
   rintro e w3 ⟨ρ3,v,H3,rfl,⟨st,pend,t1,ps1,as1,bd1,hb3,hst,hq⟩,R3,X3,_⟩
   have hφ3 : ρ3.φ H.length = w.heap.size + 1 := by
     rw [(X3.agree H.length (.inl (by simp))).1,hφ1,hw0]
   obtain ⟨r,hr,r1,r2,_,_,_,_,R4,X4⟩ := setLoop_sound (st1 := .exhausted) (pend1 := pend) R3 hb3
   rw [hφ3] at hr R4 X4
   have hlen3 : H.length < H3.length := (List.getElem?_eq_some_iff.1 hb3).1
   let w4 := w3.putObj (w.heap.size + 1) (.loop { r with state := .exhausted,pending := pend })
   have hset : (H3.set H.length (.loop .exhausted pend t1 ps1 as1 bd1)).set H.length .gone = H3.set H.length .gone := by simp
   have R5 : Rel ρ3 (H3.set H.length .gone) w4 := by rw [← hset]; exact R4.forget H.length
   have X5 : Ext ρ H w ρ3 (H3.set H.length .gone) w4 := by rw [← hset]; exact ((X01.trans X3).trans X4).trans (Ext.forget ρ3 _ w4 H.length)
   have M5 : Marks base ρ3 (H3.set H.length .gone) w4 ({ target := .collected w.heap.size,args := #[] } :: ds) := by
     have M4 := (M1.ext X3).ext X4
     rw [← hset]
     exact ⟨M4.low,M4.apart,fun d hd => (M4.each d hd).forget _⟩
   have s5 : t.all (sc (H3.set H.length .gone).length) = true := by
     rw [List.length_set]
     exact all_mono (fun _ => sc_mono (by omega)) t hs
   have hact : ({ act ⟨ds,none⟩ ρ t with defers := [{ target := .collected w.heap.size,args := #[] }] ++ (act ⟨ds,none⟩ ρ t).defers } : Act) = act ⟨{ target := .collected w.heap.size,args := #[] } :: ds,none⟩ ρ3 t := by
     have : t.map (ren ρ) = t.map (ren ρ3) := (map_congr_all (fun v hv => ren_agree X5.agreeN hv) t hs).symm
     simp [act,this]
   refine ⟨pend,w4,?_,?_⟩
   · have := run_endLoop (P := P) hr (by rw [r1]; exact hst)
     rw [this,r2]
   · rw [hact]
     have done : ∀ x,Q x t (H3.set H.length .gone)→Post base none ρ H w Q x.to (act ⟨{ target := .collected w.heap.size,args := #[] } :: ds,none⟩ ρ3 t) w4 :=
       fun x hx => ⟨x,rfl,_,ρ3,t,_,rfl,hx,R5,X5,s5,M5⟩
     split at hq
     · exact done .normal hq
     · exact wpIn_exit (done (.exit _) hq)
     · exact wpIn_ret (done .ret hq)
     · exact hq.elim
theorem CW.rangeFuncIn {b0 : Nat} {g : Operand} {ps : Array Tmp} {assign body : Code} {t : Array Value} {Q : AExit→Array Value→Heap→Prop} {gf : FuncId} {a cap : Array Value} (hg : aeval t g = some (.func (.func gf) a cap)) (hok : fnOk P gf = true)
   (hb0 : ∃ st pend t0 ps0 as0 bd0,H[b0]? = some (.loop st pend t0 ps0 as0 bd0))
   (h : Pier.Call P gf (a.toList ++ [.func (.yield H.length) #[] #[]] ++ cap.toList) (H ++ [.loop .ready none t ps assign body]) fun _ H2 => rangeEnd H.length t Q H2) :
   CW (some b0) P (.rangeFunc g ps assign body) H t Q := by
 intro base ds ρ w R M hs _
 show (Code.rangeFunc g ps assign body).wpIn (Place.F ⟨ds,some (ρ.φ b0)⟩) 0 P (Post base (some (ρ.φ b0)) ρ H w Q) (act ⟨ds,some (ρ.φ b0)⟩ ρ t) w
 obtain ⟨r0,hr0⟩ : ∃ r0,w.heap[ρ.φ b0]? = some (.loop r0) := by
   obtain ⟨_,_,_,_,_,_,hb0⟩ := hb0
   obtain ⟨_,_,_,h0,_⟩ := R.obj b0 _ hb0
   exact ⟨_,h0⟩
 generalize ρ.φ b0 = l0 at *
 refine wpIn_rangeFunc fun fn _ => ?_
 obtain ⟨gs,ge⟩ := aeval_ok (D := ⟨ds,some l0⟩) (ρ := ρ) hs _ _ hg
 have hsc : a.all (scA H.length) = true∧cap.all (sc0 H.length) = true := by
   have : (a.all (scA H.length) && cap.all (sc0 H.length)) = true := gs
   simpa only [Bool.and_eq_true] using this
 let w0 := w
 have hw0 : w0.heap.size = w.heap.size := rfl
 let L : Obj := .loop { state := .ready,pending := none,fn := fn,tmps := (act ⟨ds,some l0⟩ ρ t).tmps,params := ps,assign := assign,body := body,defers := r0.defers }
 let w1 := w0.alloc L
 let ρ1 := ρ.ext H.length w0.heap.size 0
 have hag : Agree H.length ρ ρ1 := Ren.ext_agree ρ H.length w0.heap.size 0
 have hφ1 : ρ1.φ H.length = w0.heap.size := by simp [ρ1,Ren.ext]
 obtain ⟨R1,X1⟩ := R.push (w' := w1) (.loop .ready none t ps assign body) 0 rfl (all_mono (fun _ => sc_mono (Nat.le_succ _)) t hs) (alloc_size _ _) (fun i hi => alloc_old _ _ _ hi)
   ⟨fn,r0.defers,t.map (ren ρ),by
     rw [show (ρ.ext H.length w0.heap.size 0).φ H.length = w0.heap.size from hφ1]
     rw [alloc_new]
     rfl,by
     rw [← map_congr_all (fun v hv => ren_agree hag hv) t hs]
     exact TmOk.map _ _⟩ rfl rfl rfl
 have X01 := X1
 have M1 := M.ext X01
 have hsY : (a.toList ++ [Value.func (.yield H.length) #[] #[]] ++ cap.toList).all (sc (H ++ [AObj.loop .ready none t ps assign body]).length) = true := by
   have k1 := all_sc_of_scA (all_mono (fun v => scA_mono (Nat.le_succ H.length) (v := v)) a hsc.1)
   have k2 := all_sc_of_sc0 (all_mono (fun v => sc0_mono (Nat.le_succ H.length) (v := v)) cap hsc.2)
   have k3 : sc (H.length + 1) (.func (.yield H.length) #[] #[]) = true := by simp [sc,sc2,sc1]
   simp only [List.all_append,List.length_append,List.length_cons,List.length_nil,Nat.zero_add,List.all_cons,List.all_nil,Bool.and_true,Bool.and_eq_true]
   exact ⟨⟨k1,k3⟩,k2⟩
 have hcall := h ρ1 w1 R1 hsY
 refine ⟨w.heap.size,[],w1,{ target := .fn (.func gf) (cap.map (ren0 ρ1)),args := a.map (renA ρ1) ++ #[.func (.yield w.heap.size) #[] #[]] },w1,gf,
   a.map (renA ρ1) ++ #[.func (.yield w.heap.size) #[] #[]] ++ cap.map (ren0 ρ1),w1,?_,?_,fun _ _ => trivial,?_,fun hd => (by cases hd),?_⟩
 · exact run_enterLoop_inner hr0 _ _ _ _ _
 · have e1 : (act ⟨ds, some l0⟩ ρ t).eval g = .func (.func gf) (a.map (renA ρ1)) (cap.map (ren0 ρ1)) := by
     rw [ge]
     show Value.func (.func gf) (a.map (renA ρ)) (cap.map (ren0 ρ)) = _
     rw [map_congr_all (fun v hv => renA_agree hag hv) a hsc.1,map_congr_all (fun v hv => ren0_agree hag hv) cap hsc.2]
   simp only [resolve,rangeCall,e1,Deferred.ofValue,Sem.run_pure]
   simp [Act.eval]
 · simp only [invoke]
   exact callFunc_ok hok _
 · have ea : ((a.toList ++ [Value.func (.yield H.length) #[] #[]] ++ cap.toList).map (ren ρ1)).toArray = a.map (renA ρ1) ++ #[.func (.yield w.heap.size) #[] #[]] ++ cap.map (ren0 ρ1) := by
     have k1 := map_renA (ρ := ρ1) hsc.1
     have k2 := map_ren0 (ρ := ρ1) hsc.2
     apply Array.toList_inj.1
     simp only [List.map_append,← k1,← k2,List.map_cons,List.map_nil]
     simp [ren,ren2,ren1,hφ1,hw0]
   rw [ea] at hcall
   refine CallsIn.mono (callsIn_wide.2 hcall) ?_
   rintro e w3 ⟨ρ3,v,H3,rfl,⟨st,pend,t1,ps1,as1,bd1,hb3,hst,hq⟩,R3,X3,_⟩
   have hφ3 : ρ3.φ H.length = w.heap.size := by
     rw [(X3.agree H.length (.inl (by simp))).1,hφ1]
   obtain ⟨r,hr,r1,r2,_,_,_,_,R4,X4⟩ := setLoop_sound (st1 := .exhausted) (pend1 := pend) R3 hb3
   rw [hφ3] at hr R4 X4
   have hlen3 : H.length < H3.length := (List.getElem?_eq_some_iff.1 hb3).1
   let w4 := w3.putObj w.heap.size (.loop { r with state := .exhausted,pending := pend })
   have hset : (H3.set H.length (.loop .exhausted pend t1 ps1 as1 bd1)).set H.length .gone = H3.set H.length .gone := by simp
   have R5 : Rel ρ3 (H3.set H.length .gone) w4 := by rw [← hset]; exact R4.forget H.length
   have X5 : Ext ρ H w ρ3 (H3.set H.length .gone) w4 := by rw [← hset]; exact ((X01.trans X3).trans X4).trans (Ext.forget ρ3 _ w4 H.length)
   have M5 : Marks base ρ3 (H3.set H.length .gone) w4 ds := by
     have M4 := (M1.ext X3).ext X4
     rw [← hset]
     exact ⟨M4.low,M4.apart,fun d hd => (M4.each d hd).forget _⟩
   have s5 : t.all (sc (H3.set H.length .gone).length) = true := by
     rw [List.length_set]
     exact all_mono (fun _ => sc_mono (by omega)) t hs
   have hact : ({ act ⟨ds,some l0⟩ ρ t with defers := [] ++ (act ⟨ds,some l0⟩ ρ t).defers } : Act) = act ⟨ds,some l0⟩ ρ3 t := by
     have : t.map (ren ρ) = t.map (ren ρ3) := (map_congr_all (fun v hv => ren_agree X5.agreeN hv) t hs).symm
     simp [act,this]
   refine ⟨pend,w4,?_,?_⟩
   · have := run_endLoop (P := P) hr (by rw [r1]; exact hst)
     rw [this,r2]
   · rw [hact]
     have done : ∀ x,Q x t (H3.set H.length .gone)→Post base (some l0) ρ H w Q x.to (act ⟨ds,some l0⟩ ρ3 t) w4 :=
       fun x hx => ⟨x,rfl,_,ρ3,t,_,rfl,hx,R5,X5,s5,M5⟩
     split at hq
     · exact done .normal hq
     · exact wpIn_exit (done (.exit _) hq)
     · exact wpIn_ret (done .ret hq)
     · exact hq.elim
end Go.Pier
