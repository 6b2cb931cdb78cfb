import Derived.Test.YtbehncpoppoglaaPierG
set_option linter.unusedSimpArgs false
set_option linter.unusedVariables false
namespace Go.Pier
open Go
variable {P : Program} {ρ : Ren} {H H' : Heap} {w : World} {env : Operand→Option Value} {ρC : Operand→Value}
def aCopy (P : Program) (H : Heap) (tys : Array TypeId) (dst src : Value) : Option (Value × Heap) :=
 match tys[0]?,dst,src with
 | some t0,.slice bs dLen dc,.slice _ m _ => match P.underlying t0 with
   | some (.slice elem) => (sizeT P elem).bind fun s => (aFirst H s (Nat.min m dLen) src).bind fun cells => match bs with
     | none => some (goInt (Nat.min m dLen),H)
     | some a => if std a dc = true then (astore H (base a) cells).map fun H' => (goInt (Nat.min m dLen),H') else none
   | _ => none
 | _,_,_ => none
theorem copy_sound (R : Rel ρ H w) {tys : Array TypeId} {dst src v : Value} (ty : TypeId) (h : aCopy P H tys dst src = some (v,H')) :
   ∃ w',(Builtin.copy_ tys ty #[ren ρ dst,ren ρ src]).run P w = .ok (ren ρ v) w'∧Rel ρ H' w'∧Ext ρ H w ρ H' w'∧sc H'.length v = true := by
 unfold aCopy at h
 split at h <;> try (cases h; done)
 rename_i t0 bs dLen dc xb m xc h0
 split at h <;> try (cases h; done)
 rename_i elem hu
 simp only [Option.bind_eq_some_iff] at h
 obtain ⟨s,hs,cells,hc,h⟩ := h
 obtain ⟨c1,c2⟩ := aFirst_sound (P := P) R hc
 obtain ⟨xb',xc',hx⟩ : ∃ xb' xc',ren ρ (.slice xb m xc) = .slice xb' m xc' := by
   cases xb with
   | none => exact ⟨none,xc,rfl⟩
   | some a => exact ⟨_,_,rfl⟩
 rw [hx] at c1
 cases bs with
 | none =>
   cases h
   refine ⟨w,?_,R,Ext.refl _ _ _,rfl⟩
   rw [hx]
   simp only [Builtin.copy_,h0,List.getElem?_toArray,List.getElem?_cons_zero,List.getElem?_cons_succ,Sem.run_bind,run_underlying hu,Result.andThen_ok,run_sizeOf hs,ren,ren2,ren1,ren0,Builtin.lenOf,Sem.run_pure,c1]
   rfl
 | some a =>
   simp only at h
   split at h <;> try (cases h; done)
   rename_i hstd
   simp only [Option.map_eq_some_iff] at h
   obtain ⟨H1,hst,he⟩ := h
   cases he
   obtain ⟨w',s1,s2,s3⟩ := astore_sound (P := P) R hst
   refine ⟨w',?_,s2,s3,rfl⟩
   rw [hx]
   rw [addr_base,← adr_std hstd] at s1
   simp only [Builtin.copy_,h0,List.getElem?_toArray,List.getElem?_cons_zero,List.getElem?_cons_succ,Sem.run_bind,run_underlying hu,Result.andThen_ok,run_sizeOf hs,ren,ren2,ren1,ren0,Builtin.lenOf,Sem.run_pure,c1,s1]
   rfl
def aClear (P : Program) (H : Heap) (tys : Array TypeId) (x : Value) : Option Heap :=
 match tys[0]? with
 | none => none
 | some t => match P.underlying t,x with
   | some _,.slice none _ _ => some H
   | some (.slice elem),.slice (some a) n c => (zeroT P elem).bind fun z => if n = 0 then some H else if std a c = false then none else astore H (base a) (Builtin.zeroCells z.cells n).toList
   | some (.map _ _),.map (some r) => match H[r]? with
     | some (.map _ clock) => some (H.set r (.map [] clock))
     | _ => none
   | _,_ => none
theorem setMap_sound (R : Rel ρ H w) {r : Nat} {es es1 : List MapEntry} {c c1 : Nat} (hb : H[r]? = some (.map es c)) (hs : (AObj.map es1 c1).sc H.length = true) :
   ∃ w',(setObj (ρ.φ r) (.map (es1.map (renE ρ)).toArray c1)).run P w = .ok () w'∧Rel ρ (H.set r (.map es1 c1)) w'∧Ext ρ H w ρ (H.set r (.map es1 c1)) w' := by
 have hm : w.heap[ρ.φ r]? = some (.map (es.map (renE ρ)).toArray c) := R.obj _ _ hb
 have hlt := (Array.getElem?_eq_some_iff.1 hm).1
 have hwr : wr H r = true := by rw [wr_of_get hb]; rfl
 refine ⟨{ w with heap := w.heap.setIfInBounds (ρ.φ r) (.map (es1.map (renE ρ)).toArray c1) },by simp [setObj,Sem.run,hm],?_⟩
 refine R.upd hwr (.map es1 c1) rfl hs (by simp) (fun i hi => ?_) ?_ rfl rfl rfl
 · exact Array.getElem?_setIfInBounds_ne (Ne.symm hi)
 · show (w.heap.setIfInBounds (ρ.φ r) _)[ρ.φ r]? = _
   rw [Array.getElem?_setIfInBounds_self_of_lt hlt]
theorem run_getMap (R : Rel ρ H w) {r : Nat} {es : List MapEntry} {c : Nat} (hb : H[r]? = some (.map es c)) : (getObj (ρ.φ r)).run P w = .ok (.map (es.map (renE ρ)).toArray c) w := by
 have hm : w.heap[ρ.φ r]? = some (.map (es.map (renE ρ)).toArray c) := R.obj _ _ hb
 simp [getObj,Sem.run,hm]
theorem zeroCells_closed {z : Array Value} (h : z.all (sc1 0) = true) (n : Nat) : (Builtin.zeroCells z n).all (sc1 0) = true := zeroRow_closed h (n * z.size)
theorem clear_sound (R : Rel ρ H w) {tys : Array TypeId} {x : Value} (ty : TypeId) (h : aClear P H tys x = some H') :
   ∃ w',(Builtin.clear_ tys ty #[ren ρ x]).run P w = .ok (.tuple #[]) w'∧Rel ρ H' w'∧Ext ρ H w ρ H' w' := by
 unfold aClear at h
 split at h <;> try (cases h; done)
 rename_i t h0
 split at h <;> try (cases h; done)
 · rename_i d l c hu
   cases h
   refine ⟨w,?_,R,Ext.refl _ _ _⟩
   simp only [Builtin.clear_,h0,List.getElem?_toArray,List.getElem?_cons_zero,Sem.run_bind,run_underlying hu,Result.andThen_ok,ren,ren2,ren1,ren0]
   rfl
 · rename_i elem a n c hu
   simp only [Option.bind_eq_some_iff] at h
   obtain ⟨z,hz,h⟩ := h
   obtain ⟨z1,z2⟩ := run_zero (w := w) hz
   cases n with
   | zero =>
     cases h
     refine ⟨w,?_,R,Ext.refl _ _ _⟩
     simp only [Builtin.clear_,h0,List.getElem?_toArray,List.getElem?_cons_zero,Sem.run_bind,run_underlying hu,Result.andThen_ok,ren,ren2,ren1,ren0]
     rfl
   | succ n =>
     simp only [Nat.add_eq_zero_iff,Nat.one_ne_zero,and_false,↓reduceIte] at h
     split at h <;> try (cases h; done)
     rename_i hstd
     have hstd : std a c = true := by simpa using hstd
     obtain ⟨w',s1,s2,s3⟩ := astore_sound (P := P) R h
     have hcl := zeroCells_closed (cells_sc1 z2) (n + 1)
     have e : (Builtin.zeroCells z.cells (n + 1)).toList.map (ren1 ρ) = (Builtin.zeroCells z.cells (n + 1)).toList := by
       have := congrArg Array.toList (map_id_all (f := ren1 ρ) (fun _ => ren1_closed) _ hcl)
       simpa using this
     rw [e,addr_base,← adr_std hstd] at s1
     refine ⟨w',?_,s2,s3⟩
     simp only [Builtin.clear_,h0,List.getElem?_toArray,List.getElem?_cons_zero,Sem.run_bind,run_underlying hu,Result.andThen_ok,ren,ren2,ren1,ren0,z1,s1]
     rfl
 · rename_i k e r hu
   split at h <;> try (cases h; done)
   rename_i es clock hb
   cases h
   obtain ⟨w',s1,s2,s3⟩ := setMap_sound (P := P) R hb (es1 := []) (c1 := clock) rfl
   refine ⟨w',?_,s2,s3⟩
   simp only [Builtin.clear_,h0,List.getElem?_toArray,List.getElem?_cons_zero,Sem.run_bind,run_underlying hu,Result.andThen_ok,ren,ren2,ren1,ren0,run_getMap R hb]
   simp only [List.map_nil] at s1
   simp only [s1,Result.andThen_ok]
   rfl
def aLen (P : Program) (H : Heap) (tys : Array TypeId) (x : Value) : Option Value :=
 match tys[0]? with
 | none => none
 | some t => match P.underlying t,x with
   | some (.array n _),_ => some (goInt n)
   | some .string,.string s => some (goInt s.size)
   | some (.slice _),.slice _ n _ => some (goInt n)
   | some (.map _ _),.map none => some (goInt 0)
   | some (.map _ _),.map (some r) => match H[r]? with
     | some (.map es _) => some (goInt es.length)
     | _ => none
   | _,_ => none
theorem len_sound (R : Rel ρ H w) {tys : Array TypeId} {x v : Value} (ty : TypeId) (h : aLen P H tys x = some v) :
   (Builtin.len_ tys ty #[ren ρ x]).run P w = .ok (ren ρ v) w∧∀ n,sc n v = true := by
 unfold aLen at h
 split at h <;> try (cases h; done)
 rename_i t h0
 split at h <;> try (cases h; done)
 · rename_i n e hu
   cases h
   refine ⟨?_,fun _ => rfl⟩
   simp only [Builtin.len_,h0,List.getElem?_toArray,List.getElem?_cons_zero,Sem.run_bind,run_underlying hu,Result.andThen_ok]
   rfl
 · rename_i s hu
   cases h
   refine ⟨?_,fun _ => rfl⟩
   simp only [Builtin.len_,h0,List.getElem?_toArray,List.getElem?_cons_zero,Sem.run_bind,run_underlying hu,Result.andThen_ok,ren,ren2,ren1,ren0]
   rfl
 · rename_i e a n c hu
   cases h
   refine ⟨?_,fun _ => rfl⟩
   cases a <;>
   · simp only [Builtin.len_,h0,List.getElem?_toArray,List.getElem?_cons_zero,Sem.run_bind,run_underlying hu,Result.andThen_ok,ren,ren2,ren1,ren0]
     rfl
 · rename_i k e hu
   cases h
   refine ⟨?_,fun _ => rfl⟩
   simp only [Builtin.len_,h0,List.getElem?_toArray,List.getElem?_cons_zero,Sem.run_bind,run_underlying hu,Result.andThen_ok,ren,ren2,ren1,ren0]
   rfl
 · rename_i k e r hu
   split at h <;> try (cases h; done)
   rename_i es clock hb
   cases h
   refine ⟨?_,fun _ => rfl⟩
   simp only [Builtin.len_,h0,List.getElem?_toArray,List.getElem?_cons_zero,Sem.run_bind,run_underlying hu,Result.andThen_ok,ren,ren2,ren1,ren0,run_getMap R hb]
   simp [goInt]
theorem makeMap_sound (R : Rel ρ H w) (t : TypeId) :
   ∃ ρ' w',(Instr.makeMap t none).run P w = .ok (ren ρ' (.map (some H.length))) w'∧Rel ρ' (H ++ [.map [] 0]) w'∧Ext ρ H w ρ' (H ++ [.map [] 0]) w' := by
 refine ⟨ρ.ext H.length w.heap.size 0,w.alloc (.map #[] 0),?_,?_⟩
 · simp [Instr.makeMap,ren,ren2,ren1,ren0,Ren.ext]
 · have e1 : (ρ.ext H.length w.heap.size 0).φ H.length = w.heap.size := by simp [Ren.ext]
   refine R.push (.map [] 0) 0 rfl rfl (by simp) (fun i hi => by rw [alloc_old _ _ _ hi]) ?_ rfl rfl rfl
   show (w.alloc (.map #[] 0)).heap[_]? = _
   rw [e1]; exact alloc_new _ _
theorem findNow_ren (d : TypeDesc) (k : Value) : ∀ (es : List MapEntry) (i : Nat),
   Instr.findNow d k (es.map (renE ρ)) i = (Instr.findNow d k es i).map (·.map fun p => (p.1,ren2 ρ p.2))
 | [],_ => rfl
 | e :: es,i => by
   simp only [List.map_cons,Instr.findNow,renE]
   split
   · rfl
   · exact findNow_ren d k es (i + 1)
   · rfl
def aAsk (P : Program) (kt : TypeId) (k : Value) : List MapEntry→Nat→Option (Option (Nat × Value))
 | [],_ => some none
 | e :: es,i => (pureRun P (Op.equal kt k e.key)).bind fun b => if b = true then some (some (i,e.val)) else aAsk P kt k es (i + 1)
theorem aAsk_sound {kt : TypeId} {k : Value} : ∀ (es : List MapEntry) (i : Nat) (r : Option (Nat × Value)),aAsk P kt k es i = some r →
   (Instr.findAsking kt k (es.map (renE ρ)) i).run P w = .ok (r.map fun p => (p.1,ren2 ρ p.2)) w
 | [],_,r,h => by cases h; rfl
 | e :: es,i,r,h => by
   simp only [aAsk,Option.bind_eq_some_iff] at h
   obtain ⟨b,h1,h2⟩ := h
   have h3 := pureRun_sound w _ h1
   simp only [List.map_cons,Instr.findAsking,Sem.run_bind,renE,h3,Result.andThen_ok]
   split at h2
   · rename_i hb
     cases h2
     rw [if_pos hb]; rfl
   · rename_i hb
     rw [if_neg hb]
     exact aAsk_sound es (i + 1) r h2
def aFindKey (P : Program) (kt : TypeId) (k : Value) (es : List MapEntry) : Option (Option (Nat × Value)) :=
 (P.underlying kt).bind fun d => match Instr.findNow d k es 0 with
   | some r => some r
   | none => aAsk P kt k es 0
theorem aFindKey_sound {kt : TypeId} {k : Value} {es : List MapEntry} {r : Option (Nat × Value)} (h : aFindKey P kt k es = some r) :
   (Instr.findKey kt k (es.map (renE ρ))).run P w = .ok (r.map fun p => (p.1,ren2 ρ p.2)) w := by
 simp only [aFindKey,Option.bind_eq_some_iff] at h
 obtain ⟨d,hd,h⟩ := h
 simp only [Instr.findKey,Sem.run_bind,run_underlying hd,Result.andThen_ok,findNow_ren]
 split at h
 · rename_i r' hr
   cases h
   simp [hr]
 · rename_i hr
   simp only [hr,Option.map_none]
   exact aAsk_sound es 0 r h
theorem findKey_mem {kt : TypeId} {k : Value} {es : List MapEntry} {i : Nat} {v : Value} (h : aFindKey P kt k es = some (some (i,v))) : ∃ e,es[i]? = some e∧e.val = v := by
 have key : ∀ (l : List MapEntry) (j : Nat),(∀ d,Instr.findNow d k l j = some (some (i,v))→∃ e,l[i - j]? = some e∧e.val = v∧j≤i)∧(aAsk P kt k l j = some (some (i,v))→∃ e,l[i - j]? = some e∧e.val = v∧j≤i) := by
   intro l
   induction l with
   | nil => intro j; exact ⟨fun d h => by simp [Instr.findNow] at h,fun h => by simp [aAsk] at h⟩
   | cons e l ih =>
     intro j
     constructor
     · intro d h
       simp only [Instr.findNow] at h
       split at h
       · simp only [Option.some.injEq,Prod.mk.injEq] at h
         obtain ⟨rfl,rfl⟩ := h
         exact ⟨e,by simp,rfl,Nat.le_refl _⟩
       · obtain ⟨e',h1,h2,h3⟩ := (ih (j + 1)).1 d h
         refine ⟨e',?_,h2,by omega⟩
         rw [show i - j = (i - (j + 1)) + 1 from by omega]
         simpa using h1
       · cases h
     · intro h
       simp only [aAsk,Option.bind_eq_some_iff] at h
       obtain ⟨b,_,h⟩ := h
       split at h
       · simp only [Option.some.injEq,Prod.mk.injEq] at h
         obtain ⟨rfl,rfl⟩ := h
         exact ⟨e,by simp,rfl,Nat.le_refl _⟩
       · obtain ⟨e',h1,h2,h3⟩ := (ih (j + 1)).2 h
         refine ⟨e',?_,h2,by omega⟩
         rw [show i - j = (i - (j + 1)) + 1 from by omega]
         simpa using h1
 simp only [aFindKey,Option.bind_eq_some_iff] at h
 obtain ⟨d,hd,h⟩ := h
 split at h
 · rename_i r' hr
   cases h
   obtain ⟨e,h1,h2,_⟩ := (key es 0).1 d hr
   exact ⟨e,by simpa using h1,h2⟩
 · obtain ⟨e,h1,h2,_⟩ := (key es 0).2 h
   exact ⟨e,by simpa using h1,h2⟩
def aEntries (H : Heap) (x : Value) : Option (List MapEntry) :=
 match x with
 | .map none => some []
 | .map (some r) => match H[r]? with | some (.map es _) => some es | _ => none
 | _ => none
def aLookup (P : Program) (H : Heap) (t : TypeId) (x k : Value) (ok : Bool) : Option Value :=
 match P.underlying t with
 | some (.map kt et) => (aEntries H x).bind fun es => if sc 0 k = true then
     (pureRun P (Instr.checkKey es.isEmpty 10000 kt k)).bind fun _ => (aFindKey P kt k es).bind fun r =>
       (match r with | some (_,v) => some (v,true) | none => (zeroT P et).map (·,false)).map fun (p : Value × Bool) => if ok then .tuple #[p.1,.bool p.2] else p.1
   else none
 | _ => none
theorem aLookup_sound (R : Rel ρ H w) {t : TypeId} {x k v : Value} {ok : Bool} (h : aLookup P H t x k ok = some v) :
   (Instr.lookup t (ren ρ x) (ren ρ k) ok).run P w = .ok (ren ρ v) w∧sc H.length v = true := by
 unfold aLookup at h
 split at h <;> try (cases h; done)
 rename_i kt et hu
 simp only [Option.bind_eq_some_iff] at h
 obtain ⟨es,hes,h⟩ := h
 split at h <;> try (cases h; done)
 rename_i hk
 simp only [Option.bind_eq_some_iff,Option.map_eq_some_iff] at h
 obtain ⟨u,hck,r,hr,p,hp,rfl⟩ := h
 have hck' := pureRun_sound w _ hck
 have hfind := aFindKey_sound (ρ := ρ) (w := w) hr
 have hp' : sc2 H.length p.1 = true∧((match (r.map fun (q : Nat × Value) => (q.1,ren2 ρ q.2)) with | some (_,v) => (pure (v,true) : Sem (Value × Bool)) | none => do pure (← zeroValue et,false)).run P w = .ok (ren2 ρ p.1,p.2) w) := by
   cases r with
   | none =>
     simp only [Option.map_eq_some_iff] at hp
     obtain ⟨z,hz,rfl⟩ := hp
     obtain ⟨z1,z2⟩ := run_zero (w := w) hz
     exact ⟨sc2_mono (Nat.zero_le _) z2,by simp [z1,ren2_closed z2]⟩
   | some q =>
     cases hp
     obtain ⟨e,h1,h2⟩ := findKey_mem hr
     refine ⟨?_,by simp⟩
     unfold aEntries at hes
     split at hes <;> try (cases hes; done)
     · cases hes; simp at h1
     · split at hes <;> try (cases hes; done)
       rename_i rr es' cc hb
       cases hes
       have := List.all_eq_true.1 (R.scp _ _ hb) e (List.mem_of_getElem? h1)
       simp only [Bool.and_eq_true] at this
       rw [h2] at this; exact this.2
 have hfin : ((if ok then (Value.tuple #[ren2 ρ p.1,.bool p.2]) else ren2 ρ p.1)) = ren ρ (if ok then .tuple #[p.1,.bool p.2] else p.1) := by
   cases ok
   · simp [ren_of_sc2 hp'.1]
   · simp [ren,ren2,ren1,ren0]
 refine ⟨?_,?_⟩
 · rw [ren_closed hk]
   have main : ∀ (es' : Array MapEntry), es' = (es.map (renE ρ)).toArray →
       ((do Instr.checkKey es'.isEmpty 10000 kt k
            let (v,okk) ← match ← Instr.findKey kt k es'.toList with
              | some (_,v) => pure (v,true)
              | none => pure (← zeroValue et,false)
            pure (if ok then .tuple #[v,.bool okk] else v)) : Sem Value).run P w = .ok (ren ρ (if ok then .tuple #[p.1,.bool p.2] else p.1)) w := by
     intro es' he
     subst he
     have e1 : (es.map (renE ρ)).toArray.isEmpty = es.isEmpty := by cases es <;> rfl
     rw [e1]
     simp only [Sem.run_bind,hck',Result.andThen_ok,hfind]
     rw [← hfin]
     have := hp'.2
     cases r with
     | none =>
       simp only [Option.map_none,Sem.run_bind] at this ⊢
       generalize (zeroValue et).run P w = z at *
       cases z <;> simp_all
     | some q => simp only [Option.map_some] at this ⊢; simp_all
   unfold aEntries at hes
   split at hes <;> try (cases hes; done)
   · cases hes
     simp only [Instr.lookup,Sem.run_bind,run_underlying hu,Result.andThen_ok,ren,ren2,ren1,ren0,Sem.run_pure]
     have := main #[] rfl
     simp only [Sem.run_bind] at this
     exact this
   · split at hes <;> try (cases hes; done)
     rename_i rr es' cc hb
     cases hes
     simp only [Instr.lookup,Sem.run_bind,run_underlying hu,Result.andThen_ok,ren,ren2,ren1,ren0,Sem.run_pure,run_getMap R hb]
     have := main _ rfl
     simp only [Sem.run_bind] at this
     exact this
 · cases ok
   · exact sc_of_sc2 hp'.1
   · show (#[p.1,Value.bool p.2]).all (sc2 H.length) = true
     have hb : sc2 H.length (.bool p.2) = true := rfl
     simp [hp'.1,hb]
def aMapUpdate (P : Program) (H : Heap) (t : TypeId) (x k v : Value) : Option Heap :=
 match P.underlying t,x with
 | some (.map kt _),.map (some r) => match H[r]? with
   | some (.map es clock) => if sc2 0 k = true ∧ sc2 H.length v = true then
       (pureRun P (Instr.checkKey false 10000 kt k)).bind fun _ => (aFindKey P kt k es).bind fun q => match q with
         | some (i,_) => match es[i]? with
           | some e => if Instr.sameBits 10000 e.key k = true then some (H.set r (.map (es.modify i fun e => { e with key := k,val := v }) clock)) else none
           | none => none
         | none => some (H.set r (.map (es ++ [{ key := k,val := v,born := clock }]) (clock + 1)))
     else none
   | _ => none
 | _,_ => none
theorem modify_all {p : MapEntry→Bool} {f : MapEntry→MapEntry} (hf : ∀ e,p e = true→p (f e) = true) : ∀ (l : List MapEntry) (i : Nat),l.all p = true→(l.modify i f).all p = true
 | [],i,_ => by cases i <;> rfl
 | e :: l,0,h => by
   simp only [List.all_cons,Bool.and_eq_true] at h
   simp only [List.modify_zero_cons,List.all_cons,hf e h.1,h.2,Bool.and_self]
 | e :: l,i + 1,h => by
   simp only [List.all_cons,Bool.and_eq_true] at h
   have := modify_all hf l i h.2
   simp only [List.modify_succ_cons,List.all_cons,Bool.and_eq_true]
   exact ⟨h.1,this⟩
theorem modify_map {f g h : MapEntry→MapEntry} (hh : ∀ e,f (g e) = h (f e)) : ∀ (l : List MapEntry) (i : Nat),(l.modify i g).map f = (l.map f).modify i h
 | [],i => by cases i <;> rfl
 | e :: l,0 => by simp [hh]
 | e :: l,i + 1 => by simp [modify_map hh l i]
theorem mapUpdate_sound (R : Rel ρ H w) {t : TypeId} {x k v : Value} (h : aMapUpdate P H t x k v = some H') :
   ∃ w',(Instr.mapUpdate t (ren ρ x) (ren ρ k) (ren ρ v)).run P w = .ok () w'∧Rel ρ H' w'∧Ext ρ H w ρ H' w' := by
 unfold aMapUpdate at h
 split at h <;> try (cases h; done)
 rename_i kt et r hu
 split at h <;> try (cases h; done)
 rename_i es clock hb
 split at h <;> try (cases h; done)
 rename_i hc
 simp only [Option.bind_eq_some_iff] at h
 obtain ⟨u,hck,q,hq,h⟩ := h
 have hck' := pureRun_sound w _ hck
 have hfind := aFindKey_sound (ρ := ρ) (w := w) hq
 have hes := R.scp _ _ hb
 have hk0 : ren ρ k = k := ren_closed (sc_of_sc2 hc.1)
 have hv2 : ren ρ v = ren2 ρ v := ren_of_sc2 hc.2
 cases q with
 | none =>
   cases h
   obtain ⟨w',s1,s2,s3⟩ := setMap_sound (P := P) R hb (es1 := es ++ [{ key := k,val := v,born := clock }]) (c1 := clock + 1)
     (by simp only [AObj.sc,List.all_append,Bool.and_eq_true]; exact ⟨hes,by simp [hc.1,hc.2]⟩)
   refine ⟨w',?_,s2,s3⟩
   rw [hk0,hv2,show ren ρ (.map (some r)) = .map (some (ρ.φ r)) from rfl]
   simp only [Instr.mapUpdate,Sem.run_bind,run_underlying hu,Result.andThen_ok,run_getMap R hb,hck',hfind,Option.map_none]
   rw [← s1]
   simp [renE]
 | some p =>
   obtain ⟨i,old⟩ := p
   simp only at h
   split at h <;> try (cases h; done)
   rename_i e he
   split at h <;> try (cases h; done)
   rename_i hsame
   cases h
   obtain ⟨w',s1,s2,s3⟩ := setMap_sound (P := P) R hb (es1 := es.modify i fun e => { e with key := k,val := v }) (c1 := clock)
     (modify_all (fun e _ => by simp [hc.1,hc.2]) es i hes)
   refine ⟨w',?_,s2,s3⟩
   rw [hk0,hv2,show ren ρ (.map (some r)) = .map (some (ρ.φ r)) from rfl]
   have hkey : (((es.map (renE ρ)).toArray[i]?).map (·.key)).getD k = e.key := by simp [he,renE]
   simp only [Instr.mapUpdate,Sem.run_bind,run_underlying hu,Result.andThen_ok,run_getMap R hb,hck',hfind,Option.map_some,hkey,Instr.keyThatStays,if_pos hsame,Sem.run_pure]
   rw [← s1]
   rw [modify_map (f := renE ρ) (g := fun e => { e with key := k,val := v }) (h := fun e => { e with key := k,val := ren2 ρ v }) (fun e => rfl)]
   simp
def aDelete (P : Program) (H : Heap) (tys : Array TypeId) (x k : Value) : Option Heap :=
 match tys[0]? with
 | none => none
 | some t => match P.underlying t,x with
   | some (.map kt _),.map (some r) => match H[r]? with
     | some (.map es clock) => if sc 0 k = true then
         (pureRun P (Instr.checkKey es.isEmpty 10000 kt k)).bind fun _ => (aFindKey P kt k es).map fun q => match q with
           | some (i,_) => H.set r (.map (es.eraseIdx i) clock)
           | none => H.set r (.map es clock)
       else none
     | _ => none
   | _,_ => none
theorem erase_map (f : MapEntry→MapEntry) : ∀ (l : List MapEntry) (i : Nat),(l.map f).eraseIdx i = (l.eraseIdx i).map f
 | [],_ => rfl
 | _ :: _,0 => rfl
 | e :: l,i + 1 => by simp [erase_map f l i]
theorem delete_sound (R : Rel ρ H w) {tys : Array TypeId} {x k : Value} (ty : TypeId) (h : aDelete P H tys x k = some H') :
   ∃ w',(Builtin.delete_ tys ty #[ren ρ x,ren ρ k]).run P w = .ok (.tuple #[]) w'∧Rel ρ H' w'∧Ext ρ H w ρ H' w' := by
 unfold aDelete at h
 split at h <;> try (cases h; done)
 rename_i t h0
 split at h <;> try (cases h; done)
 rename_i kt et r hu
 split at h <;> try (cases h; done)
 rename_i es clock hb
 split at h <;> try (cases h; done)
 rename_i hk
 simp only [Option.bind_eq_some_iff,Option.map_eq_some_iff] at h
 obtain ⟨u,hck,q,hq,h⟩ := h
 have hck' := pureRun_sound w _ hck
 have hfind := aFindKey_sound (ρ := ρ) (w := w) hq
 have hes := R.scp _ _ hb
 have e1 : (es.map (renE ρ)).toArray.isEmpty = es.isEmpty := by cases es <;> rfl
 cases q with
 | none =>
   subst h
   obtain ⟨w',s1,s2,s3⟩ := setMap_sound (P := P) R hb (es1 := es) (c1 := clock) hes
   refine ⟨w',?_,s2,s3⟩
   rw [ren_closed hk]
   simp only [Builtin.delete_,h0,List.getElem?_toArray,List.getElem?_cons_zero,List.getElem?_cons_succ,Sem.run_bind,run_underlying hu,Result.andThen_ok,ren,ren2,ren1,ren0,run_getMap R hb,e1,hck',hfind,Option.map_none,s1]
   rfl
 | some p =>
   obtain ⟨i,old⟩ := p
   subst h
   obtain ⟨w',s1,s2,s3⟩ := setMap_sound (P := P) R hb (es1 := es.eraseIdx i) (c1 := clock)
     (List.all_eq_true.2 fun e he => List.all_eq_true.1 hes e (List.mem_of_mem_eraseIdx he))
   refine ⟨w',?_,s2,s3⟩
   rw [ren_closed hk]
   have e2 : (es.map (renE ρ)).toArray.eraseIdxIfInBounds i = ((es.eraseIdx i).map (renE ρ)).toArray := by
     apply Array.toList_inj.1
     simp [erase_map]
   simp only [Builtin.delete_,h0,List.getElem?_toArray,List.getElem?_cons_zero,List.getElem?_cons_succ,Sem.run_bind,run_underlying hu,Result.andThen_ok,ren,ren2,ren1,ren0,run_getMap R hb,e1,hck',hfind,Option.map_some,e2,s1]
   rfl
def aRange (P : Program) (H : Heap) (t : TypeId) (x : Value) : Option (Value × Heap) :=
 match P.underlying t,x with
 | some (.map _ _),.map (some m) => match H[m]? with
   | some (.map _ clock) => some (ptr H.length,H ++ [.iter m clock #[] clock])
   | _ => none
 | _,_ => none
theorem range_sound (R : Rel ρ H w) {t : TypeId} {x v : Value} (h : aRange P H t x = some (v,H')) :
   ∃ ρ' w',(Instr.range t (ren ρ x)).run P w = .ok (ren ρ' v) w'∧Rel ρ' H' w'∧Ext ρ H w ρ' H' w'∧sc H'.length v = true := by
 unfold aRange at h
 split at h <;> try (cases h; done)
 rename_i k e m hu
 split at h <;> try (cases h; done)
 rename_i es clock hb
 cases h
 have hm : m < H.length := (List.getElem?_eq_some_iff.1 hb).1
 have e1 : (ρ.ext H.length w.heap.size 0).φ H.length = w.heap.size := by simp [Ren.ext]
 have e2 : (ρ.ext H.length w.heap.size 0).φ m = ρ.φ m := (Ren.ext_agree ρ _ _ _ m hm).1
 have hp := R.push (w' := w.alloc (.mapIter (some (ρ.φ m)) clock #[] clock)) (.iter m clock #[] clock) 0 rfl (by simp [AObj.sc]; omega) (by simp) (fun i hi => by rw [alloc_old _ _ _ hi])
   ⟨by simp [Ren.ext],by rw [e1,e2]; exact alloc_new _ _⟩ rfl rfl rfl
 refine ⟨_,_,?_,hp.1,hp.2,sc_ptr (by simp)⟩
 simp only [Instr.range,Sem.run_bind,run_underlying hu,Result.andThen_ok,ren,ren2,ren1,ren0,run_getMap R hb,Sem.run_pure,run_newObj]
 simp [ptr,Ren.addr,Ren.ext]
theorem run_getIter (R : Rel ρ H w) {r m since st : Nat} {seen : Array Nat} (hb : H[r]? = some (.iter m since seen st)) : (getObj (ρ.φ r)).run P w = .ok (.mapIter (some (ρ.φ m)) since seen st) w := by
 have hm : w.heap[ρ.φ r]? = some (.mapIter (some (ρ.φ m)) since seen st) := (R.obj _ _ hb).2
 simp [getObj,Sem.run,hm]
def aEntry (H : Heap) (x : Value) : Option Value :=
 match x with
 | .pointer (some a) => if a.off = 0 then match H[a.block]? with
   | some (.iter m _ seen st) => match seen.back?,H[m]? with
     | some stamp,some (.map es clock) => if clock = st then (es.find? (·.born == stamp)).map fun e => .tuple #[e.key,e.val] else none
     | _,_ => none
   | _ => none
   else none
 | _ => none
theorem find_ren (stamp : Nat) : ∀ (es : List MapEntry),(es.map (renE ρ)).find? (·.born == stamp) = (es.find? (·.born == stamp)).map (renE ρ)
 | [] => rfl
 | e :: es => by
   simp only [List.map_cons,List.find?_cons]
   have : (renE ρ e).born = e.born := rfl
   rw [this]
   cases e.born == stamp
   · exact find_ren stamp es
   · rfl
def candList (es : List MapEntry) (since : Nat) (seen : Array Nat) : List (Option MapEntry) :=
 let left := es.filter fun e => !seen.contains e.born
 let old := left.filter fun e => decide (e.born < since)
 let new := left.filter fun e => decide (e.born ≥ since)
 (if old.isEmpty then [none] else []) ++ (old ++ new).map some
def aNext (H : Heap) (x : Value) : Option (List (Value × Heap)) :=
 match x with
 | .pointer (some a) => if a.off = 0 then match H[a.block]? with
   | some (.iter m since seen last) => match H[m]? with
     | some (.map es clock) => if (!seen.isEmpty && !es.isEmpty && es.all fun e => decide (e.born ≥ last)) = true then none else
         some ((candList es since seen).map fun c => match c with
           | none => (.tuple #[.bool false],H)
           | some e => (.tuple #[.bool true,e.key,e.val],H.set a.block (.iter m since (seen.push e.born) clock)))
     | _ => none
   | _ => none
   else none
 | _ => none
theorem mem_sc {n : Nat} {es : List MapEntry} {c : Nat} (h : (AObj.map es c).sc n = true) {e : MapEntry} (he : e ∈ es) : sc2 0 e.key = true∧sc2 n e.val = true := by
 have := List.all_eq_true.1 h e he
 simpa only [Bool.and_eq_true] using this
theorem aEntry_sound (R : Rel ρ H w) {x v : Value} (h : aEntry H x = some v) :
   (Instr.entry (ren ρ x)).run P w = .ok (ren ρ v) w∧sc H.length v = true := by
 unfold aEntry at h
 split at h <;> try (cases h; done)
 rename_i a
 split at h <;> try (cases h; done)
 rename_i hoff
 split at h <;> try (cases h; done)
 rename_i m since seen st hb
 split at h <;> try (cases h; done)
 rename_i stamp es clock hst hm
 split at h <;> try (cases h; done)
 rename_i hcl
 simp only [Option.map_eq_some_iff] at h
 obtain ⟨e,he,rfl⟩ := h
 obtain ⟨hd,_⟩ := R.obj _ _ hb
 have hmem := List.mem_of_find?_eq_some he
 obtain ⟨k1,k2⟩ := mem_sc (R.scp _ _ hm) hmem
 have e0 : ren ρ (.pointer (some a)) = .pointer (some ⟨ρ.φ a.block,0,none⟩) := by simp [ren,ren2,ren1,ren0,Ren.addr,hd,hoff]
 refine ⟨?_,?_⟩
 · rw [e0]
   simp only [Instr.entry,Sem.run_bind,run_getIter R hb,Result.andThen_ok,hst,run_getMap R hm,hcl,bne_self_eq_false,Bool.false_eq_true,↓reduceIte]
   have hf : (es.map (renE ρ)).toArray.find? (fun e => e.born == stamp) = some (renE ρ e) := by
     simp only [List.find?_toArray,find_ren,he,Option.map_some]
   simp only [Sem.run_pure,hf]
   have k3 : ren2 ρ e.key = e.key := ren2_closed k1
   simp [ren,renE,k3]
 · show (#[e.key,e.val]).all (sc2 H.length) = true
   have k4 : sc2 H.length e.key = true := sc2_mono (Nat.zero_le _) k1
   simp [k4,k2]
theorem setIter_sound (R : Rel ρ H w) {r m since st since1 st1 : Nat} {seen seen1 : Array Nat} (hb : H[r]? = some (.iter m since seen st)) :
   ∃ w',(setObj (ρ.φ r) (.mapIter (some (ρ.φ m)) since1 seen1 st1)).run P w = .ok () w'∧Rel ρ (H.set r (.iter m since1 seen1 st1)) w'∧Ext ρ H w ρ (H.set r (.iter m since1 seen1 st1)) w' := by
 obtain ⟨hd,hm⟩ := R.obj _ _ hb
 have hlt := (Array.getElem?_eq_some_iff.1 hm).1
 have hwr : wr H r = true := by rw [wr_of_get hb]; rfl
 refine ⟨{ w with heap := w.heap.setIfInBounds (ρ.φ r) (.mapIter (some (ρ.φ m)) since1 seen1 st1) },by simp [setObj,Sem.run,hm],?_⟩
 refine R.upd hwr (.iter m since1 seen1 st1) rfl (by have := R.scp r _ hb; exact this) (by simp) (fun i hi => ?_) ⟨hd,?_⟩ rfl rfl rfl
 · exact Array.getElem?_setIfInBounds_ne (Ne.symm hi)
 · show (w.heap.setIfInBounds (ρ.φ r) _)[ρ.φ r]? = _
   rw [Array.getElem?_setIfInBounds_self_of_lt hlt]
theorem filter_ren {p : MapEntry→Bool} (hp : ∀ e,p (renE ρ e) = p e) : ∀ (es : List MapEntry),(es.map (renE ρ)).filter p = (es.filter p).map (renE ρ)
 | [] => rfl
 | e :: es => by
   simp only [List.map_cons,List.filter_cons,hp,filter_ren hp es]
   split <;> rfl
theorem choose_lt (n : Nat) (hn : 0 < n) : ∃ i w',i < n∧(choose (.mapNext n)).run P w = .ok i w'∧(w' = w∨w' = w.drew) := by
 simp only [run_choose]
 by_cases h1 : n≤1
 · exact ⟨0,w,hn,by simp [Question.forced,h1],.inl rfl⟩
 · refine ⟨w.tape w.drawn (.mapNext n) % n,w.drew,Nat.mod_lt _ hn,?_,.inr rfl⟩
   simp [Question.forced,h1,Question.cut]
theorem aNext_sound (R : Rel ρ H w) {x : Value} {outs : List (Value × Heap)} (ty : TypeId) (h : aNext H x = some outs) :
   ∃ v H' w',(v,H') ∈ outs∧(Instr.next (ren ρ x) false ty).run P w = .ok (ren ρ v) w'∧Rel ρ H' w'∧Ext ρ H w ρ H' w'∧sc H'.length v = true := by
 unfold aNext at h
 split at h <;> try (cases h; done)
 rename_i a
 split at h <;> try (cases h; done)
 rename_i hoff
 split at h <;> try (cases h; done)
 rename_i m since seen last hb
 split at h <;> try (cases h; done)
 rename_i es clock hm
 split at h <;> try (cases h; done)
 rename_i hchk
 cases h
 obtain ⟨hd,_⟩ := R.obj _ _ hb
 have e0 : ren ρ (.pointer (some a)) = .pointer (some ⟨ρ.φ a.block,0,none⟩) := by simp [ren,ren2,ren1,ren0,Ren.addr,hd,hoff]
 have hcand : ((if (((es.map (renE ρ)).toArray.filter fun e => !seen.contains e.born).filter fun e => decide (e.born < since)).isEmpty then #[none] else #[]) ++
     ((((es.map (renE ρ)).toArray.filter fun e => !seen.contains e.born).filter fun e => decide (e.born < since)) ++ (((es.map (renE ρ)).toArray.filter fun e => !seen.contains e.born).filter fun e => decide (e.born ≥ since))).map some) =
     ((candList es since seen).map (·.map (renE ρ))).toArray := by
   have hf : ∀ (l : List MapEntry) (p : MapEntry→Bool),(∀ e,p (renE ρ e) = p e)→(l.map (renE ρ)).toArray.filter p = ((l.filter p).map (renE ρ)).toArray := fun l p hp => by
     rw [← filter_ren hp]; simp
   rw [hf es _ (fun _ => rfl),hf _ _ (fun _ => rfl),hf _ _ (fun _ => rfl)]
   unfold candList
   simp only
   have e1 : ∀ (l : List MapEntry),(l.map (renE ρ)).toArray.isEmpty = l.isEmpty := fun l => by cases l <;> rfl
   rw [e1]
   cases ((es.filter fun e => !seen.contains e.born).filter fun e => decide (e.born < since)).isEmpty <;> simp <;> rfl
 have hpos : 0 < (candList es since seen).length := by
   unfold candList
   simp only
   split
   · simp
   · rename_i hne
     simp only [List.nil_append,List.length_map,List.length_append]
     generalize ((es.filter fun e => !seen.contains e.born).filter fun e => decide (e.born < since)) = l at hne ⊢
     cases l with
     | nil => exact absurd rfl hne
     | cons a l => simp; omega
 obtain ⟨i,w1,hi,hrun,hw1⟩ := choose_lt (P := P) (w := w) _ hpos
 have R1 : Rel ρ H w1∧Ext ρ H w ρ H w1 := by
   rcases hw1 with rfl | rfl
   · exact ⟨R,Ext.refl _ _ _⟩
   · exact ⟨R.drew,Ext.drew⟩
 have hchk' : (!seen.isEmpty && !(es.map (renE ρ)).toArray.isEmpty && (es.map (renE ρ)).toArray.all fun e => decide (e.born ≥ last)) = false := by
   have e1 : (es.map (renE ρ)).toArray.isEmpty = es.isEmpty := by cases es <;> rfl
   have e2 : ((es.map (renE ρ)).toArray.all fun e => decide (e.born ≥ last)) = es.all fun e => decide (e.born ≥ last) := by
     simp [List.all_map]; rfl
   rw [e1,e2]
   simpa using hchk
 have hsize : ((candList es since seen).map (·.map (renE ρ))).toArray.size = (candList es since seen).length := by simp
 cases hc : (candList es since seen)[i]? with
 | none => rw [List.getElem?_eq_none_iff] at hc; omega
 | some c =>
   have hget : ((candList es since seen).map (·.map (renE ρ))).toArray[i]? = some (c.map (renE ρ)) := by simp [hc]
   have hmem := List.mem_of_getElem? hc
   have run1 : (Instr.next (ren ρ (.pointer (some a))) false ty).run P w =
       ((match c.map (renE ρ) with
         | some e => do
           setObj (ρ.φ a.block) (.mapIter (some (ρ.φ m)) since (seen.push e.born) clock)
           pure (.tuple #[.bool true,e.key,e.val])
         | none => pure (.tuple #[.bool false]) : Sem Value).run P w1) := by
     rw [e0]
     simp only [Instr.next,Sem.run_bind,run_getIter R hb,Result.andThen_ok,run_getMap R hm,hchk',Bool.false_eq_true,↓reduceIte,Sem.run_pure]
     rw [hcand]
     simp only [hsize,hrun,Result.andThen_ok,hget]
     cases c <;> rfl
   cases c with
   | none =>
     refine ⟨.tuple #[.bool false],H,w1,List.mem_map.2 ⟨none,hmem,rfl⟩,?_,R1.1,R1.2,by simp [sc,sc2,sc1,sc0]⟩
     rw [run1]
     simp [ren,ren2,ren1,ren0]
   | some e =>
     have hes : e ∈ es := by
       unfold candList at hmem
       simp only [List.mem_append,List.mem_map,Option.some.injEq,exists_eq_right,List.mem_filter] at hmem
       rcases hmem with h | h | h
       · split at h <;> simp at h
       · exact h.1.1
       · exact h.1.1
     obtain ⟨k1,k2⟩ := mem_sc (R.scp _ _ hm) hes
     obtain ⟨w',s1,s2,s3⟩ := setIter_sound (P := P) R1.1 hb (since1 := since) (seen1 := seen.push e.born) (st1 := clock)
     have k3 : ren2 ρ e.key = e.key := ren2_closed k1
     have k4 : sc2 H.length e.key = true := sc2_mono (Nat.zero_le _) k1
     refine ⟨.tuple #[.bool true,e.key,e.val],H.set a.block (.iter m since (seen.push e.born) clock),w',List.mem_map.2 ⟨some e,hmem,rfl⟩,?_,s2,R1.2.trans s3,?_⟩
     · rw [run1]
       have hborn : (renE ρ e).born = e.born := rfl
       simp only [Option.map_some,Sem.run_bind,hborn,s1,Result.andThen_ok]
       show Result.ok (Value.tuple #[.bool true,e.key,(renE ρ e).val]) w' = Result.ok (ren ρ (.tuple #[.bool true,e.key,e.val])) w'
       have k5 : ren2 ρ (.bool true) = .bool true := rfl
       simp [ren,renE,k3,k5]
     · show (#[Value.bool true,e.key,e.val]).all (sc2 (H.set a.block (.iter m since (seen.push e.born) clock)).length) = true
       have hb2 : sc2 H.length (.bool true) = true := rfl
       simp [k4,k2,hb2]
def aMapEntry (P : Program) (H : Heap) (t : TypeId) (x k : Value) : Option (Value × Heap) :=
 match P.underlying t,x with
 | some (.map kt et),.map (some r) => match H[r]? with
   | some (.map es clock) => if sc2 0 k = true then
       (pureRun P (Instr.checkKey false 10000 kt k)).bind fun _ => (aFindKey P kt k es).bind fun q => match q with
         | some (i,_) => match es[i]? with
           | some e => if Instr.sameBits 10000 e.key k = true then some (.tuple #[e.val,goInt e.born],H.set r (.map (es.modify i fun e => { e with key := k }) clock)) else none
           | none => none
         | none => (zeroT P et).map fun z => (.tuple #[z,goInt clock],H.set r (.map (es ++ [{ key := k,val := z,born := clock }]) (clock + 1)))
     else none
   | _ => none
 | _,_ => none
theorem mapEntry_sound (R : Rel ρ H w) {t : TypeId} {x k v : Value} (h : aMapEntry P H t x k = some (v,H')) :
   ∃ w',(Instr.mapEntry t (ren ρ x) (ren ρ k)).run P w = .ok (ren ρ v) w'∧Rel ρ H' w'∧Ext ρ H w ρ H' w'∧sc H'.length v = true := by
 unfold aMapEntry at h
 split at h <;> try (cases h; done)
 rename_i kt et r hu
 split at h <;> try (cases h; done)
 rename_i es clock hb
 split at h <;> try (cases h; done)
 rename_i hc
 simp only [Option.bind_eq_some_iff] at h
 obtain ⟨u,hck,q,hq,h⟩ := h
 have hck' := pureRun_sound w _ hck
 have hfind := aFindKey_sound (ρ := ρ) (w := w) hq
 have hes := R.scp _ _ hb
 have hk0 : ren ρ k = k := ren_closed (sc_of_sc2 hc)
 cases q with
 | none =>
   simp only [Option.map_eq_some_iff,Prod.mk.injEq] at h
   obtain ⟨z,hz,rfl,rfl⟩ := h
   obtain ⟨z1,z2⟩ := run_zero (w := w) hz
   have z3 : sc2 H.length z = true := sc2_mono (Nat.zero_le _) z2
   obtain ⟨w',s1,s2,s3⟩ := setMap_sound (P := P) R hb (es1 := es ++ [{ key := k,val := z,born := clock }]) (c1 := clock + 1)
     (by simp only [AObj.sc,List.all_append,Bool.and_eq_true]; exact ⟨hes,by simp [hc,z3]⟩)
   have hz2 : ren2 ρ z = z := ren2_closed z2
   refine ⟨w',?_,s2,s3,by show Array.all _ _ = true; simp [z3,show ∀ n : Int,sc2 H.length (goInt n) = true from fun _ => rfl]⟩
   rw [hk0,show ren ρ (.map (some r)) = .map (some (ρ.φ r)) from rfl]
   simp only [Instr.mapEntry,Sem.run_bind,run_underlying hu,Result.andThen_ok,run_getMap R hb,hck',hfind,Option.map_none,z1]
   have : (es.map (renE ρ)).toArray.push ({ key := k,val := z,born := clock } : MapEntry) = ((es ++ [({ key := k,val := z,born := clock } : MapEntry)]).map (renE ρ)).toArray := by simp [renE,hz2]
   rw [this,s1]
   show _ = Result.ok (Value.tuple (#[z,goInt clock].map (ren2 ρ))) w'
   simp [hz2,show ren2 ρ (goInt clock) = goInt clock from rfl]
 | some p =>
   obtain ⟨i,old⟩ := p
   simp only at h
   split at h <;> try (cases h; done)
   rename_i e he
   split at h <;> try (cases h; done)
   rename_i hsame
   cases h
   obtain ⟨e',he',hv'⟩ := findKey_mem hq
   rw [he] at he'
   cases he'
   subst hv'
   have hem := mem_sc hes (List.mem_of_getElem? he)
   obtain ⟨w',s1,s2,s3⟩ := setMap_sound (P := P) R hb (es1 := es.modify i fun e => { e with key := k }) (c1 := clock)
     (by
       show List.all _ _ = true
       apply List.all_eq_true.2
       intro x hx
       obtain ⟨j,hj,rfl⟩ := List.getElem_of_mem hx
       simp only [List.getElem_modify]
       have hj' : j < es.length := by simpa using hj
       have h0 := mem_sc hes (List.getElem_mem hj')
       split
       · simp [hc,h0.2]
       · simp [h0.1,h0.2])
   refine ⟨w',?_,s2,s3,by show Array.all _ _ = true; simp [hem.2,show ∀ n : Int,sc2 H.length (goInt n) = true from fun _ => rfl]⟩
   rw [hk0,show ren ρ (.map (some r)) = .map (some (ρ.φ r)) from rfl]
   have hkey : (((es.map (renE ρ)).toArray[i]?).map (·.key)).getD k = e.key := by simp [he,renE]
   have hborn : (((es.map (renE ρ)).toArray[i]?).map fun e => (e.born : Int)).getD 0 = e.born := by simp [he,renE]
   simp only [Instr.mapEntry,Sem.run_bind,run_underlying hu,Result.andThen_ok,run_getMap R hb,hck',hfind,Option.map_some,hkey,hborn,Instr.keyThatStays,if_pos hsame,Sem.run_pure]
   have : (es.map (renE ρ)).toArray.modify i (fun e => { e with key := k }) = ((es.modify i fun e => { e with key := k }).map (renE ρ)).toArray := by
     rw [modify_map (f := renE ρ) (g := fun e => { e with key := k }) (h := fun e => { e with key := k }) (fun e => rfl)]
     simp
   rw [this,s1]
   show _ = Result.ok (Value.tuple (#[e.val,goInt e.born].map (ren2 ρ))) w'
   simp [show ren2 ρ (goInt e.born) = goInt e.born from rfl]
def aEntryStore (H : Heap) (x s v : Value) : Option Heap :=
 match x,s with
 | .map (some r),.int _ n => match H[r]? with
   | some (.map es clock) => if sc2 H.length v = true then match es.findIdx? (fun e => (e.born : Int) == n) with
       | some i => some (H.set r (.map (es.modify i fun e => { e with val := v }) clock))
       | none => none
     else none
   | _ => none
 | _,_ => none
theorem findIdx_ren (n : Int) : ∀ (es : List MapEntry),(es.map (renE ρ)).findIdx? (fun e => (e.born : Int) == n) = es.findIdx? fun e => (e.born : Int) == n
 | [] => rfl
 | e :: es => by
   simp only [List.map_cons,List.findIdx?_cons]
   rw [show (renE ρ e).born = e.born from rfl,findIdx_ren n es]
theorem entryStore_sound (R : Rel ρ H w) {t : TypeId} {x s v : Value} (h : aEntryStore H x s v = some H') :
   ∃ w',(Instr.entryStore t (ren ρ x) (ren ρ s) (ren ρ v)).run P w = .ok () w'∧Rel ρ H' w'∧Ext ρ H w ρ H' w' := by
 unfold aEntryStore at h
 split at h <;> try (cases h; done)
 rename_i r k n
 split at h <;> try (cases h; done)
 rename_i es clock hb
 split at h <;> try (cases h; done)
 rename_i hc
 split at h <;> try (cases h; done)
 rename_i i hi
 cases h
 have hes := R.scp _ _ hb
 have hv2 : ren ρ v = ren2 ρ v := ren_of_sc2 hc
 obtain ⟨w',s1,s2,s3⟩ := setMap_sound (P := P) R hb (es1 := es.modify i fun e => { e with val := v }) (c1 := clock)
   (by
     show List.all _ _ = true
     apply List.all_eq_true.2
     intro x hx
     obtain ⟨j,hj,rfl⟩ := List.getElem_of_mem hx
     simp only [List.getElem_modify]
     have hj' : j < es.length := by simpa using hj
     have h0 := mem_sc hes (List.getElem_mem hj')
     split
     · simp [hc,h0.1]
     · simp [h0.1,h0.2])
 refine ⟨w',?_,s2,s3⟩
 have hidx : (es.map (renE ρ)).toArray.findIdx? (fun e => (e.born : Int) == n) = some i := by
   rw [← hi,← findIdx_ren (ρ := ρ) n es]
   simp
 have : (es.map (renE ρ)).toArray.modify i (fun e => { e with val := ren2 ρ v }) = ((es.modify i fun e => { e with val := v }).map (renE ρ)).toArray := by
   rw [modify_map (f := renE ρ) (g := fun e => { e with val := v }) (h := fun e => { e with val := ren2 ρ v }) (fun e => rfl)]
   simp
 rw [hv2,show ren ρ (.map (some r)) = .map (some (ρ.φ r)) from rfl,show ren ρ (.int k n) = .int k n from rfl]
 simp only [Instr.entryStore,Sem.run_bind,Result.andThen_ok,run_getMap R hb,asInt,asIntOf,Sem.run_pure,hidx]
 rw [this,s1]
end Go.Pier
