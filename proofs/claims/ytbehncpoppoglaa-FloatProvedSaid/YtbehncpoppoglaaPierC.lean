import Derived.Test.YtbehncpoppoglaaPierB
set_option linter.unusedSimpArgs false
set_option linter.unusedVariables false
namespace Go.Pier
open Go
variable {P : Program} {ρ : Ren} {H : Heap} {w : World}
theorem cells_ren {n : Nat} {v : Value} (h : sc2 n v = true) : (ren ρ v).cells = v.cells.map (ren1 ρ) := by
 rw [ren_of_sc2 h]
 cases v <;> first
   | rfl
   | (simp [Value.cells,ren2,ren1,ren0]; done)
   | (simp [sc2,sc1,sc0] at h; done)
   | (rename_i x; cases x <;> simp [Value.cells,ren2,ren1,ren0]; done)
   | (rename_i x _ _; cases x <;> simp [Value.cells,ren2,ren1,ren0]; done)
theorem cells_sc1 {n : Nat} {v : Value} (h : sc2 n v = true) : v.cells.all (sc1 n) = true := by
 cases v <;> first | exact h | (simp only [Value.cells]; simpa [sc2] using h)
theorem oneCell_ren1 {n : Nat} {v : Value} (h : sc1 n v = true) : (ren1 ρ v).oneCell' = true := by
 cases v <;> first | rfl | (simp [sc1,sc0] at h; done) | (rename_i x; cases x <;> rfl) | (rename_i x _ _; cases x <;> rfl)
def aload (H : Heap) (a : Addr) : Option Value :=
 match a.spot,H[a.block]? with
 | none,some (.ro cs) => cs[a.off]?
 | none,some (.rw cs _) => cs[a.off]?
 | none,some (.mix cs) => match cs[a.off]? with
   | some (.val v) => some v
   | _ => none
 | _,_ => none
theorem aload_sound (R : Rel ρ H w) {a : Addr} {v : Value} (h : aload H a = some v) : w.cell? (ρ.addr a) = some (ren1 ρ v)∧sc1 H.length v = true := by
 obtain ⟨b,o,s⟩ := a
 unfold aload at h
 split at h
 · rename_i cs h1 h2
   simp only at h1 h2 h; subst h1
   exact ⟨(R.obj _ _ h2).2 _ _ h,cells_sc (R.scp _ _ h2) h⟩
 · rename_i cs r h1 h2
   simp only at h1 h2 h; subst h1
   obtain ⟨_,cs',t,h3,h4,_⟩ := R.obj _ _ h2
   refine ⟨?_,cells_sc (R.scp _ _ h2) h⟩
   simp only [World.cell?,Ren.addr,h3]
   simpa using h4 _ _ h
 · rename_i cs h1 h2
   simp only at h1 h2 h; subst h1
   obtain ⟨_,_,h3⟩ := R.obj _ _ h2
   split at h <;> cases h
   rename_i hc
   obtain ⟨h4,h5⟩ := h3 _ _ hc
   have h6 := sc1_mono (Nat.zero_le H.length) h5
   exact ⟨by rw [ren1_closed h5]; exact h4,h6⟩
 · cases h
theorem addr_add (ρ : Ren) (a : Addr) (n : Nat) : (ρ.addr a).add n = ρ.addr (a.add n) := by
 unfold Addr.add
 split <;> simp [Ren.addr,Nat.add_assoc]
def aloadFrom (H : Heap) (a : Addr) : Nat→Nat→Option (List Value)
 | _,0 => some []
 | i,n + 1 => (aload H (a.add i)).bind fun v => (aloadFrom H a (i + 1) n).map (v :: ·)
theorem aloadFrom_sound (R : Rel ρ H w) (a : Addr) : ∀ (n i : Nat) (l : List Value) (acc : Array Value),aloadFrom H a i n = some l →
   (loadCellsFrom (ρ.addr a) i n acc).run P w = .ok (acc ++ (l.map (ren1 ρ)).toArray) w∧l.all (sc1 H.length) = true∧l.length = n
 | 0,i,l,acc,h => by
   simp only [aloadFrom,Option.some.injEq] at h
   subst h
   simp [loadCellsFrom]
 | n + 1,i,l,acc,h => by
   simp only [aloadFrom,Option.bind_eq_some_iff,Option.map_eq_some_iff] at h
   obtain ⟨v,h1,r,h2,rfl⟩ := h
   obtain ⟨h3,h4⟩ := aload_sound R h1
   obtain ⟨h5,h6,h7⟩ := aloadFrom_sound R a n (i + 1) r (acc.push (ren1 ρ v)) h2
   refine ⟨?_,by simp [h4,h6],by simp [h7]⟩
   simp only [loadCellsFrom,Sem.run_bind,addr_add,Result.andThen_ok,h5,run_load,h3]
   simp
def isAggT (P : Program) (t : TypeId) : Option Bool :=
 match P.underlying t with
 | some (.struct _) | some (.array _ _) => some true
 | some _ => some false
 | none => none
def sizeT (P : Program) (t : TypeId) : Option Nat := (P.info? t).map (·.size)
def zeroT (P : Program) (t : TypeId) : Option Value := ((P.info? t).bind (·.zero)).bind fun z => if sc2 0 z then some z else none
def bytesT (P : Program) (t : TypeId) : Option Nat := (P.info? t).map (·.bytes)
theorem run_underlying {t : TypeId} {d : TypeDesc} (h : P.underlying t = some d) : (underlying t).run P w = .ok d w := by
 simp [underlying,h]
theorem run_isAgg {t : TypeId} {b : Bool} (h : isAggT P t = some b) : (isAgg t).run P w = .ok b w := by
 unfold isAggT at h
 split at h <;> simp at h <;> subst h
 · simp [isAgg,run_underlying ‹_›]
 · simp [isAgg,run_underlying ‹_›]
 · rename_i d _ _ h3
   simp [isAgg,run_underlying h3]
theorem run_typeInfo {t : TypeId} {i : TypeInfo} (h : P.info? t = some i) : (typeInfo t).run P w = .ok i w := by
 simp [typeInfo,h]
theorem run_sizeOf {t : TypeId} {n : Nat} (h : sizeT P t = some n) : (sizeOf t).run P w = .ok n w := by
 simp only [sizeT,Option.map_eq_some_iff] at h
 obtain ⟨i,hi,rfl⟩ := h
 simp [sizeOf,run_typeInfo hi]
theorem run_zero {t : TypeId} {z : Value} (h : zeroT P t = some z) : (zeroValue t).run P w = .ok z w∧sc2 0 z = true := by
 simp only [zeroT,Option.bind_eq_some_iff] at h
 obtain ⟨z',⟨i,hi,hz⟩,h2⟩ := h
 split at h2
 · cases h2; exact ⟨by simp [zeroValue,run_typeInfo hi,hz],‹_›⟩
 · cases h2
def aloadVar (P : Program) (H : Heap) (t : TypeId) (a : Addr) : Option Value :=
 match isAggT P t with
 | some true => (sizeT P t).bind fun n => (aloadFrom H a 0 n).map fun l => .agg l.toArray
 | some false => aload H a
 | none => none
theorem aloadVar_sound (R : Rel ρ H w) {t : TypeId} {a : Addr} {v : Value} (h : aloadVar P H t a = some v) :
   (loadVar t (ρ.addr a)).run P w = .ok (ren ρ v) w∧sc2 H.length v = true := by
 unfold aloadVar at h
 split at h
 · rename_i h0
   simp only [Option.bind_eq_some_iff,Option.map_eq_some_iff] at h
   obtain ⟨n,hn,l,hl,rfl⟩ := h
   obtain ⟨h1,h2,_⟩ := aloadFrom_sound (P := P) R a n 0 l #[] hl
   refine ⟨?_,by simpa [sc2] using h2⟩
   simp [loadVar,run_isAgg h0,run_sizeOf hn,loadCells,h1,ren,ren2]
 · rename_i h0
   obtain ⟨h1,h2⟩ := aload_sound R h
   refine ⟨?_,sc2_of_sc1 h2⟩
   rw [ren_of_sc2 (sc2_of_sc1 h2),ren2_of_sc1 h2]
   simp [loadVar,run_isAgg h0,h1]
 · cases h
def putL (cs : List Value) (off : Nat) : List Value→List Value
 | [] => cs
 | v :: vs => putL (cs.set off v) (off + 1) vs
def putA (cs : Array Value) (off : Nat) : List Value→Array Value
 | [] => cs
 | v :: vs => putA (cs.setIfInBounds off v) (off + 1) vs
theorem putL_length : ∀ (vs : List Value) (cs : List Value) (off : Nat),(putL cs off vs).length = cs.length
 | [],_,_ => rfl
 | v :: vs,cs,off => by simp [putL,putL_length vs]
theorem putA_size : ∀ (vs : List Value) (cs : Array Value) (off : Nat),(putA cs off vs).size = cs.size
 | [],_,_ => rfl
 | v :: vs,cs,off => by simp [putA,putA_size vs]
theorem putA_ren (f : Value→Value) (d : Nat) : ∀ (vs : List Value) (cs' : Array Value) (cs : List Value) (off : Nat),(∀ (i : Nat) (v : Value),cs[i]? = some v→cs'[d + i]? = some (f v)) →
   ∀ (i : Nat) (v : Value),(putL cs off vs)[i]? = some v→(putA cs' (d + off) (vs.map f))[d + i]? = some (f v)
 | [],_,_,_,h => h
 | u :: vs,cs',cs,off,h => by
   show ∀ (i : Nat) (v : Value),(putL (cs.set off u) (off + 1) vs)[i]? = some v→(putA (cs'.setIfInBounds (d + off) (f u)) (d + off + 1) (vs.map f))[d + i]? = some (f v)
   rw [Nat.add_assoc d off 1]
   refine putA_ren f d vs _ _ (off + 1) fun i v hi => ?_
   by_cases he : off = i
   · subst he
     have h2 : off < cs.length := by have := (List.getElem?_eq_some_iff.1 hi).1; simpa using this
     rw [List.getElem?_set_self h2] at hi
     cases hi
     have h3 := h off _ (List.getElem?_eq_getElem h2)
     have h4 := (Array.getElem?_eq_some_iff.1 h3).1
     simp [h4]
   · rw [List.getElem?_set_ne he] at hi
     have := h i v hi
     have hne : d + off ≠ d + i := by omega
     simpa [Array.getElem?_setIfInBounds,he,hne] using this
theorem putL_all {p : Value→Bool} : ∀ (vs cs : List Value) (off : Nat),cs.all p = true→vs.all p = true→(putL cs off vs).all p = true
 | [],_,_,h,_ => h
 | v :: vs,cs,off,h,k => by
   simp only [List.all_cons,Bool.and_eq_true] at k
   refine putL_all vs _ _ (List.all_eq_true.2 fun x hx => ?_) k.2
   rcases List.mem_or_eq_of_mem_set hx with h1 | h1
   · exact List.all_eq_true.1 h x h1
   · subst h1; exact k.1
theorem putA_end (f : Value→Value) (d : Nat) : ∀ (vs : List Value) (cs' : Array Value) (cs : List Value),(∀ (i : Nat) (v : Value),cs[i]? = some v→cs'[d + i]? = some (f v))→d + cs.length + vs.length≤cs'.size →
   ∀ (i : Nat) (v : Value),(cs ++ vs)[i]? = some v→(putA cs' (d + cs.length) (vs.map f))[d + i]? = some (f v)
 | [],_,_,h,_ => by simpa [putA] using h
 | u :: vs,cs',cs,h,hs => by
   have e : cs ++ u :: vs = (cs ++ [u]) ++ vs := by simp
   rw [e]
   have hl : d + (cs ++ [u]).length = d + cs.length + 1 := by simp; omega
   show ∀ (i : Nat) (v : Value),_→(putA (cs'.setIfInBounds (d + cs.length) (f u)) (d + cs.length + 1) (vs.map f))[d + i]? = some (f v)
   rw [← hl]
   refine putA_end f d vs _ _ (fun i v hi => ?_) (by simp at hs ⊢; omega)
   rcases Nat.lt_or_ge i cs.length with h1 | h1
   · rw [List.getElem?_append_left h1] at hi
     have := h i v hi
     have hne : d + cs.length ≠ d + i := by omega
     rw [Array.getElem?_setIfInBounds_ne hne]; exact this
   · have hlt := (List.getElem?_eq_some_iff.1 hi).1
     simp at hlt
     have : i = cs.length := by omega
     subst this
     simp at hi
     subst hi
     have : d + cs.length < cs'.size := by simp at hs; omega
     simp [this]
theorem run_storeCells : ∀ (vs : List Value) (w : World) (g off i : Nat) (cs : Array Value) (t : TypeId),w.heap[g]? = some (.cells cs t (0,0)) →
   off + i + vs.length≤cs.size→vs.all (·.oneCell') = true →
   ∃ w',(storeCells ⟨g,off,none⟩ vs i).run P w = .ok () w'∧w'.heap[g]? = some (.cells (putA cs (off + i) vs) t (0,0))∧(∀ k,k ≠ g→w'.heap[k]? = w.heap[k]?) ∧
     w'.heap.size = w.heap.size∧w'.os = w.os∧w'.tape = w.tape∧w'.output = w.output
 | [],w,g,off,i,cs,t,hg,_,_ => ⟨w,by simp [storeCells],by simpa [putA] using hg,fun _ _ => rfl,rfl,rfl,rfl,rfl⟩
 | v :: vs,w,g,off,i,cs,t,hg,hs,ho => by
   simp only [List.all_cons,Bool.and_eq_true] at ho
   simp only [List.length_cons] at hs
   have ea : (⟨g,off,none⟩ : Addr).add i = ⟨g,off + i,none⟩ := by unfold Addr.add; split <;> simp_all
   have hlt : off + i < cs.size := by omega
   have hc : w.cell? ⟨g,off + i,none⟩ = some cs[off + i] := by simp [World.cell?,hg,hlt]
   have hf : w.frozen? ⟨g,off + i,none⟩ = false := by simp [World.frozen?,hg]
   have hg' : (w.setCell ⟨g,off + i,none⟩ v).heap[g]? = some (.cells (cs.setIfInBounds (off + i) v) t (0,0)) := by
     simp only [World.setCell,Array.getElem?_modify,hg]
     simp
   obtain ⟨w',h1,h2,h3,h4,h5,h6,h7⟩ := run_storeCells vs (w.setCell ⟨g,off + i,none⟩ v) g off (i + 1) _ t hg' (by simp; omega) ho.2
   refine ⟨w',?_,?_,fun k hk => ?_,?_,h5,h6,h7⟩
   · simp only [storeCells,Sem.run_bind,ea,run_store P w _ v .plain ho.1,hc,hf]
     simpa using h1
   · simpa [putA,Nat.add_assoc] using h2
   · rw [h3 k hk]
     simp only [World.setCell,Array.getElem?_modify]
     rw [if_neg (Ne.symm hk)]
   · rw [h4]; simp
def astore (H : Heap) (a : Addr) (vs : List Value) : Option Heap :=
 match vs with
 | [] => some H
 | _ =>
   match a.spot,H[a.block]? with
   | none,some (.rw cs r) => if a.off + vs.length≤cs.length∧vs.all (sc1 H.length) = true then some (H.set a.block (.rw (putL cs a.off vs) r)) else none
   | _,_ => none
theorem all_map_oneCell {n : Nat} {vs : List Value} (h : vs.all (sc1 n) = true) : (vs.map (ren1 ρ)).all (·.oneCell') = true := by
 rw [List.all_map]
 exact List.all_eq_true.2 fun v hv => oneCell_ren1 (List.all_eq_true.1 h v hv)
theorem astore_sound (R : Rel ρ H w) {a : Addr} {vs : List Value} {H' : Heap} (h : astore H a vs = some H') :
   ∃ w',(storeCells (ρ.addr a) (vs.map (ren1 ρ))).run P w = .ok () w'∧Rel ρ H' w'∧Ext ρ H w ρ H' w' := by
 obtain ⟨b,o,s⟩ := a
 unfold astore at h
 split at h
 · cases h; exact ⟨w,by simp [storeCells],R,Ext.refl _ _ _⟩
 · split at h
   · rename_i cs r h1 h2
     simp only at h1 h2 h; subst h1
     split at h
     · rename_i hc
       cases h
       obtain ⟨h0,cs',t,h3,h4,h5⟩ := R.obj _ _ h2
       have hsz : ρ.δ b + cs.length≤cs'.size := by
         cases r with
         | none => rw [h0 rfl,Nat.zero_add]; exact Nat.le_of_eq h5.symm
         | some s => have := h5.1; have := h5.2; omega
       obtain ⟨w',k1,k2,k3,k4,k5,k6,k7⟩ := run_storeCells (P := P) (vs.map (ren1 ρ)) w (ρ.φ b) (ρ.δ b + o) 0 cs' t h3 (by simp; omega) (all_map_oneCell hc.2)
       have hb : wr H b = true := by rw [wr_of_get h2]; rfl
       have := R.upd (w' := w') hb (.rw (putL cs o vs) r) rfl
         (putL_all _ _ _ (R.scp _ _ h2) hc.2) k4 k3
         ⟨h0,_,t,by simpa using k2,fun i v hi => putA_ren (ren1 ρ) (ρ.δ b) vs cs' cs o h4 i v hi,by cases r <;> simp_all [putA_size,putL_length]⟩ k5 k6 k7
       refine ⟨w',?_,this.1,this.2⟩
       exact k1
     · cases h
   · cases h
def astoreVar (P : Program) (H : Heap) (t : TypeId) (a : Addr) (v : Value) : Option Heap :=
 if sizeT P t = some v.cells.size∧sc2 H.length v = true then astore H a v.cells.toList else none
theorem astoreVar_sound (R : Rel ρ H w) {t : TypeId} {a : Addr} {v : Value} {H' : Heap} (h : astoreVar P H t a v = some H') :
   ∃ w',(storeVar t (ρ.addr a) (ren ρ v)).run P w = .ok () w'∧Rel ρ H' w'∧Ext ρ H w ρ H' w' := by
 unfold astoreVar at h
 split at h
 · rename_i hc
   obtain ⟨w',h1,h2,h3⟩ := astore_sound (P := P) R h
   refine ⟨w',?_,h2,h3⟩
   simp [storeVar,cells_ren hc.2,run_sizeOf hc.1,h1]
 · cases h
theorem alloc_new (w : World) (o : Obj) : (w.alloc o).heap[w.heap.size]? = some o := by
 show (w.heap.push o)[w.heap.size]? = _
 simp
theorem alloc_old (w : World) (o : Obj) (i : Nat) (h : i < w.heap.size) : (w.alloc o).heap[i]? = w.heap[i]? := by
 show (w.heap.push o)[i]? = _
 rw [Array.getElem?_push,if_neg (by omega)]
theorem newRow_sound (R : Rel ρ H w) (t : TypeId) (cs : Array Value) (hs : cs.all (sc1 H.length) = true) :
   ∃ ρ' w',(newRow t (cs.map (ren1 ρ))).run P w = .ok (ρ'.addr ⟨H.length,0,none⟩) w'∧Rel ρ' (H ++ [.rw cs.toList none]) w'∧Ext ρ H w ρ' (H ++ [.rw cs.toList none]) w' := by
 refine ⟨ρ.ext H.length w.heap.size 0,w.alloc (.cells (cs.map (ren1 ρ)) t),?_,?_⟩
 · simp [newRow,Ren.addr,Ren.ext]
 · have hl : cs.toList.all (sc1 H.length) = true := by simpa using hs
   refine R.push _ 0 rfl (List.all_eq_true.2 fun v hv => sc1_mono (Nat.le_succ _) (List.all_eq_true.1 hl v hv)) (by simp)
     (fun i hi => by rw [alloc_old _ _ _ hi]) ⟨by simp [Ren.ext],cs.map (ren1 ρ),t,by rw [show (ρ.ext H.length w.heap.size 0).φ H.length = w.heap.size from by simp [Ren.ext]]; exact alloc_new _ _,fun i v hi => ?_,by simp⟩ rfl rfl rfl
   have hv : sc1 H.length v = true := cells_sc hl hi
   rw [ren1_agree (Ren.ext_agree ρ _ _ _) hv]
   have : cs[i]? = some v := by simpa using hi
   rw [show (ρ.ext H.length w.heap.size 0).δ H.length = 0 from by simp [Ren.ext],Nat.zero_add]
   simp [this]
end Go.Pier
