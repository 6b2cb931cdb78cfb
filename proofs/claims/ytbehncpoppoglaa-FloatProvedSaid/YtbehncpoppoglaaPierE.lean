import Derived.Test.YtbehncpoppoglaaPierD
set_option linter.unusedSimpArgs false
set_option linter.unusedVariables false
namespace Go.Pier
open Go
variable {P : Program} {ρ : Ren} {H H' : Heap} {w : World} {env : Operand→Option Value} {ρC : Operand→Value}
def ptr (b : Nat) : Value := .pointer (some ⟨b,0,none⟩)
theorem ren_ptr (ρ : Ren) (b : Nat) : ren ρ (ptr b) = .pointer (some (ρ.addr ⟨b,0,none⟩)) := rfl
theorem sc_ptr {b n : Nat} (h : b < n) : sc n (ptr b) = true := by simp [ptr,sc,sc2,sc1,sc0,h]
theorem alloc_sound (R : Rel ρ H w) {t : TypeId} {z : Value} (hz : zeroT P t = some z) :
   ∃ ρ' w',(Instr.alloc t true (.tuple #[])).run P w = .ok (ren ρ' (ptr H.length)) w'∧Rel ρ' (H ++ [.rw z.cells.toList none]) w'∧Ext ρ H w ρ' (H ++ [.rw z.cells.toList none]) w' := by
 obtain ⟨h1,h2⟩ := run_zero (w := w) hz
 have hs := cells_sc1 h2
 obtain ⟨ρ',w',h3,h4,h5⟩ := newRow_sound (P := P) R t z.cells (all_mono (fun _ => sc1_mono (Nat.zero_le _)) _ hs)
 rw [map_id_all (fun _ => ren1_closed) _ hs] at h3
 exact ⟨ρ',w',by simp [Instr.alloc,h1,newVar,h3,ren_ptr],h4,h5⟩
theorem box_sound (R : Rel ρ H w) {t : TypeId} {v : Value} (hs : sc2 H.length v = true) :
   ∃ ρ' w',(Instr.box t (ren ρ v)).run P w = .ok (ren ρ' (ptr H.length)) w'∧Rel ρ' (H ++ [.rw v.cells.toList none]) w'∧Ext ρ H w ρ' (H ++ [.rw v.cells.toList none]) w' := by
 obtain ⟨ρ',w',h3,h4,h5⟩ := newRow_sound (P := P) R t v.cells (cells_sc1 hs)
 exact ⟨ρ',w',by simp [Instr.box,newVar,cells_ren hs,h3,ren_ptr],h4,h5⟩
theorem foldl_set_map (f : Value→Value) (off : Nat) : ∀ (l : List (Value × Nat)) (cs : Array Value),
   (l.foldl (fun a (p : Value × Nat) => a.setIfInBounds (off + p.2) p.1) cs).map f = (l.map fun p => (f p.1,p.2)).foldl (fun a (p : Value × Nat) => a.setIfInBounds (off + p.2) p.1) (cs.map f)
 | [],cs => rfl
 | p :: l,cs => by
   simp only [List.foldl_cons,List.map_cons]
   rw [foldl_set_map f off l]
   simp
theorem foldl_set_all {p : Value→Bool} (off : Nat) : ∀ (l : List (Value × Nat)) (cs : Array Value),cs.all p = true→(∀ x ∈ l,p x.1 = true) →
   (l.foldl (fun a (x : Value × Nat) => a.setIfInBounds (off + x.2) x.1) cs).all p = true
 | [],cs,h,_ => h
 | x :: l,cs,h,k => by
   simp only [List.foldl_cons]
   refine foldl_set_all off l _ ?_ (fun y hy => k y (List.mem_cons_of_mem _ hy))
   refine Array.all_eq_true'.2 fun v hv => ?_
   rcases Array.mem_or_eq_of_mem_setIfInBounds hv with h1 | h1
   · exact Array.all_eq_true'.1 h v h1
   · rw [h1]; exact k x List.mem_cons_self
theorem fill_ren {n : Nat} (place : Nat→Option (Nat × Nat)) : ∀ (parts : List (Nat × Value)) (cells : Array Value) (out : Array Value),(∀ p ∈ parts,sc2 n p.2 = true) →
   cells.all (sc1 n) = true→Instr.fill place cells parts = some out →
   Instr.fill place (cells.map (ren1 ρ)) (parts.map fun p => (p.1,ren ρ p.2)) = some (out.map (ren1 ρ))∧out.all (sc1 n) = true
 | [],cells,out,_,hc,h => by simp only [Instr.fill,Option.some.injEq] at h; subst h; exact ⟨rfl,hc⟩
 | (i,v) :: rest,cells,out,hp,hc,h => by
   have hv := hp (i,v) List.mem_cons_self
   simp only [Instr.fill] at h
   simp only [Instr.fill,List.map_cons]
   cases hpl : place i with
   | none => rw [hpl] at h; cases h
   | some q =>
     obtain ⟨off,size⟩ := q
     rw [hpl] at h
     simp only at h ⊢
     rw [cells_ren hv]
     simp only [Array.size_map]
     split at h
     · cases h
     · rename_i hno
       rw [if_neg hno]
       have hz : (v.cells.map (ren1 ρ)).zipIdx.toList = (v.cells.zipIdx.toList.map fun p => (ren1 ρ p.1,p.2)) := by
         simp [List.zipIdx_map]
       have e : (v.cells.map (ren1 ρ)).zipIdx.foldl (fun cs (x : Value × Nat) => cs.setIfInBounds (off + x.2) x.1) (cells.map (ren1 ρ)) =
           (v.cells.zipIdx.foldl (fun cs (x : Value × Nat) => cs.setIfInBounds (off + x.2) x.1) cells).map (ren1 ρ) := by
         rw [← Array.foldl_toList,← Array.foldl_toList,hz,foldl_set_map]
       have hall : (v.cells.zipIdx.foldl (fun cs (x : Value × Nat) => cs.setIfInBounds (off + x.2) x.1) cells).all (sc1 n) = true := by
         rw [← Array.foldl_toList]
         refine foldl_set_all off _ _ hc fun x hx => ?_
         obtain ⟨y,j⟩ := x
         have := cells_sc1 hv
         have hm : y ∈ v.cells := by
           simp [List.mem_zipIdx_iff_getElem?] at hx
           exact Array.mem_of_getElem? hx
         exact Array.all_eq_true'.1 this y hm
       have ih := fill_ren place rest _ out (fun p hpm => hp p (List.mem_cons_of_mem _ hpm)) hall h
       exact ⟨by rw [← ih.1,← e],ih.2⟩
def aPlaces (P : Program) : List Field→Option (List (Nat × Nat))
 | [] => some []
 | f :: r => (sizeT P f.type).bind fun s => (aPlaces P r).map ((f.offset,s) :: ·)
theorem aPlaces_sound : ∀ (fs : List Field) (l : List (Nat × Nat)),aPlaces P fs = some l →
   (fs.mapM fun f => Prod.mk f.offset <$> sizeOf f.type).run P w = .ok l w
 | [],l,h => by cases h; simp
 | f :: r,l,h => by
   simp only [aPlaces,Option.bind_eq_some_iff,Option.map_eq_some_iff] at h
   obtain ⟨s,h1,l',h2,rfl⟩ := h
   have := aPlaces_sound r l' h2
   simp [List.mapM_cons,run_sizeOf h1,this]
def aBuild (P : Program) (n : Nat) (t : TypeId) (parts : List (Nat × Value)) : Option Value :=
 (zeroT P t).bind fun z =>
   if parts.all (fun p => sc2 n p.2) = true then
     match P.underlying t with
     | some (.struct fields) => (aPlaces P fields.toList).bind fun places => (Instr.fill (places.toArray[·]?) z.cells parts).map .agg
     | some (.array _ elem) => (sizeT P elem).bind fun s => (Instr.fill (fun i => some (i * s,s)) z.cells parts).map .agg
     | _ => none
   else none
theorem aBuild_sound {n : Nat} {t : TypeId} {parts : List (Nat × Value)} {v : Value} (h : aBuild P n t parts = some v) :
   (Instr.build t (parts.map fun p => (p.1,ren ρ p.2)).toArray).run P w = .ok (ren ρ v) w∧sc n v = true := by
 simp only [aBuild,Option.bind_eq_some_iff] at h
 obtain ⟨z,hz,h⟩ := h
 obtain ⟨hz1,hz2⟩ := run_zero (w := w) hz
 split at h
 · rename_i hp
   have hp' : ∀ p ∈ parts,sc2 n p.2 = true := fun p hm => List.all_eq_true.1 hp p hm
   have hzc := cells_sc1 hz2
   have hzm : z.cells.map (ren1 ρ) = z.cells := map_id_all (fun _ => ren1_closed) _ hzc
   have hzn := all_mono (fun _ => sc1_mono (Nat.zero_le n)) _ hzc
   split at h
   · rename_i fields hu
     simp only [Option.bind_eq_some_iff,Option.map_eq_some_iff] at h
     obtain ⟨places,hpl,out,hf,rfl⟩ := h
     obtain ⟨k1,k2⟩ := fill_ren (ρ := ρ) _ parts _ out hp' hzn hf
     rw [hzm] at k1
     refine ⟨?_,k2⟩
     have hm : (fields.mapM fun f => (do pure (f.offset,← sizeOf f.type) : Sem (Nat × Nat))).run P w = .ok places.toArray w := by
       rw [Array.mapM_eq_mapM_toList]
       simp [aPlaces_sound (w := w) _ _ hpl]
     simp only [Instr.build,Sem.run_bind,hz1,Result.andThen_ok,run_underlying hu]
     rw [hm]
     simp only [Result.andThen_ok,k1]
     simp [ren,ren2]
   · rename_i len elem hu
     simp only [Option.bind_eq_some_iff,Option.map_eq_some_iff] at h
     obtain ⟨s,hs,out,hf,rfl⟩ := h
     obtain ⟨k1,k2⟩ := fill_ren (ρ := ρ) _ parts _ out hp' hzn hf
     rw [hzm] at k1
     refine ⟨?_,k2⟩
     simp only [Instr.build,Sem.run_bind,hz1,Result.andThen_ok,run_underlying hu,run_sizeOf hs,k1]
     simp [ren,ren2]
   · cases h
 · cases h
def zeroRow (z : Array Value) (n : Nat) : Array Value := (Array.range n).map (z[· % z.size]!)
theorem zeroRow_one {z : Array Value} {u : Value} (hz : z.toList = [u]) (n : Nat) : (zeroRow z n).toList = List.replicate n u := by
 have : z = #[u] := Array.toList_inj.1 hz
 subst this
 apply List.ext_getElem?
 intro i
 simp only [zeroRow,Array.toList_map,Array.toList_range,List.getElem?_map]
 rcases Nat.lt_or_ge i n with h | h
 · rw [List.getElem?_range h,List.getElem?_replicate,if_pos h]
   simp [Nat.mod_one]
 · rw [List.getElem?_eq_none (by simpa using h),List.getElem?_replicate,if_neg (by omega)]; rfl
def rowL (z : Array Value) (n : Nat) : List Value := match z.toList with
 | [u] => List.replicate n u
 | _ => (zeroRow z n).toList
theorem rowL_eq {z : Array Value} {n : Nat} : rowL z n = (zeroRow z n).toList := by
 unfold rowL
 split
 · rename_i u hu; rw [zeroRow_one hu]
 · rfl
theorem zeroRow_closed {z : Array Value} (h : z.all (sc1 0) = true) (n : Nat) : (zeroRow z n).all (sc1 0) = true := by
 refine Array.all_eq_true'.2 fun v hv => ?_
 simp only [zeroRow,Array.mem_map] at hv
 obtain ⟨i,_,rfl⟩ := hv
 rw [getElem!_def]
 cases hx : z[i % z.size]? with
 | none => rfl
 | some u => exact Array.all_eq_true'.1 h u (Array.mem_of_getElem? hx)
def aBuildSlice (P : Program) (H : Heap) (t : TypeId) (len : Nat) (parts : List (Nat × Value)) : Option (Value × Heap) :=
 match P.underlying t with
 | some (.slice elem) => (sizeT P elem).bind fun s =>
   if len * s≤16777216∧parts.all (fun p => sc2 H.length p.2) = true then
     (if len * s = 0 then some #[] else (zeroT P elem).map (·.cells)).bind fun z =>
       (Instr.fill (fun i => some (i * s,s)) (zeroRow z (len * s)) parts).map fun cells => (.slice (some ⟨H.length,0,none⟩) len len,H ++ [.rw cells.toList none])
   else none
 | _ => none
theorem ren_slice_new {ρ : Ren} {b n c : Nat} : ren ρ (.slice (some ⟨b,0,none⟩) n c) = .slice (some (ρ.addr ⟨b,0,none⟩)) n c := by
 simp [ren,ren2,ren1,ren0,Ren.cap,Ren.adr]
theorem sc_slice_new {b n c m : Nat} (h : b < m) : sc m (.slice (some ⟨b,0,none⟩) n c) = true := by simp [sc,sc2,sc1,sc0,h]
theorem buildSlice_sound (R : Rel ρ H w) {t : TypeId} {len : Nat} {parts : List (Nat × Value)} {v : Value} (h : aBuildSlice P H t len parts = some (v,H')) :
   ∃ ρ' w',(Instr.buildSlice t len (parts.map fun p => (p.1,ren ρ p.2)).toArray).run P w = .ok (ren ρ' v) w'∧Rel ρ' H' w'∧Ext ρ H w ρ' H' w'∧sc H'.length v = true := by
 unfold aBuildSlice at h
 split at h
 · rename_i elem hu
   simp only [Option.bind_eq_some_iff] at h
   obtain ⟨s,hs,h⟩ := h
   split at h
   · rename_i hc
     obtain ⟨hc1,hc3⟩ := hc
     simp only [Option.bind_eq_some_iff,Option.map_eq_some_iff] at h
     obtain ⟨z,hz,cells,hf,he⟩ := h
     cases he
     have hz' : z.all (sc1 0) = true∧((len * s = 0∧z = #[])∨(¬ len * s = 0∧∃ z',(zeroValue elem).run P w = .ok z' w∧z'.cells = z)) := by
       split at hz
       · cases hz; exact ⟨by simp,.inl ⟨‹_›,rfl⟩⟩
       · simp only [Option.map_eq_some_iff] at hz
         obtain ⟨z',hz',rfl⟩ := hz
         obtain ⟨a1,a2⟩ := run_zero (w := w) hz'
         exact ⟨cells_sc1 a2,.inr ⟨‹_›,z',a1,rfl⟩⟩
     have hzr := zeroRow_closed hz'.1 (len * s)
     obtain ⟨k1,k2⟩ := fill_ren (ρ := ρ) (n := H.length) _ parts _ cells (fun p hm => List.all_eq_true.1 hc3 p hm) (all_mono (fun _ => sc1_mono (Nat.zero_le _)) _ hzr) hf
     rw [map_id_all (fun _ => ren1_closed) _ hzr] at k1
     obtain ⟨ρ',w',r1,r2,r3⟩ := newRow_sound (P := P) R elem cells k2
     refine ⟨ρ',w',?_,r2,r3,sc_slice_new (by simp)⟩
     simp only [Instr.buildSlice,Sem.run_bind,run_underlying hu,Result.andThen_ok,run_sizeOf hs]
     rw [if_neg (by omega)]
     have k1' : Instr.fill (fun i => some (i * s,s)) ((Array.range (len * s)).map (z[· % z.size]!)) (parts.map fun p => (p.1,ren ρ p.2)) = some (cells.map (ren1 ρ)) := k1
     rcases hz'.2 with ⟨h0,h1⟩ | ⟨h0,z',h1,h2⟩
     · rw [if_pos h0]
       subst h1
       simp only [Sem.run_bind,Sem.run_pure,Result.andThen_ok,k1']
       simp [r1,ren_slice_new]
     · rw [if_neg h0]
       subst h2
       simp only [Sem.run_bind,Sem.run_pure,Result.andThen_ok,h1,k1']
       simp [r1,ren_slice_new]
   · cases h
 · cases h
end Go.Pier
