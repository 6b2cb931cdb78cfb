import Derived.Test.YtbehncpoppoglaaPierF
set_option linter.unusedSimpArgs false
set_option linter.unusedVariables false
namespace Go.Pier
open Go
variable {P : Program} {ρ : Ren} {H H' : Heap} {w : World} {env : Operand→Option Value} {ρC : Operand→Value}
def aMakeSlice (P : Program) (H : Heap) (t : TypeId) (lv cv : Value) : Option (Value × Heap) :=
 match P.underlying t,lv,cv with
 | some (.slice elem),.int _ len,.int _ cap =>
   (sizeT P elem).bind fun s => (bytesT P elem).bind fun bytes =>
   let l := IntKind.i64.wrap len
   let c := IntKind.i64.wrap cap
   if (c < 0 || (bytes : Int) * c > 281474976710656 || l < 0 || l > c) = true then none else
   (if c.toNat * s = 0 then some #[] else (zeroT P elem).map (·.cells)).map fun z =>
     (.slice (some ⟨H.length,0,none⟩) l.toNat c.toNat,H ++ [.rw (rowL z (c.toNat * s)) none])
 | _,_,_ => none
theorem makeSlice_sound (R : Rel ρ H w) {t : TypeId} {lv cv v : Value} (h : aMakeSlice P H t lv cv = some (v,H')) :
   ∃ ρ' w',(Instr.makeSlice t (ren ρ lv) (ren ρ cv)).run P w = .ok (ren ρ' v) w'∧Rel ρ' H' w'∧Ext ρ H w ρ' H' w'∧sc H'.length v = true := by
 unfold aMakeSlice at h
 split at h
 · rename_i elem k len k' cap hu
   simp only [Option.bind_eq_some_iff] at h
   obtain ⟨s,hs,bytes,hb,h⟩ := h
   split at h
   · cases h
   · rename_i hc
     simp only [Option.map_eq_some_iff] at h
     obtain ⟨z,hz,he⟩ := h
     simp only [rowL_eq] at he
     cases he
     simp only [bytesT,Option.map_eq_some_iff] at hb
     obtain ⟨i,hi,rfl⟩ := hb
     have hz' : z.all (sc1 0) = true∧(((IntKind.i64.wrap cap).toNat * s = 0∧z = #[])∨(¬ (IntKind.i64.wrap cap).toNat * s = 0∧∃ z',(zeroValue elem).run P w = .ok z' w∧z'.cells = z)) := by
       split at hz
       · cases hz; exact ⟨by simp,.inl ⟨‹_›,rfl⟩⟩
       · simp only [Option.map_eq_some_iff] at hz
         obtain ⟨z',hz',rfl⟩ := hz
         obtain ⟨a1,a2⟩ := run_zero (w := w) hz'
         exact ⟨cells_sc1 a2,.inr ⟨‹_›,z',a1,rfl⟩⟩
     have hzr := zeroRow_closed hz'.1 ((IntKind.i64.wrap cap).toNat * s)
     obtain ⟨ρ',w',r1,r2,r3⟩ := newRow_sound (P := P) R elem _ (all_mono (fun _ => sc1_mono (Nat.zero_le H.length)) _ hzr)
     rw [map_id_all (fun _ => ren1_closed) _ hzr] at r1
     refine ⟨ρ',w',?_,r2,r3,sc_slice_new (by simp)⟩
     have r1' : (newRow elem ((Array.range ((IntKind.i64.wrap cap).toNat * s)).map (z[· % z.size]!))).run P w = .ok (ρ'.addr ⟨H.length,0,none⟩) w' := r1
     simp only [Instr.makeSlice,Sem.run_bind,run_underlying hu,Result.andThen_ok,ren,ren2,ren1,ren0,asInt,asIntOf,Sem.run_pure,run_typeInfo hi]
     simp only [Bool.or_assoc,Bool.or_eq_true,decide_eq_true_eq,not_or,Int.not_lt] at hc
     rw [if_neg (by simp only [Bool.or_assoc,Bool.or_eq_true,decide_eq_true_eq,not_or,Int.not_lt]; exact ⟨hc.1,hc.2.1,hc.2.2.1,hc.2.2.2⟩)]
     simp only [Sem.run_bind,run_askRoom,Result.andThen_ok,run_sizeOf hs]
     rcases hz'.2 with ⟨h0,h1⟩ | ⟨h0,z',h1,h2⟩
     · rw [if_pos h0]
       subst h1
       simp only [Sem.run_bind,Sem.run_pure,Result.andThen_ok,r1']
       rfl
     · rw [if_neg h0]
       subst h2
       simp only [Sem.run_bind,Sem.run_pure,Result.andThen_ok,h1,r1']
       rfl
 · cases h
theorem growBy_le (n : Nat) : ∀ (r c : Nat),c≤2 * n + 256→Builtin.growBy n r c≤2 * n + 256
 | 0,c,h => h
 | r + 1,c,h => by
   unfold Builtin.growBy
   split
   · exact h
   · exact growBy_le n r _ (by omega)
theorem nextslicecap_le {n c : Nat} (h : ¬ n≤c) : Builtin.nextslicecap n c≤2 * n + 256 := by
 unfold Builtin.nextslicecap
 split
 · omega
 · split
   · omega
   · exact growBy_le n 4 c (by omega)
theorem run_append {t0 t1 elem e1 : TypeId} {i : TypeInfo} {z x : Value} {bs : Option Addr} {sLen sCap n xc : Nat} {xb : Option Addr} {new : Array Value} (ty : TypeId) (tys : Array TypeId)
   (h0 : tys[0]? = some t0) (h1 : tys[1]? = some t1) (hu0 : P.underlying t0 = some (.slice elem)) (hu1 : P.underlying t1 = some (.slice e1)) (hi : P.info? elem = some i) (hz : i.zero = some z)
   (hx : x = .slice xb n xc) (hnew : ∀ W,W = w∨W = w.drew→(Builtin.firstCells i.size n x).run P W = .ok new W)
   (hn : sLen + n≤1099511627776) (hb : (2 * (sLen + n) + 256) * i.bytes≤281474976710656) :
   (sLen + n≤sCap→(Builtin.append_ tys ty #[.slice bs sLen sCap,x]).run P w =
     ((match bs with | some a => storeCells (a.add (sLen * i.size)) new.toList | none => pure () : Sem Unit).run P w).andThen fun _ w' => .ok (.slice bs (sLen + n) sCap) w') ∧
   (¬ sLen + n≤sCap→∀ old,(Builtin.firstCells i.size sLen (.slice bs sLen sCap)).run P w.drew = .ok old w.drew→∃ k,(Builtin.append_ tys ty #[.slice bs sLen sCap,x]).run P w =
     ((newRow elem (old ++ new ++ Builtin.zeroCells z.cells k)).run P w.drew).andThen fun a w' => .ok (.slice (some a) (sLen + n) (sLen + n + k)) w') := by
 subst hx
 have hs : (sizeOf elem).run P w = .ok i.size w := run_sizeOf (by simp [sizeT,hi])
 have hnw := hnew w (.inl rfl)
 have hnd := hnew w.drew (.inr rfl)
 constructor
 · intro hc
   simp only [Builtin.append_,h0,h1,List.getElem?_toArray,List.getElem?_cons_zero,List.getElem?_cons_succ,Sem.run_bind,run_underlying hu0,run_underlying hu1,Result.andThen_ok,hs,Sem.run_pure]
   simp only [Bool.false_eq_true,↓reduceIte,Builtin.lenOf,Sem.run_bind,Sem.run_pure,Result.andThen_ok,if_pos hc,Bool.not_false,hnw]
   cases bs <;> simp
 · intro hc old hold
   refine ⟨w.tape w.drawn (.appendCap (sLen + n) sCap elem) % (2 ^ 63 - (sLen + n)),?_⟩
   have hcap := nextslicecap_le hc
   have hcap2 : ¬ Builtin.nextslicecap (sLen + n) sCap * i.bytes > 2 ^ 48 := by
     have := Nat.mul_le_mul_right i.bytes hcap
     have e : (2 : Nat) ^ 48 = 281474976710656 := by decide
     omega
   have hmax : ¬ (((sLen + n : Nat) : Int) > IntKind.i64.max∧(False∨i.bytes = 0)) := by
     have e : IntKind.i64.max = 9223372036854775807 := by decide
     omega
   have hz' : (zeroValue elem).run P w.drew = .ok z w.drew := by simp [zeroValue,run_typeInfo hi,hz]
   have ht : ∀ W : World,(typeInfo elem).run P W = .ok i W := fun W => run_typeInfo hi
   simp only [Builtin.append_,h0,h1,List.getElem?_toArray,List.getElem?_cons_zero,List.getElem?_cons_succ,Sem.run_bind,run_underlying hu0,run_underlying hu1,Result.andThen_ok,hs,Sem.run_pure]
   simp only [Bool.false_eq_true,↓reduceIte,Builtin.lenOf,Sem.run_bind,Sem.run_pure,Result.andThen_ok,if_neg hc,Bool.not_false,ht,if_neg hmax,if_neg hcap2]
   simp only [run_choose,Question.forced,Bool.false_eq_true,↓reduceIte,World.drew_eq,Result.andThen_ok,run_askRoom,hold,hnd,hz',Question.cut]
   rw [show sLen + n + w.tape w.drawn (.appendCap (sLen + n) sCap elem) % (2 ^ 63 - (sLen + n)) - (sLen + n) = w.tape w.drawn (.appendCap (sLen + n) sCap elem) % (2 ^ 63 - (sLen + n)) from by omega]
theorem newRowOpen_sound (R : Rel ρ H w) (t : TypeId) (cs : List Value) (rest : Array Value) (s need k : Nat) (hs : cs.all (sc1 H.length) = true) (hl : cs.length = need * s) (hr : rest.size = k * s) :
   ∃ ρ' w',(newRow t ((cs.map (ren1 ρ)).toArray ++ rest)).run P w = .ok (ρ'.addr ⟨H.length,0,none⟩) w'∧Rel ρ' (H ++ [.rw cs (some s)]) w'∧Ext ρ H w ρ' (H ++ [.rw cs (some s)]) w'∧ρ'.κ H.length = need + k := by
 refine ⟨ρ.ext H.length w.heap.size (need + k),w.alloc (.cells ((cs.map (ren1 ρ)).toArray ++ rest) t),?_,?_⟩
 · simp [newRow,Ren.addr,Ren.ext]
 · have e1 : (ρ.ext H.length w.heap.size (need + k)).φ H.length = w.heap.size := by simp [Ren.ext]
   have e2 : (ρ.ext H.length w.heap.size (need + k)).κ H.length = need + k := by simp [Ren.ext]
   have e3 : (ρ.ext H.length w.heap.size (need + k)).δ H.length = 0 := by simp [Ren.ext]
   have := R.push (w' := w.alloc (.cells ((cs.map (ren1 ρ)).toArray ++ rest) t)) (.rw cs (some s)) (need + k) rfl
     (List.all_eq_true.2 fun v hv => sc1_mono (Nat.le_succ _) (List.all_eq_true.1 hs v hv)) (by simp)
     (fun i hi => by rw [alloc_old _ _ _ hi])
     ⟨fun _ => e3,(cs.map (ren1 ρ)).toArray ++ rest,t,by rw [e1]; exact alloc_new _ _,fun i v hi => ?_,by rw [e2,e3]; simp [hl,hr,Nat.add_mul]⟩ rfl rfl rfl
   · exact ⟨this.1,this.2,e2⟩
   · rw [e3,Nat.zero_add]
     have hlt := (List.getElem?_eq_some_iff.1 hi).1
     have hv : sc1 H.length v = true := cells_sc hs hi
     rw [ren1_agree (Ren.ext_agree ρ _ _ _) hv,Array.getElem?_append_left (by simpa using hlt)]
     simp [hi]
theorem storeOpen_sound (R : Rel ρ H w) {b s sLen k0 : Nat} {cs new : List Value} (hb : H[b]? = some (.rw cs (some s))) (hl : cs.length = (k0 + sLen) * s) (hpos : 0 < s) (hnew : new.all (sc1 H.length) = true) (hfit : cs.length + new.length≤ρ.κ b * s) :
   ∃ ρ' w',(storeCells (ρ.addr ⟨b,cs.length,none⟩) (new.map (ren1 ρ))).run P w = .ok () w'∧Rel ρ' (H.set b .gone ++ [.rw (cs.drop (k0 * s) ++ new) (some s)]) w' ∧
     Ext ρ H w ρ' (H.set b .gone ++ [.rw (cs.drop (k0 * s) ++ new) (some s)]) w'∧ρ'.κ H.length = ρ.κ b - k0∧ρ'.φ H.length = ρ.φ b∧ρ'.δ H.length = ρ.δ b + k0 * s := by
 obtain ⟨_,cs',t,h3,h4,h5⟩ := R.obj _ _ hb
 have hk : k0 * s≤cs.length := by rw [hl,Nat.add_mul]; omega
 have hk0 : k0≤ρ.κ b := Nat.le_of_mul_le_mul_right (show k0 * s≤ρ.κ b * s by omega) hpos
 have hmul : (ρ.κ b - k0) * s = ρ.κ b * s - k0 * s := Nat.sub_mul ..
 have hle : k0 * s≤ρ.κ b * s := Nat.mul_le_mul_right _ hk0
 obtain ⟨w',k1,k2,k3,k4,k5,k6,k7⟩ := run_storeCells (P := P) (new.map (ren1 ρ)) w (ρ.φ b) (ρ.δ b + cs.length) 0 cs' t h3 (by simp; omega) (all_map_oneCell hnew)
 have hwr : wr H b = true := by rw [wr_of_get hb]; rfl
 have hcs := R.scp _ _ hb
 have hall : (cs.drop (k0 * s) ++ new).all (sc1 H.length) = true := by
   rw [List.all_append,hnew,Bool.and_true]
   exact List.all_eq_true.2 fun v hv => List.all_eq_true.1 hcs v (List.mem_of_mem_drop hv)
 have e1 : (ρ.bind H.length (ρ.φ b) (ρ.δ b + k0 * s) (ρ.κ b - k0)).φ H.length = ρ.φ b := by simp [Ren.bind]
 have e2 : (ρ.bind H.length (ρ.φ b) (ρ.δ b + k0 * s) (ρ.κ b - k0)).κ H.length = ρ.κ b - k0 := by simp [Ren.bind]
 have e3 : (ρ.bind H.length (ρ.φ b) (ρ.δ b + k0 * s) (ρ.κ b - k0)).δ H.length = ρ.δ b + k0 * s := by simp [Ren.bind]
 have := R.moved (w' := w') hwr (.rw (cs.drop (k0 * s) ++ new) (some s)) (ρ.κ b - k0) (ρ.δ b + k0 * s) rfl (List.all_eq_true.2 fun v hv => sc1_mono (Nat.le_succ _) (List.all_eq_true.1 hall v hv)) k4 k3
   ⟨fun h => (by cases h),_,t,by rw [e1]; simpa using k2,fun i v hi => ?_,by rw [e2,e3]; refine ⟨by rw [putA_size,hmul]; have := h5.1; omega,?_⟩; rw [hmul,List.length_append,List.length_drop]; omega⟩ k5 k6 k7
 · exact ⟨_,w',k1,this.1,this.2,e2,e1,e3⟩
 · have hv : sc1 H.length v = true := cells_sc hall hi
   rw [ren1_agree (Ren.bind_agree ρ _ _ _ _) hv,e3]
   have h6 : (cs ++ new)[k0 * s + i]? = some v := by
     rw [← hi,← List.drop_append_of_le_length hk,List.getElem?_drop]
   have := putA_end (ren1 ρ) (ρ.δ b) new cs' cs h4 (by have := h5.1; omega) (k0 * s + i) v h6
   rw [Nat.add_assoc]
   simpa using this
def aFirst (H : Heap) (size n : Nat) (x : Value) : Option (List Value) :=
 match x with
 | .slice (some a) _ c => match n * size with
   | 0 => some []
   | k + 1 => if std a c = true then aloadFrom H (base a) 0 (k + 1) else none
 | .slice none _ _ => some []
 | _ => none
theorem aFirst_sound (R : Rel ρ H w) {size n : Nat} {x : Value} {l : List Value} (h : aFirst H size n x = some l) :
   (Builtin.firstCells size n (ren ρ x)).run P w = .ok (l.map (ren1 ρ)).toArray w∧l.all (sc1 H.length) = true := by
 unfold aFirst at h
 split at h
 · rename_i a len cap
   split at h
   · rename_i hz
     cases h
     refine ⟨?_,rfl⟩
     simp only [ren,ren2,ren1,ren0,Builtin.firstCells,loadCells,hz]
     simp [loadCellsFrom]
   · rename_i k hk
     split at h <;> try (cases h; done)
     rename_i hstd
     obtain ⟨h1,h2,_⟩ := aloadFrom_sound (P := P) R (base a) (k + 1) 0 l #[] h
     refine ⟨?_,h2⟩
     simp only [ren,ren2,ren1,ren0,Builtin.firstCells,loadCells,adr_std hstd,hk]
     rw [← addr_base,h1]
     simp
 · cases h
   exact ⟨by simp [ren,ren2,ren1,ren0,Builtin.firstCells],rfl⟩
 · cases h
def aAppend (P : Program) (H : Heap) (tys : Array TypeId) (s x : Value) : Option (Value × Heap) :=
 match tys[0]?,tys[1]? with
 | some t0,some t1 => match P.underlying t0,P.underlying t1,s,x with
   | some (.slice elem),some (.slice _),.slice bs sLen sCap,.slice xb n xc =>
     (P.info? elem).bind fun i => (zeroT P elem).bind fun z => (aFirst H i.size n (.slice xb n xc)).bind fun new =>
     if sLen + n≤1099511627776∧(2 * (sLen + n) + 256) * i.bytes≤281474976710656∧z.cells.size = i.size∧new.length = n * i.size then
       match bs with
       | none =>
         if sLen + n≤sCap then some (.slice none (sLen + n) sCap,H)
         else if sLen = 0 then some (.slice (some ⟨H.length,0,some 0⟩) (sLen + n) 0,H ++ [.rw new (some i.size)]) else none
       | some a => match a.spot with
         | none =>
           if sLen + n≤sCap then (astore H ((base a).add (sLen * i.size)) new).map fun H' => (.slice bs (sLen + n) sCap,H')
           else (aFirst H i.size sLen s).bind fun old => if old.length = sLen * i.size then
             some (.slice (some ⟨H.length,0,some 0⟩) (sLen + n) 0,H ++ [.rw (old ++ new) (some i.size)]) else none
         | some k => match H[a.block]? with
           | some (.rw cs (some s')) => if k = 0 ∧ a.off = 0 ∧ s' = i.size ∧ cs.length = sLen * i.size ∧ 0 < i.size ∧ sCap = 0 then
               some (.slice (some ⟨H.length,0,some 0⟩) (sLen + n) 0,H.set a.block .gone ++ [.rw (cs ++ new) (some i.size)])
             else if k = 0∧a.off = 0∧s' = i.size∧(sLen + n) * i.size≤cs.length∧0 < i.size∧sCap = 0 then (astore H ⟨a.block,sLen * i.size,none⟩ new).map fun H' => (.slice (some a) (sLen + n) sCap,H')
             else if a.off = k * i.size∧s' = i.size∧cs.length = (k + sLen) * i.size∧0 < i.size∧sCap = 0 then
               some (.slice (some ⟨H.length,0,some 0⟩) (sLen + n) 0,H.set a.block .gone ++ [.rw (cs.drop (k * i.size) ++ new) (some i.size)])
             else none
           | some .gone => if sLen = 0∧0 < sCap∧0 < n then some (.slice (some ⟨H.length,0,some 0⟩) (sLen + n) 0,H ++ [.rw new (some i.size)]) else none
           | _ => none
     else none
   | _,_,_,_ => none
 | _,_ => none
theorem ren_slice_open {ρ : Ren} {b n k : Nat} (h : ρ.κ b = k) : ren ρ (.slice (some ⟨b,0,some 0⟩) n 0) = .slice (some (ρ.addr ⟨b,0,none⟩)) n k := by
 rw [ren_slice_some (k := 0) rfl]
 show Value.slice (some (ρ.addr ⟨b,0,none⟩)) n (ρ.κ b - 0) = _
 rw [h]; rfl
theorem sc_slice_lt {n : Nat} {a : Addr} {l c : Nat} (h : a.block < n) : sc n (.slice (some a) l c) = true := by rw [sc_slice]; simpa using h
theorem drewExt {ρ' : Ren} {w' : World} (h : Ext ρ H w.drew ρ' H' w') : Ext ρ H w ρ' H' w' := Ext.drew.trans h
theorem aloadFrom_rw {a : Addr} {cs : List Value} {r : Option Nat} (hb : H[a.block]? = some (.rw cs r)) : ∀ (n i : Nat),a.off + i + n≤cs.length →
   aloadFrom H (base a) i n = some ((cs.drop (a.off + i)).take n)
 | 0,i,_ => by simp [aloadFrom]
 | n + 1,i,h => by
   have hlt : a.off + i < cs.length := by omega
   have e : aload H ((base a).add i) = some cs[a.off + i] := by
     have e1 : (base a).add i = ⟨a.block,a.off + i,none⟩ := by unfold Addr.add base; split <;> simp_all
     rw [e1]
     simp [aload,hb,hlt]
   simp only [aloadFrom,e,Option.bind_some]
   rw [aloadFrom_rw hb n (i + 1) (by omega)]
   simp only [Option.map_some]
   rw [List.drop_eq_getElem_cons hlt,List.take_succ_cons]
   rfl
theorem Ext.forget (ρ : Ren) (H : Heap) (w : World) (b : Nat) : Ext ρ H w ρ (H.set b .gone) w :=
 ⟨by simp,fun _ _ => ⟨rfl,rfl,rfl⟩,Nat.le_refl _,fun _ _ _ => rfl,fun c hc => .inl (wr_forget hc).1,fun c hc => .inl (isRo_forget hc),fun c hc => isMix_forget hc,rfl,rfl,rfl⟩
theorem append_sound (R : Rel ρ H w) {tys : Array TypeId} {s x v : Value} (ty : TypeId) (h : aAppend P H tys s x = some (v,H')) (hs : sc H.length s = true) :
   ∃ ρ' w',(Builtin.append_ tys ty #[ren ρ s,ren ρ x]).run P w = .ok (ren ρ' v) w'∧Rel ρ' H' w'∧Ext ρ H w ρ' H' w'∧sc H'.length v = true := by
 unfold aAppend at h
 split at h <;> try (cases h; done)
 rename_i t0 t1 h0 h1
 split at h <;> try (cases h; done)
 rename_i elem e1 bs sLen sCap xb n xc hu0 hu1
 simp only [Option.bind_eq_some_iff] at h
 obtain ⟨i,hi,z,hz,new,hnew,h⟩ := h
 split at h <;> try (cases h; done)
 rename_i hc
 obtain ⟨hc1,hc2,hc3,hc4⟩ := hc
 have hiz : i.zero = some z := by
   simp only [zeroT,hi,Option.bind_some,Option.bind_eq_some_iff] at hz
   obtain ⟨z',h1,h2⟩ := hz
   split at h2
   · cases h2; exact h1
   · cases h2
 have hzs : ∀ k,(Builtin.zeroCells z.cells k).size = k * i.size := fun k => by simp [Builtin.zeroCells,hc3]
 obtain ⟨n1,n2⟩ := aFirst_sound (P := P) R hnew
 obtain ⟨n1',_⟩ := aFirst_sound (P := P) R.drew hnew
 obtain ⟨xb',xc',hx⟩ : ∃ xb' xc',ren ρ (.slice xb n xc) = .slice xb' n xc' := by
   cases xb with
   | none => exact ⟨none,xc,rfl⟩
   | some a => exact ⟨_,_,rfl⟩
 have hnw : ∀ W,W = w∨W = w.drew→(Builtin.firstCells i.size n (ren ρ (.slice xb n xc))).run P W = .ok (new.map (ren1 ρ)).toArray W := fun W hW => by
   rcases hW with rfl | rfl
   · exact n1
   · exact n1'
 cases bs with
 | none =>
   have e0 : ren ρ (.slice none sLen sCap) = .slice none sLen sCap := rfl
   simp only at h
   obtain ⟨ra,rb⟩ := run_append (bs := none) (sCap := sCap) ty tys h0 h1 hu0 hu1 hi hiz hx hnw hc1 hc2
   split at h
   · rename_i hle
     cases h
     refine ⟨ρ,w,?_,R,Ext.refl _ _ _,rfl⟩
     rw [e0,ra hle]; rfl
   · rename_i hle
     split at h
     · rename_i hsl
       cases h
       obtain ⟨k,hk⟩ := rb hle #[] (by simp [Builtin.firstCells])
       obtain ⟨ρ',w',r1,r2,r3,r4⟩ := newRowOpen_sound (P := P) R.drew elem new (Builtin.zeroCells z.cells k) i.size (sLen + n) k n2 (by rw [hc4,hsl]; simp) (hzs k)
       refine ⟨ρ',w',?_,r2,drewExt r3,sc_slice_lt (by simp)⟩
       rw [e0,hk]
       simp only [Array.empty_append,r1,Result.andThen_ok]
       rw [ren_slice_open r4]
     · cases h
 | some a =>
   simp only at h
   split at h
   · rename_i hsp
     have e0 : ren ρ (.slice (some a) sLen sCap) = .slice (some (ρ.addr a)) sLen sCap := ren_slice_none hsp
     split at h
     · rename_i hle
       simp only [Option.map_eq_some_iff] at h
       obtain ⟨H1,hst,he⟩ := h
       cases he
       obtain ⟨w',s1,s2,s3⟩ := astore_sound (P := P) R hst
       obtain ⟨ra,_⟩ := run_append (bs := some (ρ.addr a)) (sCap := sCap) ty tys h0 h1 hu0 hu1 hi hiz hx hnw hc1 hc2
       refine ⟨ρ,w',?_,s2,s3,sc_mono s3.len (by rw [sc_slice]; exact hs)⟩
       rw [e0,ra hle]
       have ea : (ρ.addr a).add (sLen * i.size) = ρ.addr ((base a).add (sLen * i.size)) := by rw [← addr_add,addr_base]
       simp only [ea,s1,Result.andThen_ok]
       rw [ren_slice_none hsp]
     · rename_i hle
       simp only [Option.bind_eq_some_iff] at h
       obtain ⟨old,hold,h⟩ := h
       split at h
       · rename_i hol
         cases h
         obtain ⟨o1,o2⟩ := aFirst_sound (P := P) R.drew hold
         rw [e0] at o1
         obtain ⟨_,rb⟩ := run_append (bs := some (ρ.addr a)) (sCap := sCap) ty tys h0 h1 hu0 hu1 hi hiz hx hnw hc1 hc2
         obtain ⟨k,hk⟩ := rb hle _ o1
         obtain ⟨ρ',w',r1,r2,r3,r4⟩ := newRowOpen_sound (P := P) R.drew elem (old ++ new) (Builtin.zeroCells z.cells k) i.size (sLen + n) k (by rw [List.all_append,o2,n2]; rfl) (by rw [List.length_append,hol,hc4,Nat.add_mul]) (hzs k)
         refine ⟨ρ',w',?_,r2,drewExt r3,sc_slice_lt (by simp)⟩
         rw [e0,hk]
         have e3 : (old.map (ren1 ρ)).toArray ++ (new.map (ren1 ρ)).toArray = ((old ++ new).map (ren1 ρ)).toArray := by simp
         rw [e3,r1]
         simp only [Result.andThen_ok]
         rw [ren_slice_open r4]
       · cases h
   · rename_i k hsp
     split at h <;> try (cases h; done)
     rename_i cs s' hb
     have gen : sCap = 0 → a.off = k * i.size → s' = i.size → cs.length = (k + sLen) * i.size → 0 < i.size →
         ∃ ρ' w',(Builtin.append_ tys ty #[ren ρ (.slice (some a) sLen sCap),ren ρ (.slice xb n xc)]).run P w = .ok (ren ρ' (.slice (some ⟨H.length,0,some 0⟩) (sLen + n) 0)) w' ∧
           Rel ρ' (H.set a.block .gone ++ [AObj.rw (cs.drop (k * i.size) ++ new) (some i.size)]) w'∧Ext ρ H w ρ' (H.set a.block .gone ++ [AObj.rw (cs.drop (k * i.size) ++ new) (some i.size)]) w' ∧
           sc (H.set a.block .gone ++ [AObj.rw (cs.drop (k * i.size) ++ new) (some i.size)]).length (.slice (some ⟨H.length,0,some 0⟩) (sLen + n) 0) = true := by
       rintro rfl hoff rfl hlen hpos
       have e0 : ren ρ (.slice (some a) sLen 0) = .slice (some (ρ.addr a)) sLen (ρ.κ a.block - k) := ren_slice_some hsp
       have hblt : a.block < H.length := (List.getElem?_eq_some_iff.1 hb).1
       have hdl : (cs.drop (k * i.size)).length = sLen * i.size := by rw [List.length_drop,hlen,Nat.add_mul]; omega
       have hold : aFirst H i.size sLen (.slice (some a) sLen 0) = some (cs.drop (k * i.size)) := by
         have hf : aFirst H i.size sLen (.slice (some a) sLen 0) = aloadFrom H (base a) 0 (sLen * i.size) := by
           unfold aFirst
           simp only
           split
           · rename_i hz; rw [hz]; rfl
           · rename_i k hk; rw [if_pos (by simp [std,hsp]),hk]
         rw [hf]
         rw [aloadFrom_rw hb (sLen * i.size) 0 (by rw [hlen,hoff,Nat.add_mul]; omega)]
         rw [hoff,Nat.add_zero,List.take_of_length_le (by omega)]
       obtain ⟨o1,o2⟩ := aFirst_sound (P := P) R.drew hold
       rw [e0] at o1
       obtain ⟨_,_,_,_,_,g3,g4⟩ := R.obj _ _ hb
       have hkk : k≤ρ.κ a.block := Nat.le_of_mul_le_mul_right (show k * i.size≤ρ.κ a.block * i.size by rw [hlen,Nat.add_mul] at g4; omega) hpos
       obtain ⟨ra,rb⟩ := run_append (bs := some (ρ.addr a)) (sCap := ρ.κ a.block - k) ty tys h0 h1 hu0 hu1 hi hiz hx hnw hc1 hc2
       by_cases hle : sLen + n≤ρ.κ a.block - k
       · have hfit : cs.length + new.length ≤ ρ.κ a.block * i.size := by
           rw [hlen,hc4,← Nat.add_mul]; exact Nat.mul_le_mul_right _ (by omega)
         obtain ⟨ρ',w',s1,s2,s3,s4,s5,s6⟩ := storeOpen_sound (P := P) R hb hlen hpos n2 hfit
         refine ⟨ρ',w',?_,s2,s3,sc_slice_lt (by simp)⟩
         rw [e0,ra hle]
         have ea : (ρ.addr a).add (sLen * i.size) = ρ.addr ⟨a.block,cs.length,none⟩ := by
           rw [hlen]
           simp only [Ren.addr,hoff,Addr.add,Nat.add_mul]
           split <;> simp_all [Nat.add_assoc]
         simp only [ea,s1,Result.andThen_ok]
         rw [ren_slice_open s4]
         have eb : ρ'.addr ⟨H.length,0,none⟩ = ρ.addr a := by simp [Ren.addr,s5,s6,hoff]
         rw [eb]
       · obtain ⟨k',hk⟩ := rb hle _ o1
         have Rf := R.drew.forget a.block
         have hL : (H.set a.block .gone).length = H.length := by simp
         obtain ⟨ρ',w',r1,r2,r3,r4⟩ := newRowOpen_sound (P := P) Rf elem (cs.drop (k * i.size) ++ new) (Builtin.zeroCells z.cells k') i.size (sLen + n) k' (by rw [hL,List.all_append,o2,n2]; rfl) (by rw [List.length_append,hdl,hc4,Nat.add_mul]) (hzs k')
         rw [hL] at r1 r4
         refine ⟨ρ',w',?_,r2,?_,sc_slice_lt (by simp)⟩
         · rw [e0,hk]
           have e3 : ((cs.drop (k * i.size)).map (ren1 ρ)).toArray ++ (new.map (ren1 ρ)).toArray = ((cs.drop (k * i.size) ++ new).map (ren1 ρ)).toArray := by simp
           rw [e3,r1]
           simp only [Result.andThen_ok]
           rw [ren_slice_open r4]
         · exact (Ext.drew.trans (Ext.forget ρ H w.drew a.block)).trans r3
     split at h
     · rename_i hcc
       obtain ⟨hk,hoff,hs',hlen,hpos,hcap⟩ := hcc
       cases h
       have := gen hcap (by rw [hk,Nat.zero_mul]; exact hoff) hs' (by rw [hk,Nat.zero_add]; exact hlen) hpos
       rw [hk,Nat.zero_mul,List.drop_zero] at this
       exact this
     split at h
     · rename_i hcc
       obtain ⟨rfl,hoff,rfl,hlen,hpos,rfl⟩ := hcc
       simp only [Option.map_eq_some_iff] at h
       obtain ⟨H1,hst,he⟩ := h
       cases he
       obtain ⟨w',s1,s2,s3⟩ := astore_sound (P := P) R hst
       have e0 : ren ρ (.slice (some a) sLen 0) = .slice (some (ρ.addr a)) sLen (ρ.κ a.block) := by rw [ren_slice_some hsp]; rfl
       obtain ⟨g0,cs',gt,g1,g2,g3,g4⟩ := R.obj _ _ hb
       have hle : sLen + n≤ρ.κ a.block := by
         have h1 : (sLen + n) * i.size≤ρ.κ a.block * i.size := by omega
         exact Nat.le_of_mul_le_mul_right h1 hpos
       obtain ⟨ra,_⟩ := run_append (bs := some (ρ.addr a)) (sCap := ρ.κ a.block) ty tys h0 h1 hu0 hu1 hi hiz hx hnw hc1 hc2
       refine ⟨ρ,w',?_,s2,s3,sc_mono s3.len (by rw [sc_slice]; exact hs)⟩
       rw [e0,ra hle]
       have ea : (ρ.addr a).add (sLen * i.size) = ρ.addr ⟨a.block,sLen * i.size,none⟩ := by
         simp only [Ren.addr,hoff,Addr.add]
         split <;> simp_all
       simp only [ea,s1,Result.andThen_ok]
       rw [ren_slice_some hsp]
       rfl
     split at h
     · rename_i hcc
       obtain ⟨hoff,hs',hlen,hpos,hcap⟩ := hcc
       cases h
       exact gen hcap hoff hs' hlen hpos
     · cases h
     rename_i hb
     split at h
     · rename_i hcc
       obtain ⟨rfl,hcap,hn⟩ := hcc
       cases h
       cases sCap with
       | zero => omega
       | succ c =>
         have e0 : ren ρ (.slice (some a) 0 (c + 1)) = .slice (some (ρ.adr a (c + 1))) 0 0 := by simp only [ren,ren2,ren1,ren0,Ren.cap,hsp]
         obtain ⟨_,rb⟩ := run_append (bs := some (ρ.adr a (c + 1))) (sCap := 0) ty tys h0 h1 hu0 hu1 hi hiz hx hnw hc1 hc2
         obtain ⟨k',hk⟩ := rb (by omega) #[] (by simp [Builtin.firstCells,loadCells,loadCellsFrom])
         obtain ⟨ρ',w',r1,r2,r3,r4⟩ := newRowOpen_sound (P := P) R.drew elem new (Builtin.zeroCells z.cells k') i.size (0 + n) k' n2 (by rw [hc4]; simp) (hzs k')
         refine ⟨ρ',w',?_,r2,drewExt r3,sc_slice_lt (by simp)⟩
         rw [e0,hk]
         simp only [Array.empty_append,r1,Result.andThen_ok]
         rw [ren_slice_open r4]
     · cases h
def aAppendZ (P : Program) (H : Heap) (tys : Array TypeId) (s x : Value) : Option (Value × Heap) :=
 match tys[0]?,tys[1]? with
 | some t0,some t1 => match P.underlying t0,P.underlying t1,s,x with
   | some (.slice elem),some (.int _),.slice none sLen sCap,.int _ m => (P.info? elem).bind fun i => (zeroT P elem).bind fun z =>
     if 0≤IntKind.i64.wrap m∧(IntKind.i64.wrap m).toNat≤1099511627776∧(2 * (IntKind.i64.wrap m).toNat + 256) * i.bytes≤281474976710656∧z.cells.size = i.size∧sLen = 0∧sCap < (IntKind.i64.wrap m).toNat∧0 < i.size then
       some (.slice (some ⟨H.length,0,some 0⟩) (IntKind.i64.wrap m).toNat 0,H ++ [.rw (Builtin.zeroCells z.cells (IntKind.i64.wrap m).toNat).toList (some i.size)])
     else none
   | _,_,_,_ => none
 | _,_ => none
theorem zeroCells_sc1 {z : Array Value} {n m : Nat} (h : z.all (sc1 0) = true) : (Builtin.zeroCells z n).all (sc1 m) = true := all_mono (fun _ => sc1_mono (Nat.zero_le _)) _ (zeroRow_closed h (n * z.size))
theorem appendZ_sound (R : Rel ρ H w) {tys : Array TypeId} {s x v : Value} (ty : TypeId) (h : aAppendZ P H tys s x = some (v,H')) :
   ∃ ρ' w',(Builtin.append_ tys ty #[ren ρ s,ren ρ x]).run P w = .ok (ren ρ' v) w'∧Rel ρ' H' w'∧Ext ρ H w ρ' H' w'∧sc H'.length v = true := by
 unfold aAppendZ at h
 split at h <;> try (cases h; done)
 rename_i t0 t1 h0 h1
 split at h <;> try (cases h; done)
 rename_i elem ki sLen sCap kx m hu0 hu1
 simp only [Option.bind_eq_some_iff] at h
 obtain ⟨i,hi,z,hz,h⟩ := h
 split at h <;> try (cases h; done)
 rename_i hc
 obtain ⟨hm0,hc1,hc2,hc3,rfl,hcap,hpos⟩ := hc
 have hwm : ((IntKind.i64.wrap m).toNat : Int) = IntKind.i64.wrap m := Int.toNat_of_nonneg hm0
 have hn : (IntKind.i64.wrap m).toNat ≠ 0 := by omega
 have hngz : ¬ (IntKind.i64.wrap m).toNat * i.size = 0 := Nat.mul_ne_zero hn (by omega)
 have hneed : ¬ 0 + (IntKind.i64.wrap m).toNat≤sCap := by omega
 have hle : (IntKind.i64.wrap m).toNat * i.bytes≤281474976710656 := Nat.le_trans (Nat.mul_le_mul_right _ (by omega)) hc2
 have e48 : (2 : Int) ^ 48 = 281474976710656 := by decide
 have e48n : (2 : Nat) ^ 48 = 281474976710656 := by decide
 have hbig : ¬ IntKind.i64.wrap m * (i.bytes : Int) > 2 ^ 48 := by
   rw [e48,← hwm,← Int.natCast_mul]; omega
 have hncap := nextslicecap_le hneed
 have hcap2 : ¬ Builtin.nextslicecap (0 + (IntKind.i64.wrap m).toNat) sCap * i.bytes > 2 ^ 48 := by
   have := Nat.mul_le_mul_right i.bytes hncap
   simp only [Nat.zero_add] at this ⊢
   omega
 have hmax : ¬ (((0 + (IntKind.i64.wrap m).toNat : Nat) : Int) > IntKind.i64.max∧(True∨i.bytes = 0)) := by
   have e : IntKind.i64.max = 9223372036854775807 := by decide
   omega
 have hiz : i.zero = some z := by
   simp only [zeroT,hi,Option.bind_some,Option.bind_eq_some_iff] at hz
   obtain ⟨z',h1,h2⟩ := hz
   split at h2
   · cases h2; exact h1
   · cases h2
 obtain ⟨_,zc⟩ := run_zero (w := w) hz
 have hs : (sizeOf elem).run P w = .ok i.size w := run_sizeOf (by simp [sizeT,hi])
 have ht : ∀ W : World,(typeInfo elem).run P W = .ok i W := fun W => run_typeInfo hi
 have hz' : (zeroValue elem).run P w.drew = .ok z w.drew := by simp [zeroValue,run_typeInfo hi,hiz]
 have hzs : ∀ k,(Builtin.zeroCells z.cells k).size = k * i.size := fun k => by simp [Builtin.zeroCells,hc3]
 have hall := zeroCells_sc1 (m := H.length) (n := (IntKind.i64.wrap m).toNat) (cells_sc1 zc)
 have hmap : (Builtin.zeroCells z.cells (IntKind.i64.wrap m).toNat).toList.map (ren1 ρ) = (Builtin.zeroCells z.cells (IntKind.i64.wrap m).toNat).toList := by
   have := congrArg Array.toList (map_id_all (f := ren1 ρ) (fun _ => ren1_closed) (Builtin.zeroCells z.cells (IntKind.i64.wrap m).toNat) (zeroRow_closed (cells_sc1 zc) ((IntKind.i64.wrap m).toNat * z.cells.size)))
   rw [Array.toList_map] at this
   exact this
 cases h
 obtain ⟨ρ',w',r1,r2,r3,r4⟩ := newRowOpen_sound (P := P) R.drew elem (Builtin.zeroCells z.cells (IntKind.i64.wrap m).toNat).toList
   (Builtin.zeroCells z.cells (w.tape w.drawn (.appendCap (0 + (IntKind.i64.wrap m).toNat) sCap elem) % (2 ^ 63 - (0 + (IntKind.i64.wrap m).toNat)))) i.size (IntKind.i64.wrap m).toNat _ (by simpa using hall) (by simp [hzs]) (hzs _)
 rw [hmap] at r1
 refine ⟨ρ',w',?_,r2,drewExt r3,sc_slice_lt (by simp)⟩
 rw [show ren ρ (.slice none 0 sCap) = .slice none 0 sCap from rfl,show ren ρ (.int kx m) = .int kx m from rfl]
 simp only [Builtin.append_,h0,h1,List.getElem?_toArray,List.getElem?_cons_zero,List.getElem?_cons_succ,Sem.run_bind,run_underlying hu0,run_underlying hu1,Result.andThen_ok,hs,Sem.run_pure]
 simp only [↓reduceIte,asInt,asIntOf,Sem.run_bind,Sem.run_pure,Result.andThen_ok,if_neg (show ¬ IntKind.i64.wrap m < 0 by omega),ht,if_neg hbig]
 simp only [if_neg hneed,Bool.not_true,Bool.false_eq_true,↓reduceIte,if_neg hngz,Sem.run_bind,Sem.run_pure,Result.andThen_ok,ht,if_neg hmax,if_neg hcap2]
 simp only [run_choose,Question.forced,Bool.false_eq_true,↓reduceIte,World.drew_eq,Result.andThen_ok,run_askRoom,Builtin.firstCells,Sem.run_pure,hz',Question.cut]
 rw [show 0 + (IntKind.i64.wrap m).toNat + w.tape w.drawn (.appendCap (0 + (IntKind.i64.wrap m).toNat) sCap elem) % (2 ^ 63 - (0 + (IntKind.i64.wrap m).toNat)) - (0 + (IntKind.i64.wrap m).toNat) = w.tape w.drawn (.appendCap (0 + (IntKind.i64.wrap m).toNat) sCap elem) % (2 ^ 63 - (0 + (IntKind.i64.wrap m).toNat)) from by omega]
 simp only [Array.empty_append,Array.toArray_toList] at r1 ⊢
 rw [r1]
 simp only [Result.andThen_ok]
 rw [ren_slice_open r4]
 simp
def aCap (P : Program) (tys : Array TypeId) (x : Value) : Option Value :=
 match tys[0]? with
 | some t => match P.underlying t,x with
   | some (.slice _),.slice none _ c => some (goInt c)
   | some (.slice _),.slice (some a) _ c => if a.spot.isNone then some (goInt c) else none
   | _,_ => none
 | none => none
theorem cap_sound {tys : Array TypeId} {x v : Value} (ty : TypeId) (h : aCap P tys x = some v) : (Builtin.cap_ tys ty #[ren ρ x]).run P w = .ok (ren ρ v) w∧∀ n,sc n v = true := by
 unfold aCap at h
 split at h <;> try (cases h; done)
 rename_i t h0
 split at h <;> try (cases h; done)
 · rename_i e l c hu
   cases h
   refine ⟨?_,fun n => rfl⟩
   rw [show ren ρ (.slice none l c) = .slice none l c from rfl]
   simp only [Builtin.cap_,h0,List.getElem?_toArray,List.getElem?_cons_zero,Sem.run_bind,run_underlying hu,Result.andThen_ok,Sem.run_pure]
   rfl
 · rename_i e a l c hu
   split at h <;> cases h
   rename_i hs
   refine ⟨?_,fun n => rfl⟩
   rw [ren_slice_none (by simpa using hs)]
   simp only [Builtin.cap_,h0,List.getElem?_toArray,List.getElem?_cons_zero,Sem.run_bind,run_underlying hu,Result.andThen_ok,Sem.run_pure]
   rfl
end Go.Pier
