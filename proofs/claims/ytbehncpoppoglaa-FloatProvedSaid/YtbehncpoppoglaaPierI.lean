import Derived.Test.YtbehncpoppoglaaPierH
set_option linter.unusedSimpArgs false
set_option linter.unusedVariables false
namespace Go.Pier
open Go
variable {P : Program} {ρ : Ren} {H H' : Heap} {w : World} {env : Operand→Option Value} {ρC : Operand→Value}
def fnOk (P : Program) (g : FuncId) : Bool :=
 match P.funcs[g]? with
 | some fn => fn.name != "runtime.NumGoroutine" && fn.body.isSome
 | none => false
def evBuiltin (P : Program) (H : Heap) (b : Builtin) (tys : Array TypeId) (ty : TypeId) (args : List Value) : Option (Value × Heap) :=
 match b,args with
 | .len,[x] => (aLen P H tys x).map (·,H)
 | .append,[s,x] => match aAppend P H tys s x with
   | some r => some r
   | none => aAppendZ P H tys s x
 | .cap,[x] => (aCap P tys x).map (·,H)
 | .copy,[d,s] => aCopy P H tys d s
 | .clear,[x] => (aClear P H tys x).map (.tuple #[],·)
 | .delete,[m,k] => (aDelete P H tys m k).map (.tuple #[],·)
 | .max,args => if args.all (sc 0) = true then (pureRun P (Builtin.max_ tys ty args.toArray)).bind fun v => if sc 0 v = true then some (v,H) else none else none
 | .min,args => if args.all (sc 0) = true then (pureRun P (Builtin.min_ tys ty args.toArray)).bind fun v => if sc 0 v = true then some (v,H) else none else none
 | _,_ => none
theorem map_ren_closed {l : List Value} (h : l.all (sc 0) = true) : l.map (ren ρ) = l := by
 have : l.map (ren ρ) = l.map id := List.map_congr_left fun v hv => ren_closed (List.all_eq_true.1 h v hv)
 rw [this]; simp
theorem ren_unit (ρ : Ren) : ren ρ (.tuple #[]) = .tuple #[] := by simp [ren]
theorem evBuiltin_sound (R : Rel ρ H w) {b : Builtin} {tys : Array TypeId} {ty : TypeId} {consts : Array Bool} {args : List Value} {v : Value} (hs : args.all (sc H.length) = true) (h : evBuiltin P H b tys ty args = some (v,H')) :
   OpOut P ρ H w (builtin b tys ty consts (args.map (ren ρ)).toArray) (.value v) H' := by
 unfold evBuiltin at h
 split at h
 · simp only [Option.map_eq_some_iff,Prod.mk.injEq] at h
   obtain ⟨v',h1,rfl,rfl⟩ := h
   obtain ⟨k1,k2⟩ := len_sound (w := w) R ty h1
   exact ⟨ρ,w,by simp [builtin,k1,ONext.to],R,Ext.refl _ _ _,k2 _⟩
 · simp only [List.all_cons,Bool.and_eq_true] at hs
   split at h
   · rename_i r hr
     cases h
     obtain ⟨ρ',w',k1,k2,k3,k4⟩ := append_sound R ty hr hs.1
     exact ⟨ρ',w',by simp [builtin,k1,ONext.to],k2,k3,k4⟩
   · obtain ⟨ρ',w',k1,k2,k3,k4⟩ := appendZ_sound R ty h
     exact ⟨ρ',w',by simp [builtin,k1,ONext.to],k2,k3,k4⟩
 · simp only [Option.map_eq_some_iff,Prod.mk.injEq] at h
   obtain ⟨v',h1,rfl,rfl⟩ := h
   obtain ⟨k1,k2⟩ := cap_sound (w := w) (ρ := ρ) ty h1
   exact ⟨ρ,w,by simp [builtin,k1,ONext.to],R,Ext.refl _ _ _,k2 _⟩
 · obtain ⟨w',k1,k2,k3,k4⟩ := copy_sound R ty h
   exact ⟨ρ,w',by simp [builtin,k1,ONext.to],k2,k3,k4⟩
 · simp only [Option.map_eq_some_iff,Prod.mk.injEq] at h
   obtain ⟨H1,h1,rfl,rfl⟩ := h
   obtain ⟨w',k1,k2,k3⟩ := clear_sound R ty h1
   exact ⟨ρ,w',by simp [builtin,k1,ONext.to,ren_unit],k2,k3,by simp [ONext.sc,sc]⟩
 · simp only [Option.map_eq_some_iff,Prod.mk.injEq] at h
   obtain ⟨H1,h1,rfl,rfl⟩ := h
   obtain ⟨w',k1,k2,k3⟩ := delete_sound R ty h1
   exact ⟨ρ,w',by simp [builtin,k1,ONext.to,ren_unit],k2,k3,by simp [ONext.sc,sc]⟩
 · split at h
   · rename_i hc
     simp only [Option.bind_eq_some_iff] at h
     obtain ⟨u,h1,h2⟩ := h
     split at h2
     · rename_i hu
       cases h2
       refine ⟨ρ,w,?_,R,Ext.refl _ _ _,sc_mono (Nat.zero_le _) hu⟩
       rw [map_ren_closed hc]
       simp [builtin,pureRun_sound w _ h1,ONext.to,ren_closed hu]
     · cases h2
   · cases h
 · split at h
   · rename_i hc
     simp only [Option.bind_eq_some_iff] at h
     obtain ⟨u,h1,h2⟩ := h
     split at h2
     · rename_i hu
       cases h2
       refine ⟨ρ,w,?_,R,Ext.refl _ _ _,sc_mono (Nat.zero_le _) hu⟩
       rw [map_ren_closed hc]
       simp [builtin,pureRun_sound w _ h1,ONext.to,ren_closed hu]
     · cases h2
   · cases h
 · cases h
def evCallee (P : Program) (f : Value) (args : List Value) : Option ONext :=
 match f with
 | .func (.func g) a b => if fnOk P g = true then some (.enter g (a.toList ++ args ++ b.toList)) else none
 | _ => none
theorem ren0_ren {n : Nat} {v : Value} (h : sc0 n v = true) : ren0 ρ v = ren ρ v := by
 rw [ren_of_sc2 (sc2_of_sc1 (sc1_of_sc0 h)),ren2_of_sc1 (sc1_of_sc0 h),ren1_of_sc0 h]
theorem renA_ren {n : Nat} {v : Value} (h : scA n v = true) : renA ρ v = ren ρ v := by
 simp only [scA,Bool.or_eq_true] at h
 rcases h with h | h
 · rw [renA_of_sc0 h,ren_of_sc2 (sc2_of_sc1 (sc1_of_sc0 h)),ren2_of_sc1 (sc1_of_sc0 h),ren1_of_sc0 h]
 · cases v <;> simp only [aggAll,Bool.false_eq_true] at h
   rename_i cs
   show Value.agg (cs.map (ren0 ρ)) = .agg (cs.map (ren1 ρ))
   rw [map_congr_all (f := ren1 ρ) (g := ren0 ρ) (p := sc0 n) (fun v hv => ren1_of_sc0 hv) cs h]
theorem scA_sc {n : Nat} {v : Value} (h : scA n v = true) : sc n v = true := by
 simp only [scA,Bool.or_eq_true] at h
 rcases h with h | h
 · exact sc_of_sc2 (sc2_of_sc1 (sc1_of_sc0 h))
 · cases v <;> simp only [aggAll,Bool.false_eq_true] at h
   rename_i cs
   show cs.all (sc1 n) = true
   exact all_mono (p := sc0 n) (fun v hv => sc1_of_sc0 hv) cs h
theorem map_renA {n : Nat} {a : Array Value} (h : a.all (scA n) = true) : (a.map (renA ρ)).toList = a.toList.map (ren ρ) := by
 simp only [Array.toList_map]
 exact List.map_congr_left fun v hv => renA_ren (Array.all_eq_true'.1 h v (by simpa using hv))
theorem all_sc_of_scA {n : Nat} {a : Array Value} (h : a.all (scA n) = true) : a.toList.all (sc n) = true :=
 List.all_eq_true.2 fun v hv => scA_sc (Array.all_eq_true'.1 h v (by simpa using hv))
theorem map_ren0 {n : Nat} {a : Array Value} (h : a.all (sc0 n) = true) : (a.map (ren0 ρ)).toList = a.toList.map (ren ρ) := by
 simp only [Array.toList_map]
 exact List.map_congr_left fun v hv => ren0_ren (Array.all_eq_true'.1 h v (by simpa using hv))
theorem all_sc_of_sc0 {n : Nat} {a : Array Value} (h : a.all (sc0 n) = true) : a.toList.all (sc n) = true :=
 List.all_eq_true.2 fun v hv => sc_of_sc2 (sc2_of_sc1 (sc1_of_sc0 (Array.all_eq_true'.1 h v (by simpa using hv))))
theorem evCallee_sound (R : Rel ρ H w) {f : Value} {args : List Value} {r : ONext} (hf : sc H.length f = true) (ha : args.all (sc H.length) = true) (h : evCallee P f args = some r) :
   OpOut P ρ H w (do let d ← Deferred.ofValue (ren ρ f) (args.map (ren ρ)).toArray; invoke d.target d.args) r H := by
 unfold evCallee at h
 split at h <;> try (cases h; done)
 rename_i g a b
 split at h <;> try (cases h; done)
 rename_i hok
 cases h
 have hsc : a.all (scA H.length) = true∧b.all (sc0 H.length) = true := by
   have : (a.all (scA H.length) && b.all (sc0 H.length)) = true := hf
   simpa only [Bool.and_eq_true] using this
 refine ⟨ρ,w,?_,R,Ext.refl _ _ _,?_⟩
 · unfold fnOk at hok
   split at hok <;> try (cases hok; done)
   rename_i fn hfn
   simp only [Bool.and_eq_true,bne_iff_ne,ne_eq] at hok
   have hbody : fn.body.isNone = false := by
     cases hb : fn.body with
     | none => rw [hb] at hok; cases hok.2
     | some c => rfl
   have hname : (fn.name == "runtime.NumGoroutine") = false := by simpa using hok.1
   have e1 : ren ρ (.func (.func g) a b) = .func (.func g) (a.map (renA ρ)) (b.map (ren0 ρ)) := rfl
   rw [e1]
   simp only [Deferred.ofValue,Sem.run_bind,Sem.run_pure,Result.andThen_ok,invoke,callFunc,run_program,hfn,hname,hbody,Bool.false_eq_true,↓reduceIte]
   simp only [ONext.to,List.map_append,← map_renA hsc.1,← map_ren0 hsc.2]
   simp
 · simp only [ONext.sc,List.all_append,Bool.and_eq_true]
   exact ⟨⟨all_sc_of_scA hsc.1,ha⟩,all_sc_of_sc0 hsc.2⟩
def evCall (P : Program) (env : Operand→Option Value) (H : Heap) (c : Call) (ty : TypeId) : Option (ONext × Heap) :=
 (envs env c.args.toList).bind fun args => match c.callee with
   | .builtin b => (evBuiltin P H b c.argTypes ty args).map fun r => (.value r.1,r.2)
   | .value f => (env f).bind fun fv => (evCallee P fv args).map (·,H)
   | .invoke _ _ => none
theorem args_array {c : Call} {args : List Value} (h : c.args.toList.map ρC = args.map (ren ρ)) : c.args.map ρC = (args.map (ren ρ)).toArray := by
 apply Array.toList_inj.1
 simpa using h
theorem evCall_sound (R : Rel ρ H w) (E : EnvOk ρ H.length env ρC) {c : Call} {ty : TypeId} {r : ONext} (h : evCall P env H c ty = some (r,H')) :
   OpOut P ρ H w (do let d ← resolve ρC c ty; invoke d.target d.args) r H' := by
 simp only [evCall,Option.bind_eq_some_iff] at h
 obtain ⟨args,ha,h⟩ := h
 obtain ⟨a1,a2⟩ := envs_sound E _ _ ha
 have a3 := args_array a2
 split at h
 · rename_i b hb
   simp only [Option.map_eq_some_iff,Prod.mk.injEq] at h
   obtain ⟨⟨v,H1⟩,h1,rfl,rfl⟩ := h
   obtain ⟨ρ',w',k1,k2,k3,k4⟩ := evBuiltin_sound (P := P) (consts := c.args.map fun | .const _ => true | _ => false) R a1 h1
   refine ⟨ρ',w',?_,k2,k3,k4⟩
   simp only [resolve,hb,Sem.run_bind,Sem.run_pure,Result.andThen_ok,invoke,a3]
   exact k1
 · rename_i f hb
   simp only [Option.bind_eq_some_iff,Option.map_eq_some_iff,Prod.mk.injEq] at h
   obtain ⟨fv,hf,r',h1,rfl,rfl⟩ := h
   obtain ⟨f1,f2⟩ := E f fv hf
   have := evCallee_sound (P := P) (w := w) R f1 a1 h1
   simp only [resolve,hb,f2,a3]
   exact this
 · cases h
def evNil (x : Value) : Option Value :=
 match x with
 | .pointer none | .nilIface | .nilFunc => none
 | .func (.func g) a b => some (.func (.func g) a b)
 | .func _ _ _ => none
 | x => some x
def oneOf : List (Value × Heap)→Option (ONext × Heap)
 | [r] => some (.value r.1,r.2)
 | _ => none
theorem oneOf_some {l : List (Value × Heap)} {r : ONext × Heap} (h : oneOf l = some r) : ∃ q,l = [q]∧r = (.value q.1,q.2) := by
 unfold oneOf at h
 split at h <;> cases h
 exact ⟨_,rfl,rfl⟩
def popForm (lo hi mx : Option Operand) : Bool := match lo,hi,mx with
 | some (.const (.int _ n)),none,none => match n with
   | .ofNat 1 => true
   | _ => false
 | _,_,_ => false
theorem popForm_iff {lo hi mx : Option Operand} (h : popForm lo hi mx = true) : ∃ k,lo = some (.const (.int k 1))∧hi = none∧mx = none := by
 unfold popForm at h
 split at h <;> try (cases h; done)
 split at h <;> try (cases h; done)
 exact ⟨_,rfl,rfl,rfl⟩
def aPop (P : Program) (H : Heap) (t : TypeId) (x : Value) : Option (Value × Heap) :=
 match P.underlying t,x with
 | some (.slice elem),.slice (some a) 1 0 => match a.spot with
   | some k => (sizeT P elem).bind fun s => match H[a.block]? with
     | some (.rw cs (some s')) => if s' = s ∧ 0 < s ∧ a.off = k * s ∧ cs.length = (k + 1) * s then
         some (.slice (some ⟨H.length,0,some 0⟩) 0 0,H.set a.block .gone ++ [.rw [] (some s)]) else none
     | _ => none
   | none => none
 | _,_ => none
theorem aPop_sound (R : Rel ρ H w) {t : TypeId} {x v : Value} (h : aPop P H t x = some (v,H')) (ik : IntKind) :
   ∃ ρ',(Instr.sliceAt t (ren ρ x) (some (.int ik 1)) none none).run P w = .ok (ren ρ' v) w∧Rel ρ' H' w∧Ext ρ H w ρ' H' w∧sc H'.length v = true := by
 unfold aPop at h
 split at h <;> try (cases h; done)
 rename_i elem a hu
 split at h <;> try (cases h; done)
 rename_i k hsp
 simp only [Option.bind_eq_some_iff] at h
 obtain ⟨s,hz,h⟩ := h
 split at h <;> try (cases h; done)
 rename_i cs s' hb
 split at h <;> cases h
 rename_i hc
 obtain ⟨rfl,hpos,hoff,hlen⟩ := hc
 obtain ⟨_,cs',ct,g1,g2,g3,g4⟩ := R.obj _ _ hb
 have hk1 : k + 1≤ρ.κ a.block := Nat.le_of_mul_le_mul_right (show (k + 1) * s'≤ρ.κ a.block * s' by omega) hpos
 have hb1 : aBounds 1 1 (some (.int ik 1)) none none = some (1,1,none) := by simp [aBounds,bnd]
 obtain ⟨k1,k2,k3,k4,_⟩ := aBounds_sound (P := P) (ρ := ρ) (w := w) true (ρ.κ a.block - k) (show 1≤ρ.κ a.block - k by omega) (Nat.le_refl _) hb1
 have hwr : wr H a.block = true := by rw [wr_of_get hb]; rfl
 let q : Addr := if ρ.κ a.block - k = 1 then ρ.addr a else (ρ.addr a).add (1 * s')
 have hq : q = ⟨ρ.φ a.block,q.off,none⟩ := by
   simp only [q]
   split
   · rfl
   · unfold Addr.add; split <;> simp_all [Ren.addr]
 have hqo : q.off + (ρ.κ a.block - k - 1) * s'≤cs'.size := by
   have e : (ρ.κ a.block - k - 1) * s' = ρ.κ a.block * s' - k * s' - s' := by rw [Nat.sub_mul,Nat.sub_mul,Nat.one_mul]
   have e2 : (k + 1) * s' = k * s' + s' := by rw [Nat.add_mul,Nat.one_mul]
   have e3 : (k + 1) * s'≤ρ.κ a.block * s' := Nat.mul_le_mul_right _ hk1
   simp only [q]
   split
   · rename_i h1
     rw [h1,Nat.sub_self,Nat.zero_mul]
     simp only [Ren.addr,hoff]; omega
   · have : ((ρ.addr a).add (1 * s')).off = ρ.δ a.block + a.off + s' := by unfold Addr.add; split <;> simp_all [Ren.addr]
     rw [this,e,hoff]; omega
 have := R.moved (w' := w) hwr (.rw [] (some s')) (ρ.κ a.block - k - 1) q.off rfl rfl rfl (fun _ _ => rfl)
   ⟨fun h => (by cases h),cs',ct,by simpa [Ren.bind] using g1,fun i v hi => (by simp at hi),by simpa [Ren.bind] using hqo⟩ rfl rfl rfl
 refine ⟨_,?_,this.1,this.2,?_⟩
 · simp only [Instr.sliceAt,Instr.slice,Sem.run_bind,run_underlying hu,Result.andThen_ok,ren_slice_some hsp]
   have k1' := k1
   simp only [Option.map_some,Option.map_none] at k1'
   rw [show ren ρ (.int ik 1) = .int ik 1 from rfl] at k1'
   simp only [k1',Result.andThen_ok,run_sizeOf hz,Option.getD_none,Sem.run_pure]
   have e1 : (if ρ.κ a.block - k = 1 then some (ρ.addr a) else (some (ρ.addr a)).map fun x => x.add (1 * s')) = some q := by
     simp only [q]
     split <;> rfl
   rw [e1,hq]
   simp [ren,ren2,ren1,ren0,Ren.adr,Ren.addr,Ren.cap,Ren.bind]
 · show decide (H.length < (H.set a.block AObj.gone ++ [AObj.rw [] (some s')]).length) = true
   simp
def evOp (P : Program) (env : Operand→Option Value) (H : Heap) (o : Oper) : Option (ONext × Heap) :=
 match o.op with
 | .move x | .assign x => (env x).map fun v => (.value v,H)
 | .pick c a b => match env c,env a,env b with
   | some (.bool t),some u,some v => some (.value (if t = true then u else v),H)
   | _,_,_ => none
 | .alloc t => (zeroT P t).map fun z => (.value (ptr H.length),H ++ [.rw z.cells.toList none])
 | .box _ x => (env x).bind fun v => if sc2 H.length v = true then some (.value (ptr H.length),H ++ [.rw v.cells.toList none]) else none
 | .build t parts => (envParts env parts.toList).bind fun ps => (aBuild P H.length t ps).map fun v => (.value v,H)
 | .buildSlice t len parts => (envParts env parts.toList).bind fun ps => (aBuildSlice P H t len ps).map fun r => (.value r.1,r.2)
 | .load t x => match env x with
   | some (.pointer (some a)) => (aloadVar P H t a).map fun v => (.value v,H)
   | _ => none
 | .store t x y => match env x,env y with
   | some (.pointer (some a)),some v => (astoreVar P H t a v).map (.skip,·)
   | _,_ => none
 | .nilCheck x => (env x).bind fun v => (evNil v).map fun v => (.value v,H)
 | .binOp op t x y _ => match env x,env y with
   | some a,some b => (evBin P op t x y a b).map fun v => (.value v,H)
   | _,_ => none
 | .unOp op _ x => (env x).bind fun v => (evPure1 P (Op.unary op) v).map fun v => (.value v,H)
 | .convert s d x => (env x).bind fun v => (evPure1 P (convert s d) v).map fun v => (.value v,H)
 | .makeFunc (.func g) first captured => (envs env first.toList).bind fun a => (envs env captured.toList).bind fun b =>
     if (a.all (scA H.length) && b.all (sc0 H.length)) = true then some (.value (.func (.func g) a.toArray b.toArray),H) else none
 | .makeMap _ none => some (.value (.map (some H.length)),H ++ [.map [] 0])
 | .makeSlice t l c => match env l,env c with
   | some lv,some cv => (aMakeSlice P H t lv cv).map fun r => (.value r.1,r.2)
   | _,_ => none
 | .slice t x lo hi mx => (env x).bind fun v => (envs env lo.toList).bind fun los => (envs env hi.toList).bind fun his => (envs env mx.toList).bind fun mxs =>
     match aSlice P H t v los.head? his.head? mxs.head? with
     | some v => some (.value v,H)
     | none => match popForm lo hi mx with
       | true => match los.head? with
         | some (.int _ (.ofNat 1)) => (aPop P H t v).map fun r => (.value r.1,r.2)
         | _ => none
       | false => none
 | .fieldAddr t x f => (env x).bind fun v => (aFieldAddr P t v f).map fun v => (.value v,H)
 | .field t x f => (env x).bind fun v => (aField P t v f).map fun v => (.value v,H)
 | .indexAddr t x ix => match env x,env ix with
   | some a,some b => (aIndexAddr P t a b).map fun v => (.value v,H)
   | _,_ => none
 | .index t x ix => match env x,env ix with
   | some a,some b => (aIndex P t a b).map fun v => (.value v,H)
   | _,_ => none
 | .lookup t x ix ok => match env x,env ix with
   | some a,some b => (aLookup P H t a b ok).map fun v => (.value v,H)
   | _,_ => none
 | .mapUpdate t m k x | .insert t m k x => match env m,env k,env x with
   | some a,some b,some c => (aMapUpdate P H t a b c).map (.skip,·)
   | _,_,_ => none
 | .mapEntry t m k => match env m,env k with
   | some a,some b => (aMapEntry P H t a b).map fun r => (.value r.1,r.2)
   | _,_ => none
 | .entryStore _ m s x => match env m,env s,env x with
   | some a,some b,some c => (aEntryStore H a b c).map (.skip,·)
   | _,_,_ => none
 | .extract x i => match env x with
   | some (.tuple vs) => (vs[i]?).map fun v => (.value v,H)
   | _ => none
 | .range t x => (env x).bind fun v => (aRange P H t v).map fun r => (.value r.1,r.2)
 | .entry x => (env x).bind fun v => (aEntry H v).map fun v => (.value v,H)
 | .next x false => (env x).bind fun v => (aNext H v).bind oneOf
 | .call c => evCall P env H c o.type
 | _ => none
theorem opt_sound (E : EnvOk ρ H.length env ρC) {o : Option Operand} {l : List Value} (h : envs env o.toList = some l) : o.map ρC = l.head?.map (ren ρ) := by
 cases o with
 | none => cases h; rfl
 | some x =>
   obtain ⟨_,h2⟩ := envs_sound E _ _ h
   cases l with
   | nil => cases h2
   | cons v r => simpa using (List.cons.inj h2).1
theorem flat_map {n : Nat} {a : List Value} (h : a.all (sc0 n) = true) : a.map (ren ρ) = (a.toArray.map (ren0 ρ)).toList := by
 rw [map_ren0 (n := n) (by simpa using h)]
theorem evOp_sound (R : Rel ρ H w) (E : EnvOk ρ H.length env ρC) {o : Oper} {r : ONext} (h : evOp P env H o = some (r,H')) :
   OpOut P ρ H w (execOp ρC o) r H' := by
 unfold evOp at h
 unfold execOp
 generalize o.op = op at h ⊢
 cases op <;> simp only at h ⊢ <;> try (cases h; done)
 case move x =>
   simp only [Option.map_eq_some_iff,Prod.mk.injEq] at h
   obtain ⟨v,h1,rfl,rfl⟩ := h
   obtain ⟨e1,e2⟩ := E _ _ h1
   exact OpOut.val R (by simp [e2]) e1
 case assign x =>
   simp only [Option.map_eq_some_iff,Prod.mk.injEq] at h
   obtain ⟨v,h1,rfl,rfl⟩ := h
   obtain ⟨e1,e2⟩ := E _ _ h1
   exact OpOut.val R (by simp [e2]) e1
 case pick c a b =>
   split at h <;> try (cases h; done)
   rename_i t u v h1 h2 h3
   cases h
   obtain ⟨_,e1⟩ := E _ _ h1
   obtain ⟨s2,e2⟩ := E _ _ h2
   obtain ⟨s3,e3⟩ := E _ _ h3
   refine OpOut.val R ?_ (by split <;> assumption)
   rw [e1,e2,e3,show ren ρ (.bool t) = .bool t from rfl]
   cases t <;> simp [asBool]
 case alloc t =>
   simp only [Option.map_eq_some_iff,Prod.mk.injEq] at h
   obtain ⟨z,h1,rfl,rfl⟩ := h
   obtain ⟨ρ',w',k1,k2,k3⟩ := alloc_sound (P := P) R h1
   exact ⟨ρ',w',by simp [k1,ONext.to],k2,k3,sc_ptr (by simp)⟩
 case box t x =>
   simp only [Option.bind_eq_some_iff] at h
   obtain ⟨v,h1,h⟩ := h
   split at h <;> try (cases h; done)
   rename_i hv
   cases h
   obtain ⟨_,e1⟩ := E _ _ h1
   obtain ⟨ρ',w',k1,k2,k3⟩ := box_sound (P := P) (t := t) R hv
   exact ⟨ρ',w',by simp [e1,k1,ONext.to],k2,k3,sc_ptr (by simp)⟩
 case build t parts =>
   simp only [Option.bind_eq_some_iff,Option.map_eq_some_iff,Prod.mk.injEq] at h
   obtain ⟨ps,h1,v,h2,rfl,rfl⟩ := h
   obtain ⟨p1,p2⟩ := envParts_sound E _ _ h1
   obtain ⟨k1,k2⟩ := aBuild_sound (ρ := ρ) (w := w) h2
   have e : (parts.map fun (i,x) => (i,ρC x)) = (ps.map fun p => (p.1,ren ρ p.2)).toArray := by
     apply Array.toList_inj.1
     simpa using p2
   exact OpOut.val R (by rw [e]; simp [k1]) k2
 case buildSlice t len parts =>
   simp only [Option.bind_eq_some_iff,Option.map_eq_some_iff,Prod.mk.injEq] at h
   obtain ⟨ps,h1,⟨v,H1⟩,h2,rfl,rfl⟩ := h
   obtain ⟨p1,p2⟩ := envParts_sound E _ _ h1
   obtain ⟨ρ',w',k1,k2,k3,k4⟩ := buildSlice_sound R h2
   have e : (parts.map fun (i,x) => (i,ρC x)) = (ps.map fun p => (p.1,ren ρ p.2)).toArray := by
     apply Array.toList_inj.1
     simpa using p2
   exact ⟨ρ',w',by rw [e]; simp [k1,ONext.to],k2,k3,k4⟩
 case load t x =>
   split at h <;> try (cases h; done)
   rename_i a h1
   simp only [Option.map_eq_some_iff,Prod.mk.injEq] at h
   obtain ⟨v,h2,rfl,rfl⟩ := h
   obtain ⟨_,e1⟩ := E _ _ h1
   obtain ⟨k1,k2⟩ := aloadVar_sound (P := P) R h2
   exact OpOut.val R (by simp [e1,ren_pointer,Instr.loadAt,Instr.sureAddr,k1]) (sc_of_sc2 k2)
 case store t x y =>
   split at h <;> try (cases h; done)
   rename_i a v h1 h2
   simp only [Option.map_eq_some_iff,Prod.mk.injEq] at h
   obtain ⟨H1,h3,rfl,rfl⟩ := h
   obtain ⟨_,e1⟩ := E _ _ h1
   obtain ⟨_,e2⟩ := E _ _ h2
   obtain ⟨w',k1,k2,k3⟩ := astoreVar_sound (P := P) R h3
   exact ⟨ρ,w',by simp [e1,e2,ren_pointer,Instr.storeAt,Instr.sureAddr,k1,ONext.to],k2,k3,rfl⟩
 case nilCheck x =>
   simp only [Option.bind_eq_some_iff,Option.map_eq_some_iff,Prod.mk.injEq] at h
   obtain ⟨v,h1,v',h2,rfl,rfl⟩ := h
   obtain ⟨s1,e1⟩ := E _ _ h1
   rw [e1]
   unfold evNil at h2
   split at h2 <;> try (cases h2; done)
   · cases h2; exact OpOut.val R (by simp [ren,ren2,ren1]) s1
   · cases h2
     rename_i n1 n2 n3 n4 n5
     refine OpOut.val R ?_ s1
     cases v with
     | pointer a => cases a with
       | none => exact (n1 rfl).elim
       | some a => rfl
     | nilIface => exact (n2 rfl).elim
     | nilFunc => exact (n3 rfl).elim
     | func f a b => exact (n5 _ _ _ rfl).elim
     | slice a n c => cases a <;> rfl
     | map r => cases r <;> rfl
     | _ => rfl
 case binOp op t x y yt =>
   split at h <;> try (cases h; done)
   rename_i a b h1 h2
   simp only [Option.map_eq_some_iff,Prod.mk.injEq] at h
   obtain ⟨v,h3,rfl,rfl⟩ := h
   obtain ⟨_,e1⟩ := E _ _ h1
   obtain ⟨_,e2⟩ := E _ _ h2
   obtain ⟨k1,k2⟩ := evBin_sound (ρ := ρ) (w := w) h3 H.length
   refine OpOut.val R ?_ k2
   rw [e1,e2]
   rw [Sem.run_bind,k1]
   rfl
 case unOp op t x =>
   simp only [Option.bind_eq_some_iff,Option.map_eq_some_iff,Prod.mk.injEq] at h
   obtain ⟨v,h1,v',h2,rfl,rfl⟩ := h
   obtain ⟨_,e1⟩ := E _ _ h1
   obtain ⟨k1,k2⟩ := evPure1_sound (ρ := ρ) (w := w) h2 H.length
   exact OpOut.val R (by simp [e1,k1]) k2
 case convert s d x =>
   simp only [Option.bind_eq_some_iff,Option.map_eq_some_iff,Prod.mk.injEq] at h
   obtain ⟨v,h1,v',h2,rfl,rfl⟩ := h
   obtain ⟨_,e1⟩ := E _ _ h1
   obtain ⟨k1,k2⟩ := evPure1_sound (ρ := ρ) (w := w) h2 H.length
   exact OpOut.val R (by simp [e1,k1]) k2
 case makeFunc fn first captured =>
   cases fn <;> simp only at h <;> try (cases h; done)
   rename_i g
   simp only [Option.bind_eq_some_iff] at h
   obtain ⟨a,h1,b,h2,h⟩ := h
   split at h <;> try (cases h; done)
   rename_i hc
   cases h
   obtain ⟨_,a2⟩ := envs_sound E _ _ h1
   obtain ⟨_,b2⟩ := envs_sound E _ _ h2
   have hc' := hc
   simp only [Bool.and_eq_true] at hc'
   have ea : first.map ρC = a.toArray.map (renA ρ) := by
     apply Array.toList_inj.1
     rw [map_renA (by simpa using hc'.1)]; simpa using a2
   have eb : captured.map ρC = b.toArray.map (ren0 ρ) := by
     apply Array.toList_inj.1
     rw [← flat_map hc'.2]; simpa using b2
   refine OpOut.val R ?_ ?_
   · rw [ea,eb]; rfl
   · show (a.toArray.all (scA H.length) && b.toArray.all (sc0 H.length)) = true
     simpa using hc
 case makeMap t r =>
   cases r <;> simp only at h <;> try (cases h; done)
   cases h
   obtain ⟨ρ',w',k1,k2,k3⟩ := makeMap_sound (P := P) R t
   exact ⟨ρ',w',by simp [k1,ONext.to],k2,k3,by simp [ONext.sc,sc,sc2,sc1,sc0]⟩
 case makeSlice t l c =>
   split at h <;> try (cases h; done)
   rename_i lv cv h1 h2
   simp only [Option.map_eq_some_iff,Prod.mk.injEq] at h
   obtain ⟨⟨v,H1⟩,h3,rfl,rfl⟩ := h
   obtain ⟨_,e1⟩ := E _ _ h1
   obtain ⟨_,e2⟩ := E _ _ h2
   obtain ⟨ρ',w',k1,k2,k3,k4⟩ := makeSlice_sound R h3
   exact ⟨ρ',w',by simp [e1,e2,k1,ONext.to],k2,k3,k4⟩
 case slice t x lo hi mx =>
   simp only [Option.bind_eq_some_iff,Option.map_eq_some_iff,Prod.mk.injEq] at h
   obtain ⟨v,h1,los,h2,his,h3,mxs,h4,h⟩ := h
   obtain ⟨s1,e1⟩ := E _ _ h1
   split at h
   · rename_i v' h5
     cases h
     obtain ⟨k1,k2⟩ := aSlice_sound (P := P) R h5 s1
     refine OpOut.val R ?_ k2
     rw [e1,opt_sound E h2,opt_sound E h3,opt_sound E h4]
     simp [k1]
   · split at h <;> try (cases h; done)
     rename_i hpf
     split at h <;> try (cases h; done)
     rename_i k hlo
     obtain ⟨_,rfl,rfl,rfl⟩ := popForm_iff hpf
     simp only [Option.map_eq_some_iff,Prod.mk.injEq] at h
     obtain ⟨⟨v',H1⟩,h5,rfl,rfl⟩ := h
     obtain ⟨ρ',k1,k2,k3,k4⟩ := aPop_sound (P := P) R h5 k
     refine ⟨ρ',w,?_,k2,k3,k4⟩
     have h3' : his = [] := by cases h3; rfl
     have h4' : mxs = [] := by cases h4; rfl
     rw [e1,opt_sound E h2,opt_sound E h3,hlo,h3']
     have k1' : (Instr.sliceAt t (ren ρ v) (some (ren ρ (Value.int k 1))) none none).run P w = .ok (ren ρ' v') w := k1
     simp [k1',ONext.to]
 case fieldAddr t x f =>
   simp only [Option.bind_eq_some_iff,Option.map_eq_some_iff,Prod.mk.injEq] at h
   obtain ⟨v,h1,v',h2,rfl,rfl⟩ := h
   obtain ⟨s1,e1⟩ := E _ _ h1
   obtain ⟨k1,k2⟩ := aFieldAddr_sound (ρ := ρ) (w := w) h2 s1
   exact OpOut.val R (by simp [e1,k1]) k2
 case field t x f =>
   simp only [Option.bind_eq_some_iff,Option.map_eq_some_iff,Prod.mk.injEq] at h
   obtain ⟨v,h1,v',h2,rfl,rfl⟩ := h
   obtain ⟨s1,e1⟩ := E _ _ h1
   obtain ⟨k1,k2⟩ := aField_sound (ρ := ρ) (w := w) h2 s1
   exact OpOut.val R (by simp [e1,k1]) k2
 case indexAddr t x ix =>
   split at h <;> try (cases h; done)
   rename_i a b h1 h2
   simp only [Option.map_eq_some_iff,Prod.mk.injEq] at h
   obtain ⟨v,h3,rfl,rfl⟩ := h
   obtain ⟨s1,e1⟩ := E _ _ h1
   obtain ⟨_,e2⟩ := E _ _ h2
   obtain ⟨k1,k2⟩ := aIndexAddr_sound (ρ := ρ) (w := w) h3 s1
   exact OpOut.val R (by simp [e1,e2,k1]) k2
 case index t x ix =>
   split at h <;> try (cases h; done)
   rename_i a b h1 h2
   simp only [Option.map_eq_some_iff,Prod.mk.injEq] at h
   obtain ⟨v,h3,rfl,rfl⟩ := h
   obtain ⟨s1,e1⟩ := E _ _ h1
   obtain ⟨_,e2⟩ := E _ _ h2
   obtain ⟨k1,k2⟩ := aIndex_sound (ρ := ρ) (w := w) h3 s1
   exact OpOut.val R (by simp [e1,e2,k1]) k2
 case lookup t x ix ok =>
   split at h <;> try (cases h; done)
   rename_i a b h1 h2
   simp only [Option.map_eq_some_iff,Prod.mk.injEq] at h
   obtain ⟨v,h3,rfl,rfl⟩ := h
   obtain ⟨s1,e1⟩ := E _ _ h1
   obtain ⟨_,e2⟩ := E _ _ h2
   obtain ⟨k1,k2⟩ := aLookup_sound R h3
   exact OpOut.val R (by simp [e1,e2,k1]) k2
 case mapUpdate t m k x =>
   split at h <;> try (cases h; done)
   rename_i a b c h1 h2 h3
   simp only [Option.map_eq_some_iff,Prod.mk.injEq] at h
   obtain ⟨H1,h4,rfl,rfl⟩ := h
   obtain ⟨_,e1⟩ := E _ _ h1
   obtain ⟨_,e2⟩ := E _ _ h2
   obtain ⟨_,e3⟩ := E _ _ h3
   obtain ⟨w',k1,k2,k3⟩ := mapUpdate_sound R h4
   exact ⟨ρ,w',by simp [e1,e2,e3,k1,ONext.to],k2,k3,rfl⟩
 case insert t m k x =>
   split at h <;> try (cases h; done)
   rename_i a b c h1 h2 h3
   simp only [Option.map_eq_some_iff,Prod.mk.injEq] at h
   obtain ⟨H1,h4,rfl,rfl⟩ := h
   obtain ⟨_,e1⟩ := E _ _ h1
   obtain ⟨_,e2⟩ := E _ _ h2
   obtain ⟨_,e3⟩ := E _ _ h3
   obtain ⟨w',k1,k2,k3⟩ := mapUpdate_sound R h4
   exact ⟨ρ,w',by simp [e1,e2,e3,k1,ONext.to],k2,k3,rfl⟩
 case mapEntry t m k =>
   split at h <;> try (cases h; done)
   rename_i a b h1 h2
   simp only [Option.map_eq_some_iff,Prod.mk.injEq] at h
   obtain ⟨⟨v,H1⟩,h4,rfl,rfl⟩ := h
   obtain ⟨_,e1⟩ := E _ _ h1
   obtain ⟨_,e2⟩ := E _ _ h2
   obtain ⟨w',k1,k2,k3,k4⟩ := mapEntry_sound R h4
   exact ⟨ρ,w',by simp [e1,e2,k1,ONext.to],k2,k3,k4⟩
 case entryStore t m s x =>
   split at h <;> try (cases h; done)
   rename_i a b c h1 h2 h3
   simp only [Option.map_eq_some_iff,Prod.mk.injEq] at h
   obtain ⟨H1,h4,rfl,rfl⟩ := h
   obtain ⟨_,e1⟩ := E _ _ h1
   obtain ⟨_,e2⟩ := E _ _ h2
   obtain ⟨_,e3⟩ := E _ _ h3
   obtain ⟨w',k1,k2,k3⟩ := entryStore_sound (P := P) R (t := t) h4
   exact ⟨ρ,w',by simp [e1,e2,e3,k1,ONext.to],k2,k3,rfl⟩
 case extract x i =>
   split at h <;> try (cases h; done)
   rename_i vs h1
   simp only [Option.map_eq_some_iff,Prod.mk.injEq] at h
   obtain ⟨v,h2,rfl,rfl⟩ := h
   obtain ⟨s1,e1⟩ := E _ _ h1
   have hv : sc2 H.length v = true := Array.all_eq_true'.1 (show vs.all (sc2 H.length) = true from s1) v (Array.mem_of_getElem? h2)
   refine OpOut.val R ?_ (sc_of_sc2 hv)
   rw [e1,show ren ρ (.tuple vs) = .tuple (vs.map (ren2 ρ)) from rfl]
   simp [Instr.extract,h2,ren_of_sc2 hv]
 case range t x =>
   simp only [Option.bind_eq_some_iff,Option.map_eq_some_iff,Prod.mk.injEq] at h
   obtain ⟨v,h1,⟨u,H1⟩,h2,rfl,rfl⟩ := h
   obtain ⟨_,e1⟩ := E _ _ h1
   obtain ⟨ρ',w',k1,k2,k3,k4⟩ := range_sound R h2
   exact ⟨ρ',w',by simp [e1,k1,ONext.to],k2,k3,k4⟩
 case entry x =>
   simp only [Option.bind_eq_some_iff,Option.map_eq_some_iff,Prod.mk.injEq] at h
   obtain ⟨v,h1,u,h2,rfl,rfl⟩ := h
   obtain ⟨_,e1⟩ := E _ _ h1
   obtain ⟨k1,k2⟩ := aEntry_sound (P := P) R h2
   exact OpOut.val R (by simp [e1,k1]) k2
 case next x b =>
   cases b <;> simp only at h <;> try (cases h; done)
   simp only [Option.bind_eq_some_iff] at h
   obtain ⟨v,h1,outs,h2,h⟩ := h
   obtain ⟨q,rfl,h⟩ := oneOf_some h
   cases h
   obtain ⟨_,e1⟩ := E _ _ h1
   obtain ⟨u,H1,w',k1,k2,k3,k4,k5⟩ := aNext_sound (P := P) R o.type h2
   simp only [List.mem_singleton] at k1
   subst k1
   exact ⟨ρ,w',by simp [e1,k2,ONext.to],k3,k4,k5⟩
 case call c => exact evCall_sound R E h
def mixAt (H : Heap) (a : Addr) : Option MCell := match a.spot with
 | none => match H[a.block]? with
   | some (.mix cs) => cs[a.off]?
   | _ => none
 | some _ => none
def aMix (H : Heap) : MCell→Value × Heap
 | .val v => (v,H)
 | .row r n c => (.slice (some ⟨H.length,0,none⟩) n c,H ++ [.ro r])
 | .spot => (.slice (some ⟨H.length,0,some 0⟩) 0 1,H ++ [.gone])
 | .null => (.slice none 0 0,H)
 | .void c => (.slice (some ⟨H.length,0,none⟩) 0 c,H ++ [.gone])
def aSliceEnd (P : Program) (H : Heap) (t : TypeId) (x : Value) (lo hi mx : Option Value) : Option (Value × Heap) :=
 match P.underlying t,x with
 | some (.slice elem),.slice (some a) len cap => match a.spot with
   | some k => (sizeT P elem).bind fun s => if cap = 0 ∧ openAt H a s k len = true then
       (aBounds len len lo hi mx).bind fun (l,h,m) => match m with
         | some _ => none
         | none => if h = l then some (.slice (some ⟨H.length,0,some 0⟩) 0 0,H ++ [.gone]) else none
     else none
   | none => none
 | _,_ => none
theorem aSliceEnd_sound (R : Rel ρ H w) {t : TypeId} {x v : Value} {lo hi mx : Option Value} (h : aSliceEnd P H t x lo hi mx = some (v,H')) :
   ∃ ρ',(Instr.sliceAt t (ren ρ x) (lo.map (ren ρ)) (hi.map (ren ρ)) (mx.map (ren ρ))).run P w = .ok (ren ρ' v) w∧Rel ρ' H' w∧Ext ρ H w ρ' H' w∧sc H'.length v = true := by
 unfold aSliceEnd at h
 split at h <;> try (cases h; done)
 rename_i elem a len cap hu
 split at h <;> try (cases h; done)
 rename_i k hsp
 simp only [Option.bind_eq_some_iff] at h
 obtain ⟨s,hz,h⟩ := h
 split at h <;> try (cases h; done)
 rename_i ho
 obtain ⟨rfl,ho⟩ := ho
 have hroom := openAt_room R ho
 simp only [Option.bind_eq_some_iff] at h
 obtain ⟨⟨l,h',m⟩,hb,h⟩ := h
 obtain ⟨k1,k2,k3,k4,_⟩ := aBounds_sound (P := P) (ρ := ρ) (w := w) true (ρ.κ a.block - k) (by omega) (Nat.le_refl _) hb
 cases m with
 | some m => cases h
 | none =>
   simp only at h
   split at h <;> cases h
   rename_i hl
   subst hl
   let q : Addr := if ρ.κ a.block - k = h' then ρ.addr a else (ρ.addr a).add (h' * s)
   have hq : q.spot = none := by
     simp only [q]
     split
     · rfl
     · unfold Addr.add; split <;> rfl
   obtain ⟨R1,X1⟩ := R.bindDeep (o := .gone) (p := q.block) (off := q.off) (k := ρ.κ a.block - k - h') (.inl rfl) rfl trivial
   refine ⟨_,?_,R1,X1,?_⟩
   · simp only [Instr.sliceAt,Instr.slice,Sem.run_bind,run_underlying hu,Result.andThen_ok,ren_slice_some hsp,k1,run_sizeOf hz,Option.getD_none,Sem.run_pure]
     have e1 : (if ρ.κ a.block - k = h' then some (ρ.addr a) else (some (ρ.addr a)).map fun x => x.add (h' * s)) = some q := by
       simp only [q]
       split <;> rfl
     rw [e1]
     have e2 : q = ⟨q.block,q.off,none⟩ := by
       cases hh : q with
       | mk a b c => rw [hh] at hq; simp only at hq; rw [hq]
     rw [e2]
     simp [ren,ren2,ren1,ren0,Ren.adr,Ren.addr,Ren.cap,Ren.bind]
   · show decide (H.length < (H ++ [AObj.gone]).length) = true
     simp
def aMixes (cs : List MCell) : Nat→Nat→Heap→Option (List Value × Heap)
 | _,0,H => some ([],H)
 | x,n + 1,H => match cs[x]? with
   | some m => match aMixes cs (x + 1) n (aMix H m).2 with
     | some (vs,H2) => some ((aMix H m).1 :: vs,H2)
     | none => none
   | none => none
def aMixAgg (P : Program) (H : Heap) (t : TypeId) (a : Addr) : Option (Value × Heap) := match a.spot,H[a.block]? with
 | none,some (.mix cs) => (sizeT P t).bind fun n => (aMixes cs a.off n H).map fun q => (.agg q.1.toArray,q.2)
 | _,_ => none
def rowOf (P : Program) (env : Operand→Option Value) (H : Heap) (o : Oper) : Option (Value × Heap) :=
 match o.op with
 | .slice t x lo hi mx => (env x).bind fun v => (envs env lo.toList).bind fun los => (envs env hi.toList).bind fun his => (envs env mx.toList).bind fun mxs => aSliceEnd P H t v los.head? his.head? mxs.head?
 | .load t x => match env x with
   | some (.pointer (some a)) => match isAggT P t with
     | some false => (mixAt H a).map (aMix H)
     | some true => aMixAgg P H t a
     | none => none
   | _ => none
 | _ => none
theorem rowOf_load {o : Oper} {r : Value × Heap} (h : rowOf P env H o = some r) : (∃ t x,o.op = .load t x)∨∃ t x lo hi mx,o.op = .slice t x lo hi mx := by
 unfold rowOf at h
 split at h
 · exact .inr ⟨_,_,_,_,_,‹_›⟩
 · exact .inl ⟨_,_,‹_›⟩
 · cases h
theorem rowOf_defer {o : Oper} {r : Value × Heap} (h : rowOf P env H o = some r) : ∀ c,o.op ≠ .defer c := by
 rcases rowOf_load h with ⟨_,_,hop⟩ | ⟨_,_,_,_,_,hop⟩ <;> rw [hop] <;> intro c hc <;> cases hc
theorem mix_step (R : Rel ρ H w) {b i : Nat} {cs : List MCell} {c : MCell} (hb : H[b]? = some (.mix cs)) (hc : cs[i]? = some c) :
   ∃ (ρ' : Ren) (u : Value),w.cell? ⟨ρ.φ b,ρ.δ b + i,none⟩ = some u∧ren1 ρ' (aMix H c).1 = u∧Rel ρ' (aMix H c).2 w∧Ext ρ H w ρ' (aMix H c).2 w∧sc1 (aMix H c).2.length (aMix H c).1 = true := by
 obtain ⟨h1,h2,h3⟩ := R.obj _ _ hb
 have hmx : isMix H b = true := by rw [isMix_of_get hb]; rfl
 have h4 := h3 i c hc
 have hpl : ∀ {cs : List Value},(∀ (j : Nat) (u : Value),cs[j]? = some u→sc1 0 u = true)→cs.all (sc1 0) = true := fun hj => List.all_eq_true.2 fun u hu => by
   obtain ⟨j,hjl,rfl⟩ := List.getElem_of_mem hu
   exact hj j _ (List.getElem?_eq_getElem hjl)
 cases c with
 | val u => exact ⟨ρ,u,h4.1,ren1_closed h4.2,R,Ext.refl _ _ _,sc1_mono (Nat.zero_le _) h4.2⟩
 | row r n cc =>
   obtain ⟨q,o',k1,k2,k3⟩ := h4
   have hcl := hpl fun j u hj => (k3 j u hj).2
   obtain ⟨R1,X1⟩ := R.bindDeep (o := .ro r) (p := q) (off := o') (k := 0) (.inr ⟨r,b,rfl,hmx,k1⟩) (List.all_eq_true.2 fun u hu => sc1_mono (Nat.zero_le _) (List.all_eq_true.1 hcl u hu))
     ⟨by simp only [Ren.bind,if_true]; omega,fun j u hj => by
       rw [ren1_closed (List.all_eq_true.1 hcl u (List.mem_of_getElem? hj)),← (k3 j u hj).1]
       simp [Ren.bind]⟩
   refine ⟨_,_,k2,?_,R1,X1,?_⟩
   · simp [aMix,ren1,ren0,Ren.adr,Ren.addr,Ren.cap,Ren.bind]
   · show decide (H.length < (H ++ [AObj.ro r]).length) = true
     simp
 | null => exact ⟨ρ,_,h4,rfl,R,Ext.refl _ _ _,rfl⟩
 | void cc =>
   obtain ⟨q,o',k2⟩ := h4
   obtain ⟨R1,X1⟩ := R.bindDeep (o := .gone) (p := q) (off := o') (k := 0) (.inl rfl) rfl trivial
   refine ⟨_,_,k2,?_,R1,X1,?_⟩
   · simp [aMix,ren1,ren0,Ren.adr,Ren.addr,Ren.cap,Ren.bind]
   · show decide (H.length < (H ++ [AObj.gone]).length) = true
     simp
 | spot =>
   obtain ⟨q,o',kk,k2⟩ := h4
   obtain ⟨R1,X1⟩ := R.bindDeep (o := .gone) (p := q) (off := o') (k := kk) (.inl rfl) rfl trivial
   refine ⟨_,_,k2,?_,R1,X1,?_⟩
   · simp [aMix,ren1,ren0,Ren.adr,Ren.addr,Ren.cap,Ren.bind]
   · show decide (H.length < (H ++ [AObj.gone]).length) = true
     simp
theorem aMix_len (H : Heap) (c : MCell) : H.length≤(aMix H c).2.length∧∀ b,b < H.length→(aMix H c).2[b]? = H[b]? := by
 cases c <;> first | exact ⟨Nat.le_refl _,fun _ _ => rfl⟩ | exact ⟨by simp [aMix],fun b hb => show (H ++ _)[b]? = _ from List.getElem?_append_left hb⟩
theorem aMixes_sound {b : Nat} {cs : List MCell} : ∀ (n x : Nat) (ρ : Ren) (H : Heap) (vs : List Value) (H' : Heap),Rel ρ H w→H[b]? = some (.mix cs)→aMixes cs x n H = some (vs,H') →
   ∃ (ρ' : Ren) (us : List Value),us.length = n∧(∀ i u,us[i]? = some u→w.cell? ⟨ρ.φ b,ρ.δ b + (x + i),none⟩ = some u)∧vs.map (ren1 ρ') = us∧Rel ρ' H' w∧Ext ρ H w ρ' H' w∧vs.all (sc1 H'.length) = true
 | 0,x,ρ,H,vs,H',R,hb,h => by
   cases h
   exact ⟨ρ,[],rfl,fun i u hu => by simp at hu,rfl,R,Ext.refl _ _ _,rfl⟩
 | n + 1,x,ρ,H,vs,H',R,hb,h => by
   unfold aMixes at h
   split at h <;> try (cases h; done)
   rename_i m hm
   split at h <;> cases h
   rename_i vs' hr
   obtain ⟨ρ1,u,k1,k2,R1,X1,k3⟩ := mix_step R hb hm
   have hlt := (List.getElem?_eq_some_iff.1 hb).1
   have hb1 : (aMix H m).2[b]? = some (.mix cs) := by rw [(aMix_len H m).2 b hlt]; exact hb
   obtain ⟨ρ2,us,e1,e2,e3,R2,X2,e4⟩ := aMixes_sound n (x + 1) ρ1 _ vs' H' R1 hb1 hr
   have ag := X1.agreeN b hlt
   refine ⟨ρ2,u :: us,by rw [List.length_cons,e1],fun i v hv => ?_,?_,R2,X1.trans X2,?_⟩
   · cases i with
     | zero => cases hv; exact k1
     | succ i =>
       have := e2 i v (by simpa using hv)
       rw [ag.1,ag.2.1] at this
       rw [show x + (i + 1) = x + 1 + i by omega]; exact this
   · rw [List.map_cons,e3,ren1_agree X2.agreeN k3,k2]
   · rw [List.all_cons,e4,Bool.and_true]
     exact sc1_mono X2.len k3
theorem cells_run {a : Addr} : ∀ (n k : Nat) (us : List Value) (acc : Array Value),us.length = n→(∀ i u,us[i]? = some u→w.cell? (a.add (k + i)) = some u)→(loadCellsFrom a k n acc).run P w = .ok (acc ++ us.toArray) w
 | 0,k,us,acc,hl,_ => by
   obtain rfl := List.length_eq_zero_iff.1 hl
   simp [loadCellsFrom]
 | n + 1,k,us,acc,hl,h => by
   match us,hl with
   | u :: us,hl =>
     have h0 := h 0 u rfl
     have ih := cells_run n (k + 1) us (acc.push u) (by simpa using hl) fun i v hv => by
       have := h (i + 1) v (by simpa using hv)
       rw [show k + 1 + i = k + (i + 1) by omega]; exact this
     simp only [loadCellsFrom,Sem.run_bind,run_load,Result.andThen_ok,Nat.add_zero] at h0 ⊢
     rw [h0]
     simp [ih]
theorem aMixAgg_sound (R : Rel ρ H w) {t : TypeId} {a : Addr} {v : Value} (hagg : isAggT P t = some true) (h : aMixAgg P H t a = some (v,H')) :
   ∃ ρ',(loadVar t (ρ.addr a)).run P w = .ok (ren ρ' v) w∧Rel ρ' H' w∧Ext ρ H w ρ' H' w∧sc H'.length v = true := by
 unfold aMixAgg at h
 split at h <;> try (cases h; done)
 rename_i cs hs hb
 simp only [Option.bind_eq_some_iff,Option.map_eq_some_iff] at h
 obtain ⟨n,hn,⟨vs,H1⟩,hm,he⟩ := h
 cases he
 obtain ⟨ρ',us,e1,e2,e3,R1,X1,e4⟩ := aMixes_sound n a.off ρ H vs _ R hb hm
 refine ⟨ρ',?_,R1,X1,?_⟩
 · have hc : ∀ i u, us[i]? = some u → w.cell? ((ρ.addr a).add (0 + i)) = some u := fun i u hu => by
     have := e2 i u hu
     rw [Nat.zero_add]
     have e : (ρ.addr a).add i = ⟨ρ.φ a.block,ρ.δ a.block + (a.off + i),none⟩ := by
       unfold Addr.add
       split <;> simp_all [Ren.addr,Nat.add_assoc]
     rw [e]; exact this
   have := cells_run (P := P) n 0 us #[] e1 hc
   simp only [loadVar,run_isAgg hagg,run_sizeOf hn,loadCells,Sem.run_bind,Result.andThen_ok,this,if_true,Sem.run_pure]
   rw [← e3]
   simp [ren,ren2]
 · show vs.toArray.all (sc1 _) = true
   rw [List.all_toArray]
   exact e4
theorem rowOf_sound (R : Rel ρ H w) (E : EnvOk ρ H.length env ρC) {o : Oper} {v : Value} (h : rowOf P env H o = some (v,H')) :
   OpOut P ρ H w (execOp ρC o) (.value v) H' := by
 unfold rowOf at h
 split at h <;> try (cases h; done)
 · rename_i t x lo hi mx hop
   simp only [Option.bind_eq_some_iff] at h
   obtain ⟨u,h1,los,h2,his,h3,mxs,h4,h5⟩ := h
   obtain ⟨_,e1⟩ := E _ _ h1
   obtain ⟨ρ',k1,k2,k3,k4⟩ := aSliceEnd_sound (P := P) R h5
   refine ⟨ρ',w,?_,k2,k3,k4⟩
   unfold execOp
   rw [hop]
   simp only [e1,opt_sound E h2,opt_sound E h3,opt_sound E h4,Sem.run_bind,k1,Result.andThen_ok,Sem.run_pure,ONext.to]
 rename_i t x hop
 split at h <;> try (cases h; done)
 rename_i a ha
 obtain ⟨_,e1⟩ := E _ _ ha
 split at h <;> try (cases h; done)
 · rename_i hagg
   simp only [Option.map_eq_some_iff] at h
   obtain ⟨c,hc,he⟩ := h
   unfold mixAt at hc
   split at hc <;> try (cases hc; done)
   rename_i hspot
   split at hc <;> try (cases hc; done)
   rename_i cs hb
   obtain ⟨ρ',u,k1,k2,R1,X1,k3⟩ := mix_step R hb hc
   rw [he] at k2 R1 X1 k3
   have hadr : ρ.addr a = ⟨ρ.φ a.block,ρ.δ a.block + a.off,none⟩ := rfl
   have s2 := sc2_of_sc1 k3
   refine ⟨ρ',w,?_,R1,X1,sc_of_sc2 s2⟩
   unfold execOp
   rw [hop]
   simp only [ONext.to]
   rw [ren_of_sc2 s2,ren2_of_sc1 k3,k2]
   simp [e1,ren_pointer,Instr.loadAt,Instr.sureAddr,loadVar,run_isAgg hagg,hadr,k1]
 · rename_i hagg
   obtain ⟨ρ',k1,R1,X1,k3⟩ := aMixAgg_sound (P := P) R hagg h
   refine ⟨ρ',w,?_,R1,X1,k3⟩
   unfold execOp
   rw [hop]
   simp [e1,ren_pointer,Instr.loadAt,Instr.sureAddr,k1,ONext.to]
end Go.Pier
