import Derived.Test.YtbehncpoppoglaaPierC
set_option linter.unusedSimpArgs false
set_option linter.unusedVariables false
namespace Go.Pier
open Go
inductive ONext where
 | value (v : Value)
 | skip
 | enter (f : FuncId) (args : List Value)
 deriving Inhabited
def ONext.to (ρ : Ren) : ONext→Next
 | .value v => .value (ren ρ v)
 | .skip => .skip
 | .enter f args => .enter f (args.map (ren ρ)).toArray
def ONext.sc (n : Nat) : ONext→Bool
 | .value v => Pier.sc n v
 | .skip => true
 | .enter _ args => args.all (Pier.sc n)
def EnvOk (ρ : Ren) (n : Nat) (env : Operand→Option Value) (ρC : Operand→Value) : Prop :=
 ∀ x v,env x = some v→sc n v = true∧ρC x = ren ρ v
def OpOut (P : Program) (ρ : Ren) (H : Heap) (w : World) (s : Sem Next) (r : ONext) (H' : Heap) : Prop :=
 ∃ ρ' w',s.run P w = .ok (r.to ρ') w'∧Rel ρ' H' w'∧Ext ρ H w ρ' H' w'∧r.sc H'.length = true
variable {P : Program} {ρ : Ren} {H H' : Heap} {w : World} {env : Operand→Option Value} {ρC : Operand→Value}
theorem OpOut.val (R : Rel ρ H w) {s : Sem Next} {v : Value} (h : s.run P w = .ok (.value (ren ρ v)) w) (hs : sc H.length v = true) : OpOut P ρ H w s (.value v) H :=
 ⟨ρ,w,h,R,Ext.refl _ _ _,hs⟩
def envs (env : Operand→Option Value) : List Operand→Option (List Value)
 | [] => some []
 | x :: r => (env x).bind fun v => (envs env r).map (v :: ·)
theorem envs_sound {n : Nat} (E : EnvOk ρ n env ρC) : ∀ (l : List Operand) (vs : List Value),envs env l = some vs→vs.all (sc n) = true∧l.map ρC = vs.map (ren ρ)
 | [],vs,h => by cases h; exact ⟨rfl,rfl⟩
 | x :: r,vs,h => by
   simp only [envs,Option.bind_eq_some_iff,Option.map_eq_some_iff] at h
   obtain ⟨v,h1,vs',h2,rfl⟩ := h
   obtain ⟨h3,h4⟩ := E x v h1
   obtain ⟨h5,h6⟩ := envs_sound E r vs' h2
   exact ⟨by simp [h3,h5],by simp [h4,h6]⟩
def envParts (env : Operand→Option Value) : List (Nat × Operand)→Option (List (Nat × Value))
 | [] => some []
 | x :: r => (env x.2).bind fun v => (envParts env r).map ((x.1,v) :: ·)
theorem envParts_sound {n : Nat} (E : EnvOk ρ n env ρC) : ∀ (l : List (Nat × Operand)) (vs : List (Nat × Value)),envParts env l = some vs →
   (∀ p ∈ vs,sc n p.2 = true)∧(l.map fun p => (p.1,ρC p.2)) = vs.map fun p => (p.1,ren ρ p.2)
 | [],vs,h => by
   have e : vs = [] := (Option.some.inj h).symm
   subst e
   exact ⟨fun _ hx => absurd hx List.not_mem_nil,rfl⟩
 | x :: r,vs,h => by
   simp only [envParts,Option.bind_eq_some_iff,Option.map_eq_some_iff] at h
   obtain ⟨v,h1,vs',h2,rfl⟩ := h
   obtain ⟨h3,h4⟩ := E x.2 v h1
   obtain ⟨h5,h6⟩ := envParts_sound E r vs' h2
   refine ⟨fun p hp => ?_,by simp [h4,h6]⟩
   rcases List.mem_cons.1 hp with h | h
   · rw [h]; exact h3
   · exact h5 p h
def pureRun (P : Program) {α : Type} : Sem α→Option α
 | .pure a => some a
 | .program k => pureRun P (k P)
 | _ => none
theorem pureRun_sound {α : Type} {a : α} (w : World) : ∀ (s : Sem α),pureRun P s = some a→s.run P w = .ok a w
 | .pure _,h => by cases h; rfl
 | .program k,h => by simp only [pureRun] at h; simpa [Sem.run] using pureRun_sound w (k P) h
 | .load ..,h | .store ..,h | .new ..,h | .shape ..,h | .freeze ..,h | .frozen ..,h | .getObj ..,h | .setObj ..,h | .choose ..,h | .sys ..,h | .mark ..,h | .halt ..,h => by cases h
def nilCmp (P : Program) (t : TypeId) (x y : Value) : Option Bool :=
 match P.underlying t,x,y with
 | some (.slice _),.slice none _ _,.slice b _ _ => some b.isNone
 | some (.slice _),.slice (some _) _ _,.slice none _ _ => some false
 | some (.map _ _),.map none,.map b => some b.isNone
 | some (.map _ _),.map (some _),.map none => some false
 | some (.func _ _ _),.nilFunc,.func _ _ _ => some false
 | some (.func _ _ _),.func _ _ _,.nilFunc => some false
 | some (.pointer _),.pointer none,.pointer b => some b.isNone
 | some (.pointer _),.pointer (some _),.pointer none => some false
 | _,_,_ => none
def evBin (P : Program) (op : BinOp) (t : TypeId) (xo yo : Operand) (x y : Value) : Option Value :=
 if sc 0 x = true∧sc 0 y = true then
   (pureRun P (do eqGuard op t xo yo x y; binOp op t x y)).bind fun v => if sc 0 v = true then some v else none
 else match op with
   | .eql => (nilCmp P t x y).map .bool
   | .neq => (nilCmp P t x y).map fun b => .bool !b
   | _ => none
section
variable {t : TypeId} {d : Nat}
theorem eqIn_slice0 {e : TypeId} (h : P.underlying t = some (.slice e)) (n c m k : Nat) (b : Option Addr) : (Op.equalIn (d + 1) t (.slice none n c) (.slice b m k)).run P w = .ok b.isNone w := by
 simp [Op.equalIn,run_underlying h]
theorem eqIn_slice1 {e : TypeId} (h : P.underlying t = some (.slice e)) (n c m k : Nat) (a : Addr) : (Op.equalIn (d + 1) t (.slice (some a) n c) (.slice none m k)).run P w = .ok false w := by
 simp [Op.equalIn,run_underlying h]
theorem eqIn_map0 {k e : TypeId} (h : P.underlying t = some (.map k e)) (b : Option Nat) : (Op.equalIn (d + 1) t (.map none) (.map b)).run P w = .ok b.isNone w := by
 simp [Op.equalIn,run_underlying h]
theorem eqIn_map1 {k e : TypeId} (h : P.underlying t = some (.map k e)) (b : Nat) : (Op.equalIn (d + 1) t (.map (some b)) (.map none)).run P w = .ok false w := by
 simp [Op.equalIn,run_underlying h]
theorem eqIn_func0 {a b : Array TypeId} {v : Bool} (h : P.underlying t = some (.func a b v)) (f : Fn) (x y : Array Value) : (Op.equalIn (d + 1) t .nilFunc (.func f x y)).run P w = .ok false w := by
 simp [Op.equalIn,run_underlying h]
theorem eqIn_func1 {a b : Array TypeId} {v : Bool} (h : P.underlying t = some (.func a b v)) (f : Fn) (x y : Array Value) : (Op.equalIn (d + 1) t (.func f x y) .nilFunc).run P w = .ok false w := by
 simp [Op.equalIn,run_underlying h]
theorem eqIn_ptr0 {e : TypeId} (h : P.underlying t = some (.pointer e)) (b : Option Addr) : (Op.equalIn (d + 1) t (.pointer none) (.pointer b)).run P w = .ok b.isNone w := by
 simp [Op.equalIn,run_underlying h]
theorem eqIn_ptr1 {e : TypeId} (h : P.underlying t = some (.pointer e)) (a : Addr) : (Op.equalIn (d + 1) t (.pointer (some a)) (.pointer none)).run P w = .ok false w := by
 simp [Op.equalIn,run_underlying h]
end
section
variable {t : TypeId}
theorem equal_slice0 {e : TypeId} (h : P.underlying t = some (.slice e)) (n c m k : Nat) (b : Option Addr) : (Op.equal t (.slice none n c) (.slice b m k)).run P w = .ok b.isNone w := eqIn_slice0 h _ _ _ _ _
theorem equal_slice1 {e : TypeId} (h : P.underlying t = some (.slice e)) (n c m k : Nat) (a : Addr) : (Op.equal t (.slice (some a) n c) (.slice none m k)).run P w = .ok false w := eqIn_slice1 h _ _ _ _ _
theorem equal_map0 {k e : TypeId} (h : P.underlying t = some (.map k e)) (b : Option Nat) : (Op.equal t (.map none) (.map b)).run P w = .ok b.isNone w := eqIn_map0 h _
theorem equal_map1 {k e : TypeId} (h : P.underlying t = some (.map k e)) (b : Nat) : (Op.equal t (.map (some b)) (.map none)).run P w = .ok false w := eqIn_map1 h _
theorem equal_func0 {a b : Array TypeId} {v : Bool} (h : P.underlying t = some (.func a b v)) (f : Fn) (x y : Array Value) : (Op.equal t .nilFunc (.func f x y)).run P w = .ok false w := eqIn_func0 h _ _ _
theorem equal_func1 {a b : Array TypeId} {v : Bool} (h : P.underlying t = some (.func a b v)) (f : Fn) (x y : Array Value) : (Op.equal t (.func f x y) .nilFunc).run P w = .ok false w := eqIn_func1 h _ _ _
theorem equal_ptr0 {e : TypeId} (h : P.underlying t = some (.pointer e)) (b : Option Addr) : (Op.equal t (.pointer none) (.pointer b)).run P w = .ok b.isNone w := eqIn_ptr0 h _
theorem equal_ptr1 {e : TypeId} (h : P.underlying t = some (.pointer e)) (a : Addr) : (Op.equal t (.pointer (some a)) (.pointer none)).run P w = .ok false w := eqIn_ptr1 h _
end
theorem guard_other (op : BinOp) (t : TypeId) (xo yo : Operand) (a b : Value) (h1 : a = .nilIface→False) (h2 : ∀ cs,a = .agg cs→False) : (eqGuard op t xo yo a b).run P w = .ok () w := by
 have : eqGuard op t xo yo a b = pure () := by
   unfold eqGuard
   cases a <;> first | exact (h1 rfl).elim | exact (h2 _ rfl).elim | (cases op <;> rfl)
 rw [this]
 rfl
theorem nilCmp_sound {t : TypeId} {x y : Value} {b : Bool} (h : nilCmp P t x y = some b) :
   (Op.equal t (ren ρ x) (ren ρ y)).run P w = .ok b w∧(∀ op xo yo,(eqGuard op t xo yo (ren ρ x) (ren ρ y)).run P w = .ok () w) ∧
   binOp .eql t (ren ρ x) (ren ρ y) = (do pure (.bool (← Op.equal t (ren ρ x) (ren ρ y))))∧binOp .neq t (ren ρ x) (ren ρ y) = (do pure (.bool (!(← Op.equal t (ren ρ x) (ren ρ y))))) := by
 unfold nilCmp at h
 split at h <;> cases h
 all_goals
   rename_i hu
   refine ⟨?_,fun op xo yo => ?_,?_,?_⟩
   · simp only [ren,ren2,ren1,ren0]
     first
       | exact equal_slice0 hu _ _ _ _ _
       | exact equal_slice1 hu _ _ _ _ _
       | exact equal_map0 hu _
       | exact equal_map1 hu _
       | exact equal_func0 hu _ _ _
       | exact equal_func1 hu _ _ _
       | exact equal_ptr0 hu _
       | exact equal_ptr1 hu _
       | (cases ‹Option Addr› <;> first | exact equal_slice0 hu _ _ _ _ _ | exact equal_ptr0 hu _)
       | (cases ‹Option Nat› <;> exact equal_map0 hu _)
   · exact guard_other _ _ _ _ _ _ (by intro h1; simp only [ren,ren2,ren1,ren0] at h1; first | cases h1 | (cases ‹Option Addr› <;> cases h1) | (cases ‹Option Nat› <;> cases h1)) (by intro cs h1; simp only [ren,ren2,ren1,ren0] at h1; first | cases h1 | (cases ‹Option Addr› <;> cases h1) | (cases ‹Option Nat› <;> cases h1))
   · simp only [ren,ren2,ren1,ren0]
     first
       | rfl
       | (cases ‹Option Addr› <;> rfl)
       | (cases ‹Option Nat› <;> rfl)
   · simp only [ren,ren2,ren1,ren0]
     first
       | rfl
       | (cases ‹Option Addr› <;> rfl)
       | (cases ‹Option Nat› <;> rfl)
theorem evBin_sound {op : BinOp} {t : TypeId} {xo yo : Operand} {x y v : Value} (h : evBin P op t xo yo x y = some v) (n : Nat) :
   ((do eqGuard op t xo yo (ren ρ x) (ren ρ y); binOp op t (ren ρ x) (ren ρ y)) : Sem Value).run P w = .ok (ren ρ v) w∧sc n v = true := by
 unfold evBin at h
 split at h
 · rename_i hc
   simp only [Option.bind_eq_some_iff] at h
   obtain ⟨u,h1,h2⟩ := h
   split at h2
   · cases h2
     rw [ren_closed hc.1,ren_closed hc.2,ren_closed ‹sc 0 v = true›]
     exact ⟨pureRun_sound w _ h1,sc_mono (Nat.zero_le _) ‹sc 0 v = true›⟩
   · cases h2
 · split at h
   · simp only [Option.map_eq_some_iff] at h
     obtain ⟨b,h1,rfl⟩ := h
     obtain ⟨k1,k2,k3,_⟩ := nilCmp_sound (ρ := ρ) (w := w) h1
     refine ⟨?_,rfl⟩
     simp only [Sem.run_bind,k2,Result.andThen_ok,k3,k1]
     rfl
   · simp only [Option.map_eq_some_iff] at h
     obtain ⟨b,h1,rfl⟩ := h
     obtain ⟨k1,k2,_,k3⟩ := nilCmp_sound (ρ := ρ) (w := w) h1
     refine ⟨?_,rfl⟩
     simp only [Sem.run_bind,k2,Result.andThen_ok,k3,k1]
     rfl
   · cases h
def evPure1 (P : Program) (f : Value→Sem Value) (x : Value) : Option Value :=
 if sc 0 x = true then (pureRun P (f x)).bind fun v => if sc 0 v = true then some v else none else none
theorem evPure1_sound {f : Value→Sem Value} {x v : Value} (h : evPure1 P f x = some v) (n : Nat) : (f (ren ρ x)).run P w = .ok (ren ρ v) w∧sc n v = true := by
 unfold evPure1 at h
 split at h
 · rename_i hc
   simp only [Option.bind_eq_some_iff] at h
   obtain ⟨u,h1,h2⟩ := h
   split at h2
   · cases h2
     rw [ren_closed hc,ren_closed ‹sc 0 v = true›]
     exact ⟨pureRun_sound w _ h1,sc_mono (Nat.zero_le _) ‹sc 0 v = true›⟩
   · cases h2
 · cases h
def aPart (P : Program) (t : TypeId) (cs : Array Value) (off : Nat) : Option Value :=
 match isAggT P t with
 | some true => (sizeT P t).map fun n => .agg (cs.extract off (off + n))
 | some false => cs[off]?
 | none => none
theorem aPart_sound {n : Nat} {t : TypeId} {cs : Array Value} {off : Nat} {v : Value} (h : aPart P t cs off = some v) (hs : cs.all (sc1 n) = true) :
   (part t (cs.map (ren1 ρ)) off).run P w = .ok (ren ρ v) w∧sc n v = true := by
 unfold aPart at h
 split at h
 · rename_i h0
   simp only [Option.map_eq_some_iff] at h
   obtain ⟨m,hm,rfl⟩ := h
   refine ⟨?_,?_⟩
   · simp [part,run_isAgg h0,run_sizeOf hm,ren,ren2,Array.map_extract]
   · show (cs.extract off (off + m)).all (sc1 n) = true
     refine Array.all_eq_true'.2 fun v hv => ?_
     obtain ⟨i,hi⟩ := Array.getElem?_of_mem hv
     rw [Array.getElem?_extract] at hi
     split at hi
     · exact (by simpa using Array.all_eq_true'.1 hs v (Array.mem_of_getElem? hi))
     · cases hi
 · rename_i h0
   have hv : sc1 n v = true := by simpa using Array.all_eq_true'.1 hs v (Array.mem_of_getElem? h)
   refine ⟨?_,sc_of_sc2 (sc2_of_sc1 hv)⟩
   rw [ren_of_sc2 (sc2_of_sc1 hv),ren2_of_sc1 hv]
   simp [part,run_isAgg h0,h]
 · cases h
def aField (P : Program) (t : TypeId) (x : Value) (f : Nat) : Option Value :=
 match P.underlying t,x with
 | some (.struct fields),.agg cs => (fields[f]?).bind fun fd => aPart P fd.type cs fd.offset
 | _,_ => none
theorem aField_sound {n : Nat} {t : TypeId} {x v : Value} {f : Nat} (h : aField P t x f = some v) (hs : sc n x = true) :
   (Instr.field t (ren ρ x) f).run P w = .ok (ren ρ v) w∧sc n v = true := by
 unfold aField at h
 split at h
 · rename_i fields cs hu
   simp only [Option.bind_eq_some_iff] at h
   obtain ⟨fd,hf,h⟩ := h
   obtain ⟨h1,h2⟩ := aPart_sound (ρ := ρ) (w := w) (n := n) h hs
   refine ⟨?_,h2⟩
   simp [Instr.field,run_underlying hu,hf,ren,ren2,asAgg,h1]
 · cases h
def aIndex (P : Program) (t : TypeId) (x ix : Value) : Option Value :=
 match P.underlying t,x,ix with
 | some (.array len elem),.agg cs,.int _ i => if 0≤i∧i < len then (sizeT P elem).bind fun s => aPart P elem cs (i.toNat * s) else none
 | some .string,.string s,.int _ i => if 0≤i then (s[i.toNat]?).map fun b => .int .u8 b.toNat else none
 | _,_,_ => none
theorem aIndex_sound {n : Nat} {t : TypeId} {x ix v : Value} (h : aIndex P t x ix = some v) (hs : sc n x = true) :
   (Instr.index t (ren ρ x) (ren ρ ix)).run P w = .ok (ren ρ v) w∧sc n v = true := by
 unfold aIndex at h
 split at h
 · rename_i len elem cs k i hu
   split at h
   · rename_i hc
     simp only [Option.bind_eq_some_iff] at h
     obtain ⟨s,hsz,h⟩ := h
     obtain ⟨h1,h2⟩ := aPart_sound (ρ := ρ) (w := w) (n := n) h hs
     refine ⟨?_,h2⟩
     simp [Instr.index,run_underlying hu,ren,ren2,ren1,ren0,asIntOf,hc,run_sizeOf hsz,h1]
   · cases h
 · rename_i s k i hu
   split at h
   · rename_i hc
     simp only [Option.map_eq_some_iff] at h
     obtain ⟨b,hb,rfl⟩ := h
     refine ⟨?_,rfl⟩
     simp [Instr.index,run_underlying hu,ren,ren2,ren1,ren0,asIntOf,hc,hb]
   · cases h
 · cases h
end Go.Pier
