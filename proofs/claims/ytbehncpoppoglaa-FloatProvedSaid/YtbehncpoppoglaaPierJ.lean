import Derived.Test.YtbehncpoppoglaaPierI
import Derived.LoopNIn
import Derived.OrdersIn
import Derived.Scope
import Derived.RangeFuncLeaves
set_option linter.unusedSimpArgs false
set_option linter.unusedVariables false
namespace Go.Pier
open Go
variable {P : Program} {ρ : Ren} {H H' : Heap} {w : World}
structure Place where
 ds : List Deferred
 ro : Option Nat
abbrev Place.top : Place := ⟨[],none⟩
def Place.F (D : Place) : Fence := { Fence.wide with round := D.ro }
variable {D : Place}
def aeval (t : Array Value) : Operand→Option Value
 | .tmp k => some (t.getD k undef)
 | .const v => if sc 0 v = true then some v else none
 | .global _ => none
 | .func f => some (.func (.func f) #[] #[])
def aput (t : Array Value) (dst : Option Tmp) (v : Value) : Array Value :=
 match dst with
 | some d => t.setIfInBounds d v
 | none => t
def act (D : Place) (ρ : Ren) (t : Array Value) : Act := ⟨t.map (ren ρ),D.ds⟩
theorem getD_map_ren (t : Array Value) (k : Nat) : (t.map (ren ρ)).getD k undef = ren ρ (t.getD k undef) := by
 simp only [Array.getD_eq_getD_getElem?,Array.getElem?_map]
 cases t[k]? with
 | none => simp [undef,ren]
 | some v => rfl
theorem getD_sc {n : Nat} {t : Array Value} (h : t.all (sc n) = true) (k : Nat) : sc n (t.getD k undef) = true := by
 simp only [Array.getD_eq_getD_getElem?]
 cases hk : t[k]? with
 | none => simp [undef,sc]
 | some v => exact Array.all_eq_true'.1 h v (Array.mem_of_getElem? hk)
theorem aeval_ok {t : Array Value} {n : Nat} (h : t.all (sc n) = true) : EnvOk ρ n (aeval t) (act D ρ t).eval := by
 intro x v hx
 cases x with
 | tmp k =>
   simp only [aeval,Option.some.injEq] at hx
   subst hx
   exact ⟨getD_sc h k,getD_map_ren t k⟩
 | const u =>
   simp only [aeval] at hx
   split at hx
   · rename_i hc
     cases hx
     exact ⟨sc_mono (Nat.zero_le _) hc,(ren_closed hc).symm⟩
   · cases hx
 | global g => cases hx
 | func f =>
   simp only [aeval,Option.some.injEq] at hx
   subst hx
   exact ⟨by simp [sc,sc2,sc1],by simp [Act.eval,ren,ren2,ren1]⟩
theorem aput_sc {n : Nat} {t : Array Value} {d : Option Tmp} {v : Value} (h : t.all (sc n) = true) (hv : sc n v = true) : (aput t d v).all (sc n) = true := by
 cases d with
 | none => exact h
 | some d =>
   refine Array.all_eq_true'.2 fun u hu => ?_
   rcases Array.mem_or_eq_of_mem_setIfInBounds hu with h1 | h1
   · exact Array.all_eq_true'.1 h u h1
   · rw [h1]; exact hv
theorem act_put (t : Array Value) (d : Option Tmp) (v : Value) : (act D ρ t).put d (ren ρ v) = act D ρ (aput t d v) := by
 cases d with
 | none => rfl
 | some d => simp [Act.put,act,aput]
theorem sc_undef (n : Nat) : sc n undef = true := by simp [undef,sc]
theorem ren_undef (ρ : Ren) : ren ρ undef = undef := by simp [undef,ren]
theorem act_agree {n : Nat} {ρ ρ' : Ren} (h : Agree n ρ ρ') {t : Array Value} (ht : t.all (sc n) = true) : act D ρ t = act D ρ' t := by
 unfold act
 congr 1
 exact map_congr_all (fun v hv => (ren_agree h hv).symm) t ht
theorem ren_bool_iff {v : Value} {b : Bool} : ren ρ v = .bool b ↔ v = .bool b := by
 constructor
 · intro h
   cases v with
   | bool c => simpa [ren,ren2,ren1,ren0] using h
   | pointer a => cases a <;> simp [ren,ren2,ren1,ren0] at h
   | slice a n c => cases a <;> simp [ren,ren2,ren1,ren0] at h
   | map r => cases r <;> simp [ren,ren2,ren1,ren0] at h
   | _ => simp [ren,ren2,ren1,ren0] at h
 · intro h; subst h; rfl
theorem yielded_ren (ops : Array Oper) (t : Array Value) : yielded ops (t.map (ren ρ)) = yielded ops t := by
 funext j
 unfold yielded
 cases hd : (ops[j]?).bind (·.dst) with
 | none => rfl
 | some d =>
   simp only [Option.bind_some,Array.getElem?_map]
   cases ht : t[d]? with
   | none => rfl
   | some v =>
     simp only [Option.map_some]
     cases hv : ren ρ v with
     | bool b => rw [ren_bool_iff.1 hv]
     | _ =>
       cases v with
       | bool c => simp [ren,ren2,ren1,ren0] at hv
       | _ => rfl
section
variable {F : Fence} {n : Nat} {b : Frame} {a : Act} {k : List Item} {cs : List Frame} {Q : Exit→Act→World→Prop}
theorem stepR_scope {c : Code} : step P (lone (b.atR a (.code (.scope c) :: k)) cs w) = .next (lone (b.atR a (.code c :: .inScope c :: k)) cs w) :=
 step_lone_go (by simp [stepG,stepG.exec,Frame.atR])
theorem stepR_inScope {c : Code} : step P (lone (b.atR a (.inScope c :: k)) cs w) = .next (lone (b.atR a k) cs w) :=
 step_lone_go (by simp [stepG,stepG.exec,Frame.atR])
theorem wpIn_scope_straight {c : Code} (h : c.wpIn F n P (Exit.noGoto Q) a w) : (Code.scope c).wpIn F n P Q a w := by
 intro b k cs hro hb hr
 have h0 : (lone (b.atR a (.code (.scope c) :: k)) cs w).fenced P F := fenced_calm hb hr rfl
 obtain ⟨e,a₁,w₁,hq,harr⟩ := h b (.inScope c :: k) cs hro hb hr
 cases e with
 | normal => exact ⟨.normal,a₁,w₁,hq,.head h0 stepR_scope (StepsIn.trans harr (.one (fenced_calm hb hr rfl) stepR_inScope))⟩
 | exit id =>
   have hx : exitTo id (.inScope c :: k) = exitTo id k := by simp [exitTo]
   exact ⟨.exit id,a₁,w₁,hq,fun k' hk => .head h0 stepR_scope (harr.1 k' (by rw [hx]; exact hk)),
     fun hr' hk => let ⟨k₁,h1,h2⟩ := harr.2 hr' (by rw [hx]; exact hk); ⟨k₁,h1,.head h0 stepR_scope h2⟩⟩
 | goto l => exact hq.elim
 | ret => exact ⟨_,a₁,w₁,hq,.of_steps (.one h0 stepR_scope) harr⟩
 | panic ch => exact ⟨_,a₁,w₁,hq,.of_steps (.one h0 stepR_scope) harr⟩
 | outgrown => exact ⟨_,a₁,w₁,hq,.of_steps (.one h0 stepR_scope) harr⟩
end
theorem evOp_defer {env : Operand→Option Value} {o : Oper} {q : ONext × Heap} (h : evOp P env H o = some q) : ∀ c,o.op ≠ .defer c := by
 intro c hc
 unfold evOp at h
 rw [hc] at h
 cases h
def Call (P : Program) (f : FuncId) (args : List Value) (H : Heap) (Q : Value→Heap→Prop) : Prop :=
 ∀ ρ w,Rel ρ H w→args.all (sc H.length) = true→Calls P f (args.map (ren ρ)).toArray w fun e w' =>
   ∃ ρ' v H',e = .returned (ren ρ' v)∧Q v H'∧Rel ρ' H' w'∧Ext ρ H w ρ' H' w'∧sc H'.length v = true
theorem Call.mono {f : FuncId} {args : List Value} {Q Q' : Value→Heap→Prop} (h : Call P f args H Q) (hq : ∀ v H',Q v H'→Q' v H') : Call P f args H Q' :=
 fun ρ w R hs => (h ρ w R hs).mono fun _ _ ⟨ρ',v,H',h1,h2,h3⟩ => ⟨ρ',v,H',h1,hq _ _ h2,h3⟩
def opNext (o : Oper) (H : Heap) (t : Array Value) (K : Array Value→Heap→Prop) : Prop :=
 match o.op with
 | .next x false => match aeval t x with
   | some v => match aNext H v with
     | some outs => ∀ p ∈ outs,K (aput t o.dst p.1) p.2
     | none => False
   | none => False
 | _ => False
def Yield (P : Program) (b : Nat) (args : List Value) (H : Heap) (Q : Value→Heap→Prop) : Prop :=
 ∀ ρ w,Rel ρ H w→args.all (sc H.length) = true→∃ fn tmps assign body,(Instr.yield (ρ.φ b) (args.map (ren ρ)).toArray).run P w = .ok (.round (ρ.φ b) fn tmps assign body) w ∧
   RoundIn Fence.wide 0 P (ρ.φ b) fn tmps assign body w fun e w' => ∃ ρ' v H',e = .returned (ren ρ' v)∧Q v H'∧Rel ρ' H' w'∧Ext ρ H w ρ' H' w'∧sc H'.length v = true
theorem Yield.mono {b : Nat} {args : List Value} {Q Q' : Value→Heap→Prop} (h : Yield P b args H Q) (hq : ∀ v H',Q v H'→Q' v H') : Yield P b args H Q' := fun ρ w R hs =>
 let ⟨fn,tmps,assign,body,h1,h2⟩ := h ρ w R hs
 ⟨fn,tmps,assign,body,h1,h2.mono fun _ _ ⟨ρ',v,H',k1,k2,k3⟩ => ⟨ρ',v,H',k1,hq _ _ k2,k3⟩⟩
def yieldOf (env : Operand→Option Value) (o : Oper) : Option (Nat × List Value) :=
 match o.op with
 | .call c => match c.callee with
   | .value f => match env f,envs env c.args.toList with
     | some (.func (.yield b) a _),some args => if a.isEmpty = true then some (b,args) else none
     | _,_ => none
   | _ => none
 | _ => none
def opYield (P : Program) (o : Oper) (H : Heap) (t : Array Value) (K : Array Value→Heap→Prop) : Prop :=
 match yieldOf (aeval t) o with
 | some (b,args) => Yield P b args H fun v H2 => K (aput t o.dst v) H2
 | none => False
theorem yield_run {o : Oper} {env : Operand→Option Value} {ρC : Operand→Value} {b : Nat} {args : List Value} {N : Next} (E : EnvOk ρ H.length env ρC) (h : yieldOf env o = some (b,args))
   (hN : (Instr.yield (ρ.φ b) (args.map (ren ρ)).toArray).run P w = .ok N w) : (execOp ρC o).run P w = .ok N w := by
 unfold yieldOf at h
 split at h <;> try (cases h; done)
 rename_i c hop
 split at h <;> try (cases h; done)
 rename_i f hcal
 split at h <;> try (cases h; done)
 rename_i b' a cap args' hf ha
 split at h <;> try (cases h; done)
 rename_i hemp
 cases h
 obtain rfl : a = #[] := by simpa using hemp
 obtain ⟨f1,f2⟩ := E _ _ hf
 obtain ⟨a1,a2⟩ := envs_sound E _ _ ha
 unfold execOp
 rw [hop]
 simp only [resolve,hcal,f2,args_array a2]
 have e1 : ren ρ (.func (.yield b) #[] cap) = .func (.yield (ρ.φ b)) #[] (cap.map (ren0 ρ)) := by simp [ren,ren2,ren1]
 rw [e1]
 simp only [Deferred.ofValue,Sem.run_bind,Sem.run_pure,Result.andThen_ok,invoke]
 simpa using hN
theorem yield_args {o : Oper} {env : Operand→Option Value} {ρC : Operand→Value} {n b : Nat} {args : List Value} (E : EnvOk ρ n env ρC) (h : yieldOf env o = some (b,args)) : args.all (sc n) = true∧∀ c,o.op ≠ .defer c := by
 unfold yieldOf at h
 split at h <;> try (cases h; done)
 rename_i c hop
 split at h <;> try (cases h; done)
 split at h <;> try (cases h; done)
 rename_i ha
 split at h <;> try (cases h; done)
 cases h
 exact ⟨(envs_sound E _ _ ha).1,fun c' hc => by rw [hop] at hc; cases hc⟩
def opRow (P : Program) (o : Oper) (H : Heap) (t : Array Value) (K : Array Value→Heap→Prop) : Prop :=
 match rowOf P (aeval t) H o with
 | some (v,H1) => K (aput t o.dst v) H1
 | none => False
def opStep (P : Program) (ops : Array Oper) (i : Nat) (H : Heap) (t : Array Value) (K : Array Value→Heap→Prop) : Prop :=
 match ops[i]? with
 | none => K t H
 | some o =>
   if Region.wanted o (yielded ops t) = true then
     match evOp P (aeval t) H o with
     | some (.value v,H1) => K (aput t o.dst v) H1
     | some (.skip,H1) => K (aput t o.dst undef) H1
     | some (.enter f args,H1) => Call P f args H1 fun v H2 => K (aput t o.dst v) H2
     | none => (opNext o H t K∨opYield P o H t K)∨opRow P o H t K
   else K (aput t o.dst undef) H
def After (D : Place) (ρ : Ren) (H : Heap) (w : World) (K : Array Value→Heap→Prop) (a : Act) (w' : World) : Prop :=
 ∃ ρ' t H',a = act D ρ' t∧K t H'∧Rel ρ' H' w'∧Ext ρ H w ρ' H' w'∧t.all (sc H'.length) = true
theorem opStep_sound {ops : Array Oper} {i : Nat} {t : Array Value} {K : Array Value→Heap→Prop} {Q : Exit→Act→World→Prop} {K' : Act→World→Prop} (R : Rel ρ H w) (hs : t.all (sc H.length) = true)
   (h : opStep P ops i H t K) (hK : ∀ a w',After D ρ H w K a w'→K' a w') : wpOpIn D.F 0 P ops Q i K' (act D ρ t) w := by
 unfold opStep at h
 unfold wpOpIn
 cases ho : ops[i]? with
 | none =>
   rw [ho] at h
   exact hK _ _ ⟨ρ,t,H,rfl,h,R,Ext.refl _ _ _,hs⟩
 | some o =>
   rw [ho] at h
   simp only at h ⊢
   rw [show yielded ops (act D ρ t).tmps = yielded ops t from yielded_ren ops t]
   split at h
   · rename_i hw
     rw [if_pos hw]
     refine ⟨fun _ _ => trivial,?_⟩
     cases he : evOp P (aeval t) H o with
     | none =>
       rw [he] at h
       rcases h with h | h
       case inr =>
         unfold opRow at h
         split at h <;> try (exact h.elim)
         rename_i v H1 hrow
         obtain ⟨ρ',w',h1,h2,h3,h4⟩ := rowOf_sound (w := w) R (aeval_ok (D := D) hs) hrow
         rw [Oper.semAt_eq _ _ _ (rowOf_defer hrow),h1]
         simp only [ONext.to,Oper.uponIn]
         have hs' : t.all (sc H1.length) = true := all_mono (fun _ => sc_mono h3.len) t hs
         refine hK _ _ ⟨ρ',_,H1,?_,h,h2,h3,aput_sc hs' h4⟩
         rw [act_agree h3.agreeN hs,act_put]
       rcases h with h | h
       case inr =>
         unfold opYield at h
         split at h <;> try (exact h.elim)
         rename_i b args hy
         have hE := aeval_ok (D := D) (ρ := ρ) hs
         obtain ⟨a1,a2⟩ := yield_args hE hy
         obtain ⟨fn,tmps,assign,body,h1,h2⟩ := h ρ w R a1
         rw [Oper.semAt_eq _ _ _ a2,yield_run hE hy h1]
         rw [Oper.uponIn_round]
         refine ⟨fun hd => (by cases hd),RoundIn.mono (F := Fence.wide) h2 ?_⟩
         rintro e w'' ⟨ρ2,v,H2,rfl,k1,k2,k3,k4⟩
         simp only
         refine hK _ _ ⟨ρ2,_,H2,?_,k1,k2,k3,aput_sc (all_mono (fun _ => sc_mono k3.len) t hs) k4⟩
         rw [act_agree k3.agreeN hs,act_put]
       unfold opNext at h
       split at h <;> try (exact h.elim)
       rename_i x hop
       split at h <;> try (exact h.elim)
       rename_i v hv
       split at h <;> try (exact h.elim)
       rename_i outs hn
       obtain ⟨_,ev⟩ := aeval_ok (D := D) (ρ := ρ) hs _ _ hv
       obtain ⟨u,H1,w',h1,h2,h3,h4,h5⟩ := aNext_sound (P := P) R o.type hn
       have hrun : (execOp (act D ρ t).eval o).run P w = .ok (.value (ren ρ u)) w' := by
         unfold execOp
         rw [hop]
         simp only [ev,Sem.run_bind,h2,Result.andThen_ok,Sem.run_pure]
       rw [Oper.semAt_eq _ _ _ (by intro c hc; rw [hop] at hc; cases hc),hrun]
       simp only [Oper.uponIn]
       refine hK _ _ ⟨ρ,_,H1,act_put _ _ _,h (u,H1) h1,h3,h4,aput_sc (all_mono (fun _ => sc_mono h4.len) t hs) h5⟩
     | some r =>
       obtain ⟨r,H1⟩ := r
       rw [he] at h
       obtain ⟨ρ',w',h1,h2,h3,h4⟩ := evOp_sound (w := w) R (aeval_ok hs) he
       rw [Oper.semAt_eq _ _ _ (evOp_defer he),h1]
       have hs' : t.all (sc H1.length) = true := all_mono (fun _ => sc_mono h3.len) t hs
       have ha : act D ρ t = act D ρ' t := act_agree h3.agreeN hs
       cases r with
       | value v =>
         simp only [ONext.to,Oper.uponIn]
         refine hK _ _ ⟨ρ',_,H1,?_,h,h2,h3,aput_sc hs' h4⟩
         rw [ha,act_put]
       | skip =>
         simp only [ONext.to,Oper.uponIn]
         refine hK _ _ ⟨ρ',_,H1,?_,h,h2,h3,aput_sc hs' (sc_undef _)⟩
         rw [ha,← ren_undef ρ',act_put,ren_undef]
       | enter f args =>
         simp only [ONext.to,Oper.uponIn]
         refine ⟨fun hd => (by cases hd),CallsIn.mono (callsIn_wide.2 (h ρ' w' h2 h4)) ?_⟩
         rintro e w'' ⟨ρ2,v,H2,rfl,k1,k2,k3,k4⟩
         simp only
         refine hK _ _ ⟨ρ2,_,H2,?_,k1,k2,h3.trans k3,aput_sc (all_mono (fun _ => sc_mono k3.len) t hs') k4⟩
         rw [ha,act_agree k3.agreeN hs',act_put]
   · rename_i hw
     rw [if_neg hw]
     refine ⟨fun _ _ => trivial,hK _ _ ⟨ρ,_,H,?_,h,R,Ext.refl _ _ _,aput_sc hs (sc_undef _)⟩⟩
     rw [← ren_undef ρ,act_put,ren_undef]
def opsSeq (P : Program) (ops : Array Oper) : List Nat→Heap→Array Value→(Array Value→Heap→Prop)→Prop
 | [],H,t,K => K t H
 | i :: r,H,t,K => opStep P ops i H t fun t H => opsSeq P ops r H t K
inductive AExit where
 | normal
 | exit (id : Nat)
 | ret
 deriving DecidableEq,Inhabited
def AExit.to : AExit→Exit
 | .normal => .normal
 | .exit id => .exit id
 | .ret => .ret
def Mark (base : Nat) (ρ : Ren) (H : Heap) (w : World) (d : Deferred) : Prop :=
 ∃ r,d.target = .collected r∧base≤r∧w.heap[r]? = some (.deferred (some []))∧∀ b,wr H b = true→ρ.φ b ≠ r
structure Marks (base : Nat) (ρ : Ren) (H : Heap) (w : World) (ds : List Deferred) : Prop where
 low : base≤w.heap.size
 apart : ds.Pairwise fun d d' => d.target ≠ d'.target
 each : ∀ d ∈ ds,Mark base ρ H w d
theorem Mark.ext {base : Nat} {ρ' : Ren} {w' : World} {d : Deferred} (h : Mark base ρ H w d) (X : Ext ρ H w ρ' H' w') : Mark base ρ' H' w' d := by
 obtain ⟨r,h1,h2,h3,h4⟩ := h
 have hr : r < w.heap.size := by
   obtain ⟨hl,_⟩ := Array.getElem?_eq_some_iff.1 h3
   exact hl
 refine ⟨r,h1,h2,by rw [X.keep r hr h4,h3],fun b hb => ?_⟩
 rcases X.wr b hb with h5 | ⟨_,h5 | ⟨b0,h6,h7⟩⟩
 · rw [(X.agree b (.inl (wr_lt h5))).1]; exact h4 b h5
 · omega
 · rw [h7]; exact h4 b0 h6
theorem Marks.ext {base : Nat} {ρ' : Ren} {w' : World} {ds : List Deferred} (h : Marks base ρ H w ds) (X : Ext ρ H w ρ' H' w') : Marks base ρ' H' w' ds :=
 ⟨Nat.le_trans h.low X.size,h.apart,fun d hd => (h.each d hd).ext X⟩
variable {ro : Option Nat} {base : Nat} {ds : List Deferred}
def Post (base : Nat) (ro : Option Nat) (ρ : Ren) (H : Heap) (w : World) (Q : AExit→Array Value→Heap→Prop) (e : Exit) (a : Act) (w' : World) : Prop :=
 ∃ x,e = x.to∧∃ ds ρ' t H',a = act ⟨ds,ro⟩ ρ' t∧Q x t H'∧Rel ρ' H' w'∧Ext ρ H w ρ' H' w'∧t.all (sc H'.length) = true∧Marks base ρ' H' w' ds
def InRo (ro : Option Nat) (n : Nat) : Prop := ∀ b,ro = some b→b < n
theorem InRo.mono {ro : Option Nat} {n m : Nat} (h : InRo ro n) (hm : n≤m) : InRo ro m := fun b hb => Nat.lt_of_lt_of_le (h b hb) hm
theorem InRo.none (n : Nat) : InRo none n := fun _ h => by cases h
theorem ro_agree {n : Nat} {ρ ρ' : Ren} {ro : Option Nat} (h : InRo ro n) (ha : Agree n ρ ρ') : ro.map ρ'.φ = ro.map ρ.φ := by
 cases ro with
 | none => rfl
 | some b => simp only [Option.map_some,(ha b (h b rfl)).1]
def CW (ro : Option Nat) (P : Program) (c : Code) (H : Heap) (t : Array Value) (Q : AExit→Array Value→Heap→Prop) : Prop :=
 ∀ base ds ρ w,Rel ρ H w→Marks base ρ H w ds→t.all (sc H.length) = true→InRo ro H.length→c.wpIn (Place.F ⟨ds,ro.map ρ.φ⟩) 0 P (Post base (ro.map ρ.φ) ρ H w Q) (act ⟨ds,ro.map ρ.φ⟩ ρ t) w
variable {t : Array Value} {Q : AExit→Array Value→Heap→Prop} {c x y : Code}
theorem Post.trans {ρ1 : Ren} {H1 : Heap} {w1 : World} {e : Exit} {a : Act} {w' : World} (X : Ext ρ H w ρ1 H1 w1) (h : Post base ro ρ1 H1 w1 Q e a w') : Post base ro ρ H w Q e a w' :=
 let ⟨x,h1,ds,ρ',t,H',h2,h3,h4,h5,h6⟩ := h; ⟨x,h1,ds,ρ',t,H',h2,h3,h4,X.trans h5,h6⟩
theorem Post.here {x : AExit} (R : Rel ρ H w) (M : Marks base ρ H w ds) (hs : t.all (sc H.length) = true) (h : Q x t H) : Post base ro ρ H w Q x.to (act ⟨ds,ro⟩ ρ t) w :=
 ⟨x,rfl,ds,ρ,t,H,rfl,h,R,Ext.refl _ _ _,hs,M⟩
theorem CW.mono {Q' : AExit→Array Value→Heap→Prop} (h : CW ro P c H t Q) (hq : ∀ x t H,Q x t H→Q' x t H) : CW ro P c H t Q' :=
 fun base ds ρ w R M hs hr => wpIn_mono (h base ds ρ w R M hs hr) fun _ _ _ ⟨x,h1,ds',ρ',t',H',h2,h3,h4⟩ => ⟨x,h1,ds',ρ',t',H',h2,hq _ _ _ h3,h4⟩
theorem CW.skip (h : Q .normal t H) : CW ro P .skip H t Q := fun _ _ _ _ R M hs _ => wpIn_skip (Post.here (x := .normal) R M hs h)
theorem CW.label {l : Nat} (h : Q .normal t H) : CW ro P (.label l) H t Q := fun _ _ _ _ R M hs _ => wpIn_label (Post.here (x := .normal) R M hs h)
theorem CW.exit {id : Nat} (h : Q (.exit id) t H) : CW ro P (.exit id) H t Q := fun _ _ _ _ R M hs _ => wpIn_exit (Post.here (x := .exit id) R M hs h)
theorem CW.ret (h : Q .ret t H) : CW ro P .ret H t Q := fun _ _ _ _ R M hs _ => wpIn_ret (Post.here (x := .ret) R M hs h)
def thenQ (N : Array Value→Heap→Prop) (Q : AExit→Array Value→Heap→Prop) : AExit→Array Value→Heap→Prop
 | .normal => N
 | x => Q x
theorem CW.seq (h : CW ro P x H t (thenQ (fun t H => CW ro P y H t Q) Q)) : CW ro P (.seq x y) H t Q := fun base ds ρ w R M hs hr =>
 wpIn_seq (wpIn_mono (h base ds ρ w R M hs hr) fun e a w' ⟨x,h1,ds',ρ',t',H',h2,h3,h4,h5,h6,h7⟩ => by
   subst h1; subst h2
   cases x with
   | normal =>
     have h8 := h3 base ds' ρ' w' h4 h7 h6 (hr.mono h5.len)
     rw [ro_agree hr h5.agreeN] at h8
     exact wpIn_mono h8 fun e a w hp => hp.trans h5
   | exit id => exact ⟨.exit id,rfl,ds',ρ',t',H',rfl,h3,h4,h5,h6,h7⟩
   | ret => exact ⟨.ret,rfl,ds',ρ',t',H',rfl,h3,h4,h5,h6,h7⟩)
theorem CW.cond {o : Operand} {b : Bool} (hb : aeval t o = some (.bool b)) (h : CW ro P (if b = true then x else y) H t Q) : CW ro P (.cond o x y) H t Q := fun base ds ρ w R M hs hr => by
 refine wpIn_cond (t := b) (by rw [(aeval_ok (ρ := ρ) hs _ _ hb).2]; rfl) ?_
 have := h base ds ρ w R M hs hr
 cases b <;> exact this
def blockQ (id : Nat) (Q : AExit→Array Value→Heap→Prop) : AExit→Array Value→Heap→Prop
 | .exit j => if j = id then Q .normal else Q (.exit j)
 | x => Q x
theorem CW.block {id : Nat} (h : CW ro P c H t (blockQ id Q)) : CW ro P (.block id c) H t Q := fun base ds ρ w R M hs hr =>
 wpIn_block (wpIn_mono (h base ds ρ w R M hs hr) fun e a w' ⟨x,h1,ds',ρ',t',H',h2,h3,h4⟩ => by
   subst h1
   cases x with
   | normal => exact ⟨.normal,rfl,ds',ρ',t',H',h2,h3,h4⟩
   | ret => exact ⟨.ret,rfl,ds',ρ',t',H',h2,h3,h4⟩
   | exit j =>
     simp only [blockQ] at h3
     simp only [AExit.to,Exit.inBlock]
     split at h3
     · rename_i hj; rw [if_pos hj]; exact ⟨.normal,rfl,ds',ρ',t',H',h2,h3,h4⟩
     · rename_i hj; rw [if_neg hj]; exact ⟨.exit j,rfl,ds',ρ',t',H',h2,h3,h4⟩)
theorem CW.scope (h : CW ro P c H t Q) : CW ro P (.scope c) H t Q := fun base ds ρ w R M hs hr =>
 wpIn_scope_straight (wpIn_mono (h base ds ρ w R M hs hr) fun e a w' ⟨x,h1,h2⟩ => by
   subst h1
   cases x <;> exact ⟨_,rfl,h2⟩)
theorem CW.region {id : Nat} {ops : Array Oper} (h : opsSeq P ops (List.range ops.size) H t (Q .normal)) : CW ro P (.region id ops false) H t Q := fun base ds ρ w R M hs hr => by
 refine wpIn_region ?_
 generalize ro.map ρ.φ = ro
 have key : ∀ (l : List Nat) (ρ1 : Ren) (H1 : Heap) (w1 : World) (t1 : Array Value), Rel ρ1 H1 w1 → t1.all (sc H1.length) = true → Ext ρ H w ρ1 H1 w1 → opsSeq P ops l H1 t1 (Q .normal) →
     wpOpsIn (Place.F ⟨ds,ro⟩) 0 P ops (Post base ro ρ H w Q) l (act ⟨ds,ro⟩ ρ1 t1) w1 := by
   intro l
   induction l with
   | nil => intro ρ1 H1 w1 t1 R1 s1 X1 h1; exact ⟨.normal,rfl,ds,ρ1,t1,H1,rfl,h1,R1,X1,s1,M.ext X1⟩
   | cons i r ih =>
     intro ρ1 H1 w1 t1 R1 s1 X1 h1
     rw [wpOpsIn_cons]
     refine opStep_sound (D := ⟨ds,ro⟩) R1 s1 h1 ?_
     rintro a w' ⟨ρ',t',H',rfl,k1,k2,k3,k4⟩
     exact ih ρ' H' w' t' k2 k4 (X1.trans k3) k1
 exact key _ ρ H w t R hs (Ext.refl _ _ _) h
def loopQ (ro : Option Nat) (P : Program) (c : Code) (Q : AExit→Array Value→Heap→Prop) : Nat→Array Value→Heap→Prop
 | 0 => fun _ _ => False
 | n + 1 => fun t H => CW ro P c H t (thenQ (loopQ ro P c Q n) Q)
theorem CW.loop (n : Nat) (h : loopQ ro P c Q n t H) : CW ro P (.loop c) H t Q := fun base ds ρ w R M hs hr => by
 refine wpIn_loop_rounds n ?_
 have key : ∀ (n : Nat) (ds1 : List Deferred) (ρ1 : Ren) (H1 : Heap) (w1 : World) (t1 : Array Value), Rel ρ1 H1 w1 → Marks base ρ1 H1 w1 ds1 → t1.all (sc H1.length) = true → Ext ρ H w ρ1 H1 w1 → loopQ ro P c Q n t1 H1 →
     Code.roundsIn (Place.F ⟨ds,ro.map ρ.φ⟩) 0 P c (Post base (ro.map ρ.φ) ρ H w Q) n (act ⟨ds1,ro.map ρ.φ⟩ ρ1 t1) w1 := by
   intro n
   induction n with
   | zero => intro ds1 ρ1 H1 w1 t1 R1 M1 s1 X1 h1; exact h1.elim
   | succ n ih =>
     intro ds1 ρ1 H1 w1 t1 R1 M1 s1 X1 h1
     have h8 := h1 base ds1 ρ1 w1 R1 M1 s1 (hr.mono X1.len)
     rw [ro_agree hr X1.agreeN] at h8
     refine wpIn_mono h8 fun e a w' ⟨x,k1,ds',ρ',t',H',k2,k3,k4,k5,k6,k7⟩ => ?_
     subst k1; subst k2
     cases x with
     | normal => exact ih ds' ρ' H' w' t' k4 k7 k6 (X1.trans k5) k3
     | exit id => exact ⟨.exit id,rfl,ds',ρ',t',H',rfl,k3,k4,X1.trans k5,k6,k7⟩
     | ret => exact ⟨.ret,rfl,ds',ρ',t',H',rfl,k3,k4,X1.trans k5,k6,k7⟩
 exact key n ds ρ H w t R M hs (Ext.refl _ _ _) h
def aresVar (P : Program) (t : Array Value) (H : Heap) : ResultVar→Option Value
 | .tmp k => some (t.getD k undef)
 | .cell a ty => match t.getD a undef with
   | .pointer (some p) => aloadVar P H ty p
   | _ => none
def aress (P : Program) (t : Array Value) (H : Heap) : List ResultVar→Option (List Value)
 | [] => some []
 | r :: rs => (aresVar P t H r).bind fun v => (aress P t H rs).map (v :: ·)
def aresults (P : Program) (fn : Func) (t : Array Value) (H : Heap) : Option Value :=
 (aress P t H fn.results.toList).bind fun vs => match vs with
   | [v] => some v
   | vs => if vs.all (sc2 H.length) = true then some (.tuple vs.toArray) else none
theorem aresults_sound (R : Rel ρ H w) (hs : t.all (sc H.length) = true) {fn : Func} {v : Value} (h : aresults P fn t H = some v) :
   (results fn (act D ρ t).tmps).run P w = .ok (ren ρ v) w∧sc H.length v = true := by
 simp only [aresults,Option.bind_eq_some_iff] at h
 obtain ⟨vs,h1,h2⟩ := h
 have hf : ∀ (r : ResultVar) (u : Value),aresVar P t H r = some u→((match r with | .tmp k => pure ((act D ρ t).tmps.getD k undef) | .cell a ty => do loadVar ty (← asAddr ((act D ρ t).tmps.getD a undef)) : Sem Value)).run P w = .ok (ren ρ u) w∧sc H.length u = true := by
   intro r u hu
   cases r with
   | tmp k =>
     simp only [aresVar,Option.some.injEq] at hu
     subst hu
     refine ⟨?_,getD_sc hs k⟩
     show Result.ok ((t.map (ren ρ)).getD k undef) w = _
     rw [getD_map_ren]
   | cell a ty =>
     simp only [aresVar] at hu
     split at hu
     · rename_i p hp
       obtain ⟨k1,k2⟩ := aloadVar_sound (P := P) R hu
       refine ⟨?_,sc_of_sc2 k2⟩
       have e : (act D ρ t).tmps.getD a undef = .pointer (some (ρ.addr p)) := by
         show (t.map (ren ρ)).getD a undef = _
         rw [getD_map_ren,hp]; rfl
       simp only [e,asAddr,Sem.run_bind,Sem.run_pure,Result.andThen_ok,k1]
     · cases hu
 have key : ∀ (rs : List ResultVar) (l : List Value), aress P t H rs = some l →
     (rs.mapM fun r => (match r with | .tmp k => pure ((act D ρ t).tmps.getD k undef) | .cell a ty => do loadVar ty (← asAddr ((act D ρ t).tmps.getD a undef)) : Sem Value)).run P w = .ok (l.map (ren ρ)) w∧l.all (sc H.length) = true := by
   intro rs
   induction rs with
   | nil => intro l hl; cases hl; exact ⟨by simp,rfl⟩
   | cons r rs ih =>
     intro l hl
     simp only [aress,Option.bind_eq_some_iff,Option.map_eq_some_iff] at hl
     obtain ⟨u,hu,l',hl',rfl⟩ := hl
     obtain ⟨a1,a2⟩ := hf r u hu
     obtain ⟨b1,b2⟩ := ih l' hl'
     refine ⟨?_,by simp [a2,b2]⟩
     simp only [List.mapM_cons,Sem.run_bind,a1,Result.andThen_ok,b1,Sem.run_pure,List.map_cons]
 obtain ⟨k1,k2⟩ := key _ _ h1
 have hm : (results fn (act D ρ t).tmps).run P w = .ok (if h : (vs.map (ren ρ)).toArray.size = 1 then (vs.map (ren ρ)).toArray[0] else .tuple (vs.map (ren ρ)).toArray) w := by
   unfold results
   rw [Array.mapM_eq_mapM_toList]
   simp only [Sem.run_bind,Sem.run_map,Sem.run_pure]
   erw [k1]
   rfl
 rw [hm]
 split at h2
 · cases h2
   refine ⟨by simp,by simpa using k2⟩
 · rename_i hne
   split at h2
   · rename_i hall
     cases h2
     refine ⟨?_,by simpa [sc] using hall⟩
     have hlen : ¬ (vs.map (ren ρ)).toArray.size = 1 := by
       simp only [List.size_toArray,List.length_map]
       intro hl
       obtain ⟨u,hu⟩ := List.length_eq_one_iff.1 hl
       exact hne u hu
     rw [dif_neg hlen]
     have e : vs.map (ren ρ) = vs.map (ren2 ρ) := List.map_congr_left fun u hu => ren_of_sc2 (List.all_eq_true.1 hall u hu)
     rw [e]
     simp [ren]
   · cases h2
theorem Rel.outside (R : Rel ρ H w) {r : Nat} {x : Option (List Deferred)} (hd : w.heap[r]? = some (.deferred x)) (hr : ∀ b,wr H b = true→ρ.φ b ≠ r) (o : Obj) :
   Rel ρ H { w with heap := w.heap.setIfInBounds r o } := by
 refine ⟨fun b a hb => ?_,R.inj,R.sep,R.deep,R.scp⟩
 by_cases he : ρ.φ b = r
 · have hn : a.wr = false := by
     cases ha : a.wr with
     | false => rfl
     | true => exact absurd he (hr b (by rw [wr_of_get hb]; exact ha))
   have h0 := R.obj b a hb
   cases a with
   | gone => trivial
   | mix cs =>
     refine ⟨h0.1,by simpa using h0.2.1,fun i c hi => (h0.2.2 i c hi).move (Nat.le_refl _) (fun k o' v _ hv => ?_) h0.1 rfl⟩
     by_cases hk : k = r
     · subst hk; simp only [World.cell?,hd] at hv; cases hv
     · simp only [World.cell?] at hv ⊢
       rw [Array.getElem?_setIfInBounds_ne (Ne.symm hk)]; exact hv
   | ro cs =>
     refine ⟨by simpa using h0.1,fun i v hi => ?_⟩
     have := h0.2 i v hi
     simp only [World.cell?,he,hd] at this
     cases this
   | _ => cases hn
 · refine ObjOk.move (Agree.refl H.length ρ) (List.getElem?_eq_some_iff.1 hb).1 (R.scp b a hb) (.inr ?_) ?_ (R.obj b a hb)
   · exact Array.getElem?_setIfInBounds_ne (Ne.symm he)
   · cases a with
     | mix cs =>
       refine ⟨by simp,fun k o' v _ hv => ?_⟩
       by_cases hk : k = r
       · subst hk; simp only [World.cell?,hd] at hv; cases hv
       · simp only [World.cell?] at hv ⊢
         rw [Array.getElem?_setIfInBounds_ne (Ne.symm hk)]; exact hv
     | _ => trivial
theorem Ext.outside {ρ' : Ren} {w' : World} (X : Ext ρ H w ρ' H' w') {r : Nat} (hr : w.heap.size≤r) (o : Obj) : Ext ρ H w ρ' H' { w' with heap := w'.heap.setIfInBounds r o } := by
 refine ⟨X.len,X.agree,by simpa using X.size,fun k hk hn => ?_,X.wr,X.ro,X.mix,X.os,X.tape,X.output⟩
 rw [← X.keep k hk hn]
 exact Array.getElem?_setIfInBounds_ne (by omega)
theorem leaves {fn : Func} {tmps : Array Value} {R : Ending→World→Prop} {ρ' : Ren} (hR : ∀ w',Rel ρ' H' w'→Ext ρ H w ρ' H' w'→∃ v,(results fn tmps).run P w' = .ok v w'∧R (.returned v) w') :
   ∀ (ds : List Deferred) (w' : World),Rel ρ' H' w'→Ext ρ H w ρ' H' w'→Marks w.heap.size ρ' H' w' ds→LeavesInM Fence.wide 0 P fn tmps R ds .returning w'
 | [],w',h1,h2,_ => hR w' h1 h2
 | d :: ds,w',h1,h2,M => by
   obtain ⟨r,e1,e2,e3,e4⟩ := M.each d List.mem_cons_self
   have hr : r < w'.heap.size := by
     obtain ⟨hl,_⟩ := Array.getElem?_eq_some_iff.1 e3
     exact hl
   refine ⟨by simp,.inl ⟨r,{ w' with heap := w'.heap.setIfInBounds r (.deferred none) },e1,?_,?_⟩⟩
   · simp [Instr.takeDeferred,getObj,setObj,Sem.run,e3]
   · refine leaves hR ds _ (h1.outside e3 e4 _) (h2.outside e2 _) ⟨by simpa using M.low,(List.pairwise_cons.1 M.apart).2,fun d' hd' => ?_⟩
     obtain ⟨r',f1,f2,f3,f4⟩ := M.each d' (List.mem_cons_of_mem _ hd')
     have hne : r ≠ r' := fun e => (List.pairwise_cons.1 M.apart).1 d' hd' (by rw [e1,f1,e])
     exact ⟨r',f1,f2,by rw [← f3]; exact Array.getElem?_setIfInBounds_ne hne,f4⟩
theorem Call.body {f : FuncId} {fn : Func} {args : List Value} {R : Value→Heap→Prop} (hf : P.funcs[f]? = some fn) (hb : fn.body = some c)
   (h : CW none P c H (args.toArray ++ Array.replicate (fn.ntmps - args.length) undef) fun x t H' => (x = .normal∨x = .ret)∧∃ v,aresults P fn t H' = some v∧R v H') : Call P f args H R := fun ρ w RR hs => by
 refine (callsIn_wide (n := 0)).1 (callsIn_of_wp_marks hf hb trivial ?_)
 have hsz : (args.map (ren ρ)).toArray.size = args.length := by simp
 have ht : (args.toArray ++ Array.replicate (fn.ntmps - args.length) undef).all (sc H.length) = true := by
   rw [Array.all_append]
   simp only [Bool.and_eq_true]
   refine ⟨by simpa using hs,?_⟩
   refine Array.all_eq_true'.2 fun v hv => ?_
   obtain ⟨_,rfl⟩ := Array.mem_replicate.1 hv
   exact sc_undef _
 have := h w.heap.size [] ρ w RR ⟨Nat.le_refl _,List.Pairwise.nil,by simp⟩ ht (InRo.none _)
 have e : act .top ρ (args.toArray ++ Array.replicate (fn.ntmps - args.length) undef) = { tmps := (args.map (ren ρ)).toArray ++ Array.replicate (fn.ntmps - (args.map (ren ρ)).toArray.size) undef,defers := [] } := by
   simp [act,ren_undef]
 rw [← e]
 refine wpIn_mono (F := Fence.wide) (n := 0) this fun ex a w' ⟨x,h1,ds',ρ',t',H',h2,⟨h3,v,h4,h5⟩,h6,h7,h8,h9⟩ => ?_
 subst h1; subst h2
 have key : LeavesInM Fence.wide 0 P fn (act ⟨ds',none⟩ ρ' t').tmps (fun e w' => ∃ ρ' v H',e = .returned (ren ρ' v)∧R v H'∧Rel ρ' H' w'∧Ext ρ H w ρ' H' w'∧sc H'.length v = true) ds' .returning w' := by
   refine leaves (fun w2 R2 X2 => ?_) ds' w' h6 h7 h9
   obtain ⟨r1,r2⟩ := aresults_sound (P := P) (D := ⟨ds',none⟩) R2 h8 h4
   exact ⟨_,r1,ρ',v,H',rfl,h5,R2,X2,r2⟩
 rcases h3 with rfl | rfl <;> exact key
end Go.Pier
