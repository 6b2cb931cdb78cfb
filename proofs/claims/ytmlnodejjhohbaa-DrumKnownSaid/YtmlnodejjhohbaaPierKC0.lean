import Derived.Test.YtmlnodejjhohbaaPierW
import Derived.Test.YtmlnodejjhohbaaPierS
set_option linter.unusedSimpArgs false
set_option linter.unusedVariables false
namespace Go.Pier
open Go
variable {P : Program} {ρ : Ren} {H H' : Heap} {w : World}
abbrev Fr := List (Nat × Value)
def Fr.get : Fr→Nat→Option Value
 | [],_ => none
 | (k,v) :: r,i => match Nat.beq k i with | true => some v | false => Fr.get r i
def fput (F : Fr) (d : Option Tmp) (v : Value) : Fr := match d with | some d => (d,v) :: F | none => F
def fenv (F : Fr) : Operand→Option Value
 | .tmp k => F.get k
 | .const v => if sc 0 v = true then some v else none
 | .global _ => none
 | .func f => some (.func (.func f) #[] #[])
def dstOk (N : Nat) (d : Option Tmp) : Bool := match d with | some d => Nat.blt d N | none => true
structure FrOk (N n : Nat) (ρ : Ren) (F : Fr) (a : Act) : Prop where
 size : a.tmps.size = N
 val : ∀ k v,F.get k = some v→a.tmps.getD k undef = ren ρ v∧sc n v = true
theorem Fr.get_cons (F : Fr) (d k : Nat) (v : Value) : Fr.get ((d,v) :: F) k = if d = k then some v else F.get k := by
 simp only [Fr.get]
 cases h : Nat.beq d k with
 | true => rw [if_pos (Nat.eq_of_beq_eq_true h)]
 | false => rw [if_neg (Nat.ne_of_beq_eq_false h)]
variable {N n : Nat} {F : Fr} {a : Act}
theorem FrOk.env (h : FrOk N n ρ F a) : EnvOk ρ n (fenv F) a.eval := by
 intro x v hx
 cases x with
 | tmp k => exact ⟨(h.val k v hx).2,(h.val k v hx).1⟩
 | const u =>
   simp only [fenv] at hx
   split at hx
   · rename_i hc
     cases hx
     exact ⟨sc_mono (Nat.zero_le _) hc,(ren_closed hc).symm⟩
   · cases hx
 | global g => cases hx
 | func f =>
   simp only [fenv,Option.some.injEq] at hx
   subst hx
   exact ⟨by simp [sc,sc2,sc1],by simp [Act.eval,ren,ren2,ren1]⟩
theorem FrOk.put (h : FrOk N n ρ F a) {d : Option Tmp} {v : Value} (hd : dstOk N d = true) (hv : sc n v = true) : FrOk N n ρ (fput F d v) (a.put d (ren ρ v)) := by
 cases d with
 | none => exact h
 | some d =>
   simp only [dstOk,Nat.blt_eq] at hd
   refine ⟨by simp [Act.put,h.size],fun k u hk => ?_⟩
   simp only [fput,Fr.get_cons] at hk
   simp only [Act.put]
   split at hk
   · rename_i he
     subst he
     cases hk
     refine ⟨?_,hv⟩
     simp only [Array.getD_eq_getD_getElem?]
     rw [Array.getElem?_setIfInBounds_self_of_lt (by rw [h.size]; exact hd)]
     rfl
   · rename_i he
     obtain ⟨h1,h2⟩ := h.val k u hk
     refine ⟨?_,h2⟩
     rw [← h1]
     simp only [Array.getD_eq_getD_getElem?]
     rw [Array.getElem?_setIfInBounds_ne he]
theorem FrOk.move {ρ' : Ren} {m : Nat} (h : FrOk N n ρ F a) (ha : Agree n ρ ρ') (hm : n≤m) : FrOk N m ρ' F a :=
 ⟨h.size,fun k v hk => ⟨by rw [(h.val k v hk).1,ren_agree ha (h.val k v hk).2],sc_mono hm (h.val k v hk).2⟩⟩
theorem FrOk.less {F' : Fr} (h : FrOk N n ρ F a) (hs : ∀ k v,F'.get k = some v→F.get k = some v) : FrOk N n ρ F' a :=
 ⟨h.size,fun k v hk => h.val k v (hs k v hk)⟩
variable {ro : Option Nat} {base : Nat} {ds : List Deferred}
structure At (N : Nat) (base : Nat) (ρ0 : Ren) (H0 : Heap) (w0 : World) (H : Heap) (F : Fr) (a : Act) (w : World) : Prop where
 ex : ∃ ρ,Rel ρ H w∧Ext ρ0 H0 w0 ρ H w∧FrOk N H.length ρ F a∧Marks base ρ H w a.defers
def VPost (N : Nat) (base : Nat) (ρ0 : Ren) (H0 : Heap) (w0 : World) (K : AExit→Fr→Heap→Prop) (e : Exit) (a : Act) (w : World) : Prop :=
 ∃ x F H,e = x.to∧K x F H∧At N base ρ0 H0 w0 H F a w
def VW (n0 N : Nat) (ro : Option Nat) (P : Program) (c : Code) (H : Heap) (F : Fr) (K : AExit→Fr→Heap→Prop) : Prop :=
 ∀ base ρ0 H0 w0 a w,H0.length = n0→At N base ρ0 H0 w0 H F a w→c.wpIn (Place.F ⟨[],ro⟩) 0 P (VPost N base ρ0 H0 w0 K) a w
variable {n0 : Nat} {K : AExit→Fr→Heap→Prop} {c x y : Code}
theorem VW.mono {K' : AExit→Fr→Heap→Prop} (h : VW n0 N ro P c H F K) (hq : ∀ x F H,K x F H→K' x F H) : VW n0 N ro P c H F K' :=
 fun base ρ0 H0 w0 a w hn hA => wpIn_mono (h base ρ0 H0 w0 a w hn hA) fun _ _ _ ⟨x,F',H',h1,h2,h3⟩ => ⟨x,F',H',h1,hq _ _ _ h2,h3⟩
theorem VW.skip (h : K .normal F H) : VW n0 N ro P .skip H F K := fun _ _ _ _ _ _ _ hA => wpIn_skip ⟨.normal,F,H,rfl,h,hA⟩
theorem VW.label {l : Nat} (h : K .normal F H) : VW n0 N ro P (.label l) H F K := fun _ _ _ _ _ _ _ hA => wpIn_label ⟨.normal,F,H,rfl,h,hA⟩
theorem VW.exit {id : Nat} (h : K (.exit id) F H) : VW n0 N ro P (.exit id) H F K := fun _ _ _ _ _ _ _ hA => wpIn_exit ⟨.exit id,F,H,rfl,h,hA⟩
theorem VW.ret (h : K .ret F H) : VW n0 N ro P .ret H F K := fun _ _ _ _ _ _ _ hA => wpIn_ret ⟨.ret,F,H,rfl,h,hA⟩
def thenK (N : Fr→Heap→Prop) (K : AExit→Fr→Heap→Prop) : AExit→Fr→Heap→Prop
 | .normal => N
 | x => K x
theorem VW.seq (h : VW n0 N ro P x H F (thenK (fun F H => VW n0 N ro P y H F K) K)) : VW n0 N ro P (.seq x y) H F K := fun base ρ0 H0 w0 a w hn hA =>
 wpIn_seq (wpIn_mono (h base ρ0 H0 w0 a w hn hA) fun e a w' ⟨x,F',H',h1,h2,h3⟩ => by
   subst h1
   cases x with
   | normal => exact h2 base ρ0 H0 w0 a w' hn h3
   | exit id => exact ⟨.exit id,F',H',rfl,h2,h3⟩
   | ret => exact ⟨.ret,F',H',rfl,h2,h3⟩)
theorem VW.cond {o : Operand} {b : Bool} (hb : fenv F o = some (.bool b)) (h : VW n0 N ro P (if b = true then x else y) H F K) : VW n0 N ro P (.cond o x y) H F K := fun base ρ0 H0 w0 a w hn hA => by
 obtain ⟨ρ,_,_,hF,_⟩ := hA.ex
 refine wpIn_cond (t := b) (by rw [(hF.env _ _ hb).2]; rfl) ?_
 have := h base ρ0 H0 w0 a w hn hA
 cases b <;> exact this
def blockK (id : Nat) (K : AExit→Fr→Heap→Prop) : AExit→Fr→Heap→Prop
 | .exit j => match Nat.beq j id with | true => K .normal | false => K (.exit j)
 | x => K x
theorem VW.block {id : Nat} (h : VW n0 N ro P c H F (blockK id K)) : VW n0 N ro P (.block id c) H F K := fun base ρ0 H0 w0 a w hn hA =>
 wpIn_block (wpIn_mono (h base ρ0 H0 w0 a w hn hA) fun e a w' ⟨x,F',H',h1,h2,h3⟩ => by
   subst h1
   cases x with
   | normal => exact ⟨.normal,F',H',rfl,h2,h3⟩
   | ret => exact ⟨.ret,F',H',rfl,h2,h3⟩
   | exit j =>
     simp only [blockK] at h2
     simp only [AExit.to,Exit.inBlock]
     cases hj : Nat.beq j id with
     | true => rw [hj] at h2; rw [if_pos (Nat.eq_of_beq_eq_true hj)]; exact ⟨.normal,F',H',rfl,h2,h3⟩
     | false => rw [hj] at h2; rw [if_neg (Nat.ne_of_beq_eq_false hj)]; exact ⟨.exit j,F',H',rfl,h2,h3⟩)
theorem VW.scope (h : VW n0 N ro P c H F K) : VW n0 N ro P (.scope c) H F K := fun base ρ0 H0 w0 a w hn hA =>
 wpIn_scope_straight (wpIn_mono (h base ρ0 H0 w0 a w hn hA) fun e a w' ⟨x,F',H',h1,h2⟩ => by
   subst h1
   cases x <;> exact ⟨_,F',H',rfl,h2⟩)
end Go.Pier
namespace Go.Pier
open Go
variable {P : Program} {ρ : Ren} {H H' : Heap} {w : World}
def am (σ : Nat→Nat) (a : Addr) : Addr := { a with block := σ a.block }
def nmap0 (σ : Nat→Nat) : Value→Value
 | .pointer (some a) => .pointer (some (am σ a))
 | .slice (some a) n c => .slice (some (am σ a)) n c
 | .map (some r) => .map (some (σ r))
 | v => v
def nmapA (σ : Nat→Nat) : Value→Value
 | .agg cs => .agg (cs.map (nmap0 σ))
 | v => nmap0 σ v
def nmapFn (σ : Nat→Nat) : Fn→Fn
 | .yield l => .yield (σ l)
 | f => f
def nmap1 (σ : Nat→Nat) : Value→Value
 | .func f a b => .func (nmapFn σ f) (a.map (nmapA σ)) (b.map (nmap0 σ))
 | v => nmap0 σ v
def nmap2 (σ : Nat→Nat) : Value→Value
 | .agg cs => .agg (cs.map (nmap1 σ))
 | v => nmap1 σ v
def nmap (σ : Nat→Nat) : Value→Value
 | .tuple vs => .tuple (vs.map (nmap2 σ))
 | v => nmap2 σ v
def Ren.comp (ρ : Ren) (σ : Nat→Nat) : Ren := ⟨fun b => ρ.φ (σ b),fun b => ρ.δ (σ b),fun b => ρ.κ (σ b)⟩
variable {σ : Nat→Nat}
theorem ren0_nmap (v : Value) : ren0 (ρ.comp σ) v = ren0 ρ (nmap0 σ v) := by
 cases v with
 | pointer a => cases a <;> rfl
 | slice a n c => cases a <;> rfl
 | map r => cases r <;> rfl
 | _ => rfl
theorem map_comp_congr {f g h : Value→Value} (e : ∀ v,f v = g (h v)) (a : Array Value) : a.map f = (a.map h).map g := by
 rw [Array.map_map]; exact Array.map_congr_left fun v _ => e v
theorem renA_nmap (v : Value) : renA (ρ.comp σ) v = renA ρ (nmapA σ v) := by
 cases v with
 | agg cs => simp only [renA,nmapA]; rw [map_comp_congr ren0_nmap]
 | pointer a => cases a <;> rfl
 | slice a n c => cases a <;> rfl
 | map r => cases r <;> rfl
 | _ => rfl
theorem ren1_nmap (v : Value) : ren1 (ρ.comp σ) v = ren1 ρ (nmap1 σ v) := by
 cases v with
 | func f a b =>
   simp only [ren1,nmap1]
   rw [map_comp_congr renA_nmap,map_comp_congr ren0_nmap]
   congr 1
   cases f <;> rfl
 | pointer a => cases a <;> rfl
 | slice a n c => cases a <;> rfl
 | map r => cases r <;> rfl
 | _ => rfl
theorem ren2_nmap (v : Value) : ren2 (ρ.comp σ) v = ren2 ρ (nmap2 σ v) := by
 cases v with
 | agg cs => simp only [ren2,nmap2]; rw [map_comp_congr ren1_nmap]
 | func f a b => exact ren1_nmap (.func f a b)
 | pointer a => cases a <;> rfl
 | slice a n c => cases a <;> rfl
 | map r => cases r <;> rfl
 | _ => rfl
theorem ren_nmap (v : Value) : ren (ρ.comp σ) v = ren ρ (nmap σ v) := by
 cases v with
 | tuple cs => simp only [ren,nmap]; rw [map_comp_congr ren2_nmap]
 | agg cs => exact ren2_nmap (.agg cs)
 | func f a b => exact ren1_nmap (.func f a b)
 | pointer a => cases a <;> rfl
 | slice a n c => cases a <;> rfl
 | map r => cases r <;> rfl
 | _ => rfl
def omap (σ : Nat→Nat) : AObj→AObj
 | .gone => .gone
 | .mix cs => .mix cs
 | .ro cs => .ro (cs.map (nmap1 σ))
 | .rw cs r => .rw (cs.map (nmap1 σ)) r
 | .map es c => .map (es.map fun e => { e with val := nmap2 σ e.val }) c
 | .iter m a b c => .iter (σ m) a b c
 | .loop a b t c d e => .loop a b (t.map (nmap σ)) c d e
theorem omap_wr (o : AObj) : (omap σ o).wr = o.wr := by cases o <;> rfl
theorem omap_isRo (o : AObj) : (omap σ o).isRo = o.isRo := by cases o <;> rfl
theorem omap_isMix (o : AObj) : (omap σ o).isMix = o.isMix := by cases o <;> rfl
theorem isJunk_nmap (v : Value) : isJunk (nmap σ v) = isJunk v := by
 cases v with
 | tuple vs => simp [isJunk,nmap]
 | pointer a => cases a <;> rfl
 | slice a n c => cases a <;> rfl
 | map r => cases r <;> rfl
 | _ => rfl
theorem ObjOk.comp {b : Nat} {o : AObj} (h : ObjOk ρ (σ b) w (omap σ o)) : ObjOk (ρ.comp σ) b w o := by
 cases o with
 | gone => trivial
 | mix cs => exact h
 | ro cs =>
   refine ⟨h.1,fun i v hi => ?_⟩
   rw [ren1_nmap]
   exact h.2 i _ (by rw [List.getElem?_map,hi]; rfl)
 | rw cs r =>
   obtain ⟨h1,cs',t,h2,h3,h4⟩ := h
   refine ⟨h1,cs',t,h2,fun i v hi => ?_,?_⟩
   · rw [ren1_nmap]
     exact h3 i _ (by rw [List.getElem?_map,hi]; rfl)
   · cases r <;> simpa [Ren.comp] using h4
 | map es c =>
   have h' : w.heap[ρ.φ (σ b)]? = _ := h
   show w.heap[ρ.φ (σ b)]? = _
   rw [h',List.map_map]
   congr 3
   apply List.map_congr_left
   intro e _
   simp only [Function.comp,renE,ren2_nmap]
 | iter m a b' c => exact h
 | loop a b' t c d e =>
   obtain ⟨fn,df,tm,h,ht⟩ := h
   refine ⟨fn,df,tm,h,?_,fun k v hk hj => ?_⟩
   · rw [ht.1]; simp
   · rw [ren_nmap]
     exact ht.2 k (nmap σ v) (by rw [Array.getElem?_map,hk]; rfl) (by rw [isJunk_nmap]; exact hj)
theorem getWr {H : Heap} {b : Nat} (h : wr H b = true) : ∃ o,H[b]? = some o∧o.wr = true := by
 obtain ⟨o,ho⟩ : ∃ o,H[b]? = some o := ⟨_,List.getElem?_eq_getElem (wr_lt h)⟩
 exact ⟨o,ho,by rw [← wr_of_get ho]; exact h⟩
theorem getRo {H : Heap} {b : Nat} (h : isRo H b = true) : ∃ o,H[b]? = some o∧o.isRo = true := by
 obtain ⟨o,ho⟩ : ∃ o,H[b]? = some o := ⟨_,List.getElem?_eq_getElem (isRo_lt h)⟩
 exact ⟨o,ho,by rw [← isRo_of_get ho]; exact h⟩
variable {N base : Nat} {ρ0 : Ren} {H0 H2 : Heap} {w0 : World} {F F2 : Fr} {a : Act}
variable {n0 : Nat} {ro : Option Nat} {c : Code} {K : AExit→Fr→Heap→Prop}
end Go.Pier
namespace Go.Pier
open Go
variable {P : Program} {H H' : Heap}
inductive Ob (p : Prop) : Prop where
 | mk (h : p) : Ob p
theorem Ob.out {p : Prop} : Ob p→p | ⟨h⟩ => h
theorem pureRun_bind {α β : Type} {s : Sem α} {f : α→Sem β} {a : α} (h : pureRun P s = some a) : pureRun P (s >>= f) = pureRun P (f a) := by
 induction s with
 | pure b => cases h; rfl
 | program k ih => simp only [pureRun] at h; exact ih P h
 | _ => cases h
def Asks : Option Prop→Prop
 | none => True
 | some p => p
def getI (cs : List Value) (i : Nat) : Int := match cs[i]? with | some (.int _ n) => n | _ => 0
def getB (cs : List Value) (i : Nat) : Bool := match cs[i]? with | some (.bool b) => b | _ => false
def IntAt (k : IntKind) (cs : List Value) (i : Nat) : Prop := cs[i]? = some (.int k (getI cs i))
def BoolAt (cs : List Value) (i : Nat) : Prop := cs[i]? = some (.bool (getB cs i))
inductive MK where
 | i (k : IntKind)
 | b
 | r (k : IntKind)
inductive Rq where
 | one (cs : List MCell) (off : Nat) (k : IntKind)
 | agg (ks : List MK) (cs : List MCell) (off : Nat)
end Go.Pier
namespace Go.Pier
open Go
variable {P : Program} {ρ : Ren} {H H' : Heap} {w : World}
abbrev Ct := FuncId→List Value→Heap→Option (Option Prop × Value × Heap × List Nat)
def CtOk (P : Program) (ct : Ct) : Prop := ∀ f args H φ v H' l,ct f args H = some (φ,v,H',l)→Asks φ→Call P f args H (fun v' H2 => v' = v∧H2 = H')∧Kept H H' l
abbrev Cc := FuncId→List Value→Heap→Option ((Value→Heap→Prop)→Prop)
abbrev Yc := Nat→List Value→Heap→Option ((Value→Heap→Prop)→Prop)
abbrev Orc := (Operand→Option Value)→Heap→Oper→Option (Prop × Option Value × Heap)
structure NShape where
 X : Type
 ok : X→Prop
 val : X→Value
 heap : X→Heap
 tag : Option Bool := none
def NextOk (H : Heap) (v : Value) (l : List NShape) : Prop := ∃ outs,aNext H v = some outs∧∀ p ∈ outs,∃ s ∈ l,∃ x,s.ok x∧p = (s.val x,s.heap x)
structure VEnv where
 ct : Ct := fun _ _ _ => none
 cc : Cc := fun _ _ _ => none
 yc : Yc := fun _ _ _ => none
 orc : Orc := fun _ _ _ => none
 nx : Heap→Value→List NShape := fun _ _ => []
abbrev Dec := List (Nat × Bool)
section
variable (P) (E : VEnv) (N : Nat)
end
variable {E : VEnv} {N base : Nat} {ρ0 : Ren} {H0 : Heap} {w0 : World} {F : Fr} {a : Act} {D : Dec} {K : Dec→Fr→Heap→Prop} {ops : Array Oper} {o : Oper} {i : Nat} {ro : Option Nat}
end Go.Pier
namespace Go.Pier
open Go
variable {P : Program} {ops : Array Oper} {w : World}
structure Like (R : Nat→Prop) (a b : Act) : Prop where
 defers : a.defers = b.defers
 size : a.tmps.size = b.tmps.size
 on : ∀ k,R k→a.tmps[k]? = b.tmps[k]?
theorem Like.put {R R' : Nat→Prop} {a b : Act} (h : Like R a b) (d : Option Tmp) (v : Value) (hR : ∀ k,R' k→R k∨d = some k) : Like R' (a.put d v) (b.put d v) := by
 cases d with
 | none => exact ⟨h.defers,h.size,fun k hk => h.on k ((hR k hk).resolve_right (by simp))⟩
 | some d =>
   refine ⟨h.defers,by simp [Act.put,h.size],fun k hk => ?_⟩
   simp only [Act.put,Array.getElem?_setIfInBounds,h.size]
   split
   · rfl
   · rename_i hne
     exact h.on k ((hR k hk).resolve_right (by simpa using hne))
theorem uponIn_like {F : Fence} {n : Nat} {o : Oper} {a b : Act} {next next' : Act→World→Prop} {Q Q' : Exit→Act→World→Prop} (h : ∀ v w,next (b.put o.dst v) w→next' (a.put o.dst v) w)
   (h2 : ∀ d v w,next ({ b with defers := d :: b.defers }.put o.dst v) w→next' ({ a with defers := d :: a.defers }.put o.dst v) w)
   (hQ : ∀ e a w,Q e a w→e = .normal) : ∀ (r : Result Next),o.uponIn F n P b next Q r→o.uponIn F n P a next' Q' r := by
 intro r hh
 cases r with
 | ok x w' =>
   cases x <;> simp only [Oper.uponIn] at hh ⊢
   case value v => exact h _ _ hh
   case skip => exact h _ _ hh
   case defer d => exact h2 _ _ _ hh
   case enter f args =>
     refine ⟨hh.1,CallsIn.mono hh.2 fun e w'' he => ?_⟩
     cases e with
     | returned v => exact h _ _ he
     | panicked c => exact absurd (hQ _ _ _ he) (by simp)
     | outgrown => obtain ⟨_,_,he⟩ := he; exact absurd (hQ _ _ _ he) (by simp)
   case row row args => exact ⟨hh.1,RowsIn.mono hh.2 fun _ _ he => h _ _ he⟩
   case round l f tmps assign body =>
     refine ⟨hh.1,RoundIn.mono hh.2 fun e w'' he => ?_⟩
     cases e with
     | returned v => exact h _ _ he
     | panicked c => exact absurd (hQ _ _ _ he) (by simp)
     | outgrown => obtain ⟨_,_,he⟩ := he; exact absurd (hQ _ _ _ he) (by simp)
 | halt x w' =>
   cases x <;> simp only [Oper.uponIn] at hh ⊢
   exact absurd (hQ _ _ _ hh) (by simp)
theorem eval_like {R : Nat→Prop} {a b : Act} (h : Like R a b) {x : Operand} (hx : ∀ t,x = .tmp t→R t) : a.eval x = b.eval x := by
 cases x with
 | tmp t =>
   simp only [Act.eval,Array.getD_eq_getD_getElem?]
   rw [h.on t (hx t rfl)]
 | _ => rfl
def guardTmp (ops : Array Oper) (o : Oper) : Option Tmp := match o.guard with | some (j,_) => (ops[j]?).bind (·.dst) | none => none
theorem wanted_like {R : Nat→Prop} {a b : Act} (h : Like R a b) {o : Oper} (hR : ∀ t,guardTmp ops o = some t→R t) : Region.wanted o (yielded ops a.tmps) = Region.wanted o (yielded ops b.tmps) := by
 unfold Region.wanted
 cases hg : o.guard with
 | none => rfl
 | some g =>
   obtain ⟨j,want⟩ := g
   simp only
   have : yielded ops a.tmps j = yielded ops b.tmps j := by
     unfold yielded
     cases hd : (ops[j]?).bind (·.dst) with
     | none => rfl
     | some d =>
       simp only [Option.bind_some]
       rw [h.on d (hR d (by unfold guardTmp; rw [hg]; exact hd))]
   rw [this]
def Rl (ops : Array Oper) (R0 : Nat→Prop) (listed : Array Bool) (k : Nat) : Prop := R0 k∨∃ j,listedS listed j∧dstOf ops j = some k
def Off (ops : Array Oper) (a0 a : Act) : Prop := (∀ k,(∀ j,dstOf ops j ≠ some k)→a.tmps[k]? = a0.tmps[k]?)∧a.tmps.size = a0.tmps.size
theorem wpAny_like {D : Place} {R0 : Nat→Prop} (hread : ∀ (i : Nat) (o : Oper),ops[i]? = some o→∀ t,(Operand.tmp t ∈ o.op.operands∨guardTmp ops o = some t)→R0 t∨∃ e ∈ o.after,Region.binds .any e = true∧dstOf ops e.on = some t)
   (hsel : ∀ (i : Nat) (o : Oper),ops[i]? = some o→(∀ cs b,o.op ≠ .select cs b)∧∀ c,o.op ≠ .defer c)
   {Q : Exit→Act→World→Prop} (hQ : ∀ e a w,Q e a w→e = .normal) (a0 : Act) : ∀ (fuel : Nat) (listed : Array Bool) (a b : Act) (w : World),listed.size = ops.size→Like (Rl ops R0 listed) a b→Off ops a0 a →
   wpAnyIn D.F 0 P .any ops Q fuel listed b w→wpAnyIn D.F 0 P .any ops (fun e a1 w1 => ∃ b1 listed,Q e b1 w1∧listed.size = ops.size∧Region.ready .any ops listed = []∧Like (Rl ops R0 listed) a1 b1∧Off ops a0 a1) fuel listed a w := by
 intro fuel
 induction fuel with
 | zero => intro listed a b w hsz hl ho h; exact ⟨h.1,b,listed,h.2,hsz,h.1,hl,ho⟩
 | succ fuel ih =>
   intro listed a b w hsz hl ho h
   refine ⟨fun hr => ⟨b,listed,h.1 hr,hsz,hr,hl,ho⟩,fun i hi => ?_⟩
   have h1 := h.2 i hi
   obtain ⟨_,o,hoi,hrd⟩ := mem_ready.1 hi
   have hsz' : (listed.setIfInBounds i true).size = ops.size := by simp [hsz]
   unfold wpOpIn at h1 ⊢
   rw [hoi] at h1 ⊢
   simp only at h1 ⊢
   have hR : ∀ t,(Operand.tmp t ∈ o.op.operands∨guardTmp ops o = some t)→Rl ops R0 listed t := fun t ht => by
     rcases hread i o hoi t ht with h2 | ⟨e,h3,h4,h5⟩
     · exact .inl h2
     · exact .inr ⟨e.on,hrd e h3 h4,h5⟩
   have hnew : ∀ k,Rl ops R0 (listed.setIfInBounds i true) k→Rl ops R0 listed k∨o.dst = some k := fun k hk => by
     rcases hk with h2 | ⟨j,h2,h3⟩
     · exact .inl (.inl h2)
     · by_cases hj : j = i
       · subst hj
         right
         unfold dstOf at h3
         rw [hoi] at h3
         exact h3
       · refine .inl (.inr ⟨j,?_,h3⟩)
         unfold listedS at h2 ⊢
         rwa [getD_set_ne false (Ne.symm hj)] at h2
   rw [wanted_like hl fun t ht => hR t (.inr ht)]
   have hoff : ∀ {a' : Act} (v : Value),Off ops a0 a'→Off ops a0 (a'.put o.dst v) := fun {a'} v h2 => by
     cases hd : o.dst with
     | none => exact h2
     | some d =>
       refine ⟨fun k hk => ?_,by simp [Act.put,h2.2]⟩
       simp only [Act.put]
       rw [Array.getElem?_setIfInBounds_ne (fun e => hk i (by unfold dstOf; rw [hoi]; simp [hd,e]))]
       exact h2.1 k hk
   split
   · rename_i hw
     rw [if_pos hw] at h1
     refine ⟨fun _ _ => trivial,?_⟩
     have he : o.semAt D.F.round a.eval = o.semAt D.F.round b.eval := by
       rw [Oper.semAt_eq _ _ _ (hsel i o hoi).2,Oper.semAt_eq _ _ _ (hsel i o hoi).2]
       exact execOp_congr o (hsel i o hoi).1 fun x hx => eval_like hl fun t ht => hR t (.inl (ht ▸ hx))
     rw [he]
     have hl2 : ∀ d : Deferred,Like (Rl ops R0 listed) { a with defers := d :: a.defers } { b with defers := d :: b.defers } := fun d => ⟨by simp [hl.defers],hl.size,hl.on⟩
     exact uponIn_like (fun v w' hn => ih _ _ _ _ hsz' (hl.put _ _ hnew) (hoff v ho) hn) (fun d v w' hn => ih _ _ _ _ hsz' ((hl2 d).put _ _ hnew) (hoff (a' := { a with defers := d :: a.defers }) v ho) hn) hQ _ h1.2
   · rename_i hw
     rw [if_neg hw] at h1
     exact ⟨fun _ _ => trivial,ih _ _ _ _ hsz' (hl.put _ _ hnew) (hoff _ ho) h1.2⟩
end Go.Pier
namespace Go.Pier
open Go
variable {P : Program} {ρ : Ren} {H H' : Heap} {w : World} {N n0 : Nat} {F : Fr} {ops : Array Oper} {ro : Option Nat}
def frT (N : Nat) (F : Fr) : Array Value := ((List.range N).map fun k => match F.get k with | some v => v | none => undef).toArray
theorem frT_size : (frT N F).size = N := by simp [frT]
theorem frT_get {k : Nat} (hk : k < N) : (frT N F)[k]? = some ((F.get k).getD undef) := by
 simp only [frT,List.getElem?_toArray,List.getElem?_map,List.getElem?_range hk,Option.map_some]
 cases F.get k <;> rfl
def operOk (F : Fr) (N : Nat) (ops : Array Oper) (o : Oper) (t : Tmp) : Bool :=
 Nat.ble N t || (match F.get t with | some _ => true | none => false) || o.after.toList.any fun e => Region.binds .any e && (match dstOf ops e.on with | some d => Nat.beq d t | none => false)
def readsOk (F : Fr) (N : Nat) (ops : Array Oper) : Bool :=
 ops.toList.all fun o => (match o.op with | .select .. => false | .defer _ => false | _ => true) && (o.op.operands.toList.all fun x => match x with | .tmp t => operOk F N ops o t | _ => true) && (match guardTmp ops o with | some t => operOk F N ops o t | none => true)
def drawF (ops : Array Oper) (t : Array Value) (F : Fr) : Fr := (ops.toList.filterMap (·.dst)).map (fun d => (d,t.getD d undef)) ++ F
theorem get_app : ∀ {A B : Fr} {k : Nat} {v : Value},Fr.get (A ++ B) k = some v→(A.get k = some v)∨(A.get k = none∧B.get k = some v)
 | [],_,_,_,h => .inr ⟨rfl,h⟩
 | (d,u) :: A,B,k,v,h => by
   rw [List.cons_append,Fr.get_cons] at h
   rw [Fr.get_cons]
   split at h
   · rename_i e; rw [if_pos e]; exact .inl h
   · rename_i e; rw [if_neg e]; exact get_app h
theorem get_map {f : Nat→Value} : ∀ {l : List Nat} {k : Nat},Fr.get (l.map fun d => (d,f d)) k = if k ∈ l then some (f k) else none
 | [],k => by simp [Fr.get]
 | d :: l,k => by
   rw [List.map_cons,Fr.get_cons]
   by_cases h : d = k
   · subst h; simp
   · rw [if_neg h,get_map]
     simp [Ne.symm h]
theorem operOk_iff {o : Oper} {t : Tmp} (h : operOk F N ops o t = true) : (F.get t ≠ none∨N≤t)∨∃ e ∈ o.after,Region.binds .any e = true∧dstOf ops e.on = some t := by
 simp only [operOk,Bool.or_eq_true] at h
 rcases h with (h | h) | h
 · exact .inl (.inr (Nat.le_of_ble_eq_true h))
 · split at h
   · rename_i v hv; exact .inl (.inl (by rw [hv]; simp))
   · cases h
 · obtain ⟨e,h1,h2⟩ := List.any_eq_true.1 h
   simp only [Bool.and_eq_true] at h2
   refine .inr ⟨e,by simpa using h1,h2.1,?_⟩
   have h3 := h2.2
   split at h3
   · rename_i d hd; rw [hd,Nat.eq_of_beq_eq_true h3]
   · cases h3
theorem dstOf_mem {d : Tmp} : (∃ j,dstOf ops j = some d) ↔ d ∈ ops.toList.filterMap (·.dst) := by
 constructor
 · rintro ⟨j,h⟩
   unfold dstOf at h
   cases ho : ops[j]? with
   | none => rw [ho] at h; cases h
   | some o =>
     rw [ho] at h
     exact List.mem_filterMap.2 ⟨o,by simpa using Array.mem_of_getElem? ho,h⟩
 · intro h
   obtain ⟨o,h1,h2⟩ := List.mem_filterMap.1 h
   obtain ⟨j,hj,rfl⟩ := List.getElem_of_mem h1
   refine ⟨j,?_⟩
   unfold dstOf
   have : ops[j]? = some ops.toList[j] := by
     rw [← Array.getElem?_toList,List.getElem?_eq_getElem hj]
   rw [this]; exact h2
theorem VW.draw {call : CallFn} (hc : CallOk P call) (hm : P.follows .mixedOrders = true) {id : Nat} {t' : Array Value} {l : List Nat} {K : AExit→Fr→Heap→Prop} (hr : readsOk F N ops = true) (hev : evDraw P call ops H (frT N F) = some (t',H',l))
   (hK : K .normal (drawF ops t' F) H') : VW n0 N ro P (.region id ops true) H F K := by
 intro base ρ0 H0 w0 a w hn hA
 obtain ⟨ρ,R,X,hF,M⟩ := hA.ex
 have hts : (frT N F).all (sc H.length) = true := by
   refine Array.all_eq_true'.2 fun v hv => ?_
   obtain ⟨k,hk⟩ := Array.getElem?_of_mem hv
   have hlt := (Array.getElem?_eq_some_iff.1 hk).1
   rw [frT_size] at hlt
   rw [frT_get hlt] at hk
   cases hk
   cases hg : F.get k with
   | none => exact sc_undef _
   | some v => exact (hF.val k v hg).2
 obtain ⟨hany,hall⟩ := evDraw_any (dd := ro) hc hev
 have h1 := hany base a.defers ρ w R M hts
 let b := act ⟨a.defers,ro⟩ ρ (frT N F)
 have hro := List.all_eq_true.1 hr
 have hlike : Like (Rl ops (fun k => F.get k ≠ none∨N≤k) (Array.replicate ops.size false)) a b := by
   refine ⟨rfl,by simp [b,act,frT_size,hF.size],fun k hk => ?_⟩
   rcases hk with (hk | hk) | ⟨j,hj,_⟩
   · cases hg : F.get k with
     | none => exact absurd hg hk
     | some v =>
       have h2 := (hF.val k v hg).1
       rcases Nat.lt_or_ge k N with h3 | h3
       · have e1 : a.tmps[k]? = some (a.tmps.getD k undef) := by
           rw [Array.getD_eq_getD_getElem?,Array.getElem?_eq_getElem (by rw [hF.size]; exact h3)]; rfl
         rw [e1,h2]
         simp only [b,act,Array.getElem?_map,frT_get h3,hg,Option.map_some,Option.getD_some]
       · rw [Array.getElem?_eq_none (by rw [hF.size]; exact h3),Array.getElem?_eq_none (by simp [b,act,frT_size]; exact h3)]
   · rw [Array.getElem?_eq_none (by rw [hF.size]; exact hk),Array.getElem?_eq_none (by simp [b,act,frT_size]; exact hk)]
   · unfold listedS at hj
     rw [getD_replicate_false] at hj
     cases hj
 have hread : ∀ (i : Nat) (o : Oper),ops[i]? = some o→∀ t,(Operand.tmp t ∈ o.op.operands∨guardTmp ops o = some t)→(F.get t ≠ none∨N≤t)∨∃ e ∈ o.after,Region.binds .any e = true∧dstOf ops e.on = some t := by
   intro i o ho t ht
   have h2 := hro o (by simpa using Array.mem_of_getElem? ho)
   simp only [Bool.and_eq_true] at h2
   rcases ht with ht | ht
   · exact operOk_iff (List.all_eq_true.1 h2.1.2 (.tmp t) (by simpa using ht))
   · have h3 := h2.2
     rw [ht] at h3
     exact operOk_iff h3
 have hsel : ∀ (i : Nat) (o : Oper),ops[i]? = some o→(∀ cs b,o.op ≠ .select cs b)∧∀ c,o.op ≠ .defer c := by
   intro i o ho
   have h2 := hro o (by simpa using Array.mem_of_getElem? ho)
   simp only [Bool.and_eq_true] at h2
   have h3 := h2.1.1
   exact ⟨fun cs b e => (by rw [e] at h3; cases h3),fun c e => (by rw [e] at h3; cases h3)⟩
 refine wpIn_region_any hm ?_
 have h2 := wpAny_like (D := ⟨a.defers,ro⟩) hread hsel (by rintro e a1 w1 ⟨x,rfl,_,_,t2,_,_,⟨rfl,_⟩,_⟩; rfl) a ops.size (Array.replicate ops.size false) a b _ (by simp) hlike ⟨fun _ _ => rfl,rfl⟩ h1
 have hmono : ∀ (fuel : Nat) (listed : Array Bool) (a1 : Act) (w1 : World) {Q Q' : Exit→Act→World→Prop},(∀ e a w,Q e a w→Q' e a w)→wpAnyIn (Place.F ⟨a.defers,ro⟩) 0 P .any ops Q fuel listed a1 w1→(∀ e a w,Q e a w→e = .normal)→wpAnyIn (Place.F ⟨a.defers,ro⟩) 0 P .any ops Q' fuel listed a1 w1 := by
   intro fuel
   induction fuel with
   | zero => intro listed a1 w1 Q Q' hq h _; exact ⟨h.1,hq _ _ _ h.2⟩
   | succ fuel ih =>
     intro listed a1 w1 Q Q' hq h hn
     refine ⟨fun hr => hq _ _ _ (h.1 hr),fun i hi => ?_⟩
     have h3 := h.2 i hi
     unfold wpOpIn at h3 ⊢
     split
     · rename_i he; rw [he] at h3; exact ih _ _ _ hq h3 hn
     · rename_i o he
       rw [he] at h3
       simp only at h3
       split
       · rename_i hw
         rw [if_pos hw] at h3
         exact ⟨h3.1,uponIn_like (fun v w' hx => ih _ _ _ hq hx hn) (fun d v w' hx => ih _ _ _ hq hx hn) hn _ h3.2⟩
       · rename_i hw
         rw [if_neg hw] at h3
         exact ⟨h3.1,ih _ _ _ hq h3.2 hn⟩
 refine hmono _ _ _ _ ?_ h2 (by rintro e a1 w1 ⟨b1,listed,⟨x,rfl,_,_,t2,_,_,⟨rfl,_⟩,_⟩,_⟩; rfl)
 rintro e a1 w1 ⟨b1,listed,⟨x,rfl,ds',ρ',t2,H2,rfl,⟨rfl,rfl,rfl⟩,R',X',s',M'⟩,hsz,hnil,hl,hoff⟩
 refine ⟨.normal,_,_,rfl,hK,ρ',R',X.trans X',⟨?_,fun k v hk => ?_⟩,by rw [hl.defers]; exact M'⟩
 · rw [hoff.2]; exact hF.size
 · rcases get_app hk with h4 | ⟨h4,h5⟩
   · rw [get_map] at h4
     split at h4
     · rename_i hmem
       cases h4
       obtain ⟨j,hj⟩ := dstOf_mem.2 hmem
       have hjl : j < ops.size := by
         unfold dstOf at hj
         cases ho : ops[j]? with
         | none => rw [ho] at hj; cases hj
         | some o => exact get_lt ho
       have := hl.on k (.inr ⟨j,hall listed hsz hnil j hjl,hj⟩)
       rw [Array.getD_eq_getD_getElem?,this,← Array.getD_eq_getD_getElem?]
       exact ⟨getD_map_ren _ _,getD_sc s' k⟩
     · cases h4
   · rw [get_map] at h4
     split at h4
     · cases h4
     · rename_i hmem
       obtain ⟨k1,k2⟩ := hF.val k v h5
       rw [Array.getD_eq_getD_getElem?,hoff.1 k (fun j hj => hmem (dstOf_mem.1 ⟨j,hj⟩)),← Array.getD_eq_getD_getElem?,k1,ren_agree X'.agreeN k2]
       exact ⟨rfl,sc_mono X'.len k2⟩
end Go.Pier
namespace Go.Pier
open Go
variable {P : Program} {ρ : Ren} {H H' : Heap} {w : World} {n0 N : Nat} {F : Fr}
def frJ (N : Nat) (F : Fr) : Array Value := ((List.range N).map fun k => match F.get k with | some v => v | none => junk).toArray
theorem frJ_get {k : Nat} {v : Value} (h : (frJ N F)[k]? = some v) : k < N∧v = (F.get k).getD junk := by
 simp only [frJ,List.getElem?_toArray,List.getElem?_map] at h
 rcases Nat.lt_or_ge k N with hk | hk
 · rw [List.getElem?_range hk] at h
   simp only [Option.map_some,Option.some.injEq] at h
   refine ⟨hk,?_⟩
   rw [← h]
   cases F.get k <;> rfl
 · rw [List.getElem?_eq_none (by simpa using hk)] at h; cases h
theorem frJ_ok {n : Nat} {a : Act} (hF : FrOk N n ρ F a) : TmOk ρ (frJ N F) a.tmps∧(frJ N F).all (sc n) = true := by
 refine ⟨⟨by simp [frJ,hF.size],fun k v hk hj => ?_⟩,Array.all_eq_true'.2 fun v hv => ?_⟩
 · obtain ⟨h1,h2⟩ := frJ_get hk
   cases hg : F.get k with
   | none => rw [hg] at h2; subst h2; cases hj
   | some u =>
     rw [hg] at h2
     simp only [Option.getD_some] at h2
     subst h2
     have := (hF.val k v hg).1
     rw [Array.getD_eq_getD_getElem?] at this
     have hlt : k < a.tmps.size := by rw [hF.size]; exact h1
     rw [Array.getElem?_eq_getElem hlt] at this ⊢
     exact congrArg some this
 · obtain ⟨k,hk⟩ := Array.mem_iff_getElem?.1 hv
   obtain ⟨h1,h2⟩ := frJ_get hk
   cases hg : F.get k with
   | none => rw [hg] at h2; subst h2; simp [junk,sc,sc2]
   | some u => rw [hg] at h2; simp only [Option.getD_some] at h2; subst h2; exact (hF.val k v hg).2
def pendV (pend : Option Code) (F : Fr) (K : AExit→Fr→Heap→Prop) (H2 : Heap) : Prop :=
 match pend with
 | none => K .normal F H2
 | some (.exit id) => K (.exit id) F H2
 | some .ret => K .ret F H2
 | some _ => False
def rangeEndV (n : Nat) (F : Fr) (K : AExit→Fr→Heap→Prop) (H2 : Heap) : Prop :=
 match H2[n]? with
 | some (.loop st pend _ _ _ _) => match st with
   | .busy => False
   | _ => pendV pend F K (H2.set n .gone)
 | _ => False
theorem VW.rangeFunc {g : Operand} {ps : Array Tmp} {assign body : Code} {K : AExit→Fr→Heap→Prop} {gf : FuncId} {a cap : Array Value} (hg : fenv F g = some (.func (.func gf) a cap)) (hok : fnOk P gf = true)
   (h : Pier.Call P gf (a.toList ++ [.func (.yield H.length) #[] #[]] ++ cap.toList) (H ++ [.loop .ready none (frJ N F) ps assign body]) fun _ H2 => rangeEndV H.length F K H2) :
   VW n0 N none P (.rangeFunc g ps assign body) H F K := by
 intro base ρ0 H0 w0 ac w hn hA
 refine wpIn_rangeFunc fun fn _ => ?_
 obtain ⟨ρ,R,X,hF,M⟩ := hA.ex
 obtain ⟨gs,ge⟩ := hF.env _ _ hg
 have hsc : a.all (scA H.length) = true∧cap.all (sc0 H.length) = true := by
   have : (a.all (scA H.length) && cap.all (sc0 H.length)) = true := gs
   simpa only [Bool.and_eq_true] using this
 obtain ⟨hT,hs⟩ := frJ_ok hF
 obtain ⟨R0,X0⟩ := R.more (.deferred (some []))
 let w0' := w.alloc (.deferred (some []))
 have hw0 : w0'.heap.size = w.heap.size + 1 := alloc_size _ _
 let L : Obj := .loop { state := .ready,pending := none,fn := fn,tmps := ac.tmps,params := ps,assign := assign,body := body,defers := w.heap.size }
 let w1 := w0'.alloc L
 let ρ1 := ρ.ext H.length w0'.heap.size 0
 have hag : Agree H.length ρ ρ1 := Ren.ext_agree ρ H.length w0'.heap.size 0
 have hφ1 : ρ1.φ H.length = w0'.heap.size := by simp [ρ1,Ren.ext]
 obtain ⟨R1,X1⟩ := R0.push (w' := w1) (.loop .ready none (frJ N F) ps assign body) 0 rfl (all_mono (fun _ => sc_mono (Nat.le_succ _)) _ hs) (alloc_size _ _) (fun i hi => alloc_old _ _ _ hi)
   ⟨fn,w.heap.size,ac.tmps,by
     rw [show (ρ.ext H.length w0'.heap.size 0).φ H.length = w0'.heap.size from hφ1]
     rw [alloc_new],hT.move fun k v hk => ren_agree hag (Array.all_eq_true'.1 hs v (Array.mem_of_getElem? hk))⟩ rfl rfl rfl
 have X01 := X0.trans X1
 have M1 : Marks base ρ1 (H ++ [.loop .ready none (frJ N F) ps assign body]) w1 ({ target := .collected w.heap.size,args := #[] } :: ac.defers) := by
   have M' := M.ext X01
   refine ⟨M'.low,List.pairwise_cons.2 ⟨fun d hd => ?_,M'.apart⟩,fun d hd => ?_⟩
   · obtain ⟨r,e1,e2,e3,e4⟩ := M.each d hd
     have hr : r < w.heap.size := by
       obtain ⟨hl,_⟩ := Array.getElem?_eq_some_iff.1 e3
       exact hl
     rw [e1]
     intro he
     injection he with he
     omega
   · rcases List.mem_cons.1 hd with rfl | hd
     · refine ⟨w.heap.size,rfl,M.low,?_,fun b hb => ?_⟩
       · show w1.heap[w.heap.size]? = _
         rw [show w1.heap[w.heap.size]? = w0'.heap[w.heap.size]? from alloc_old _ _ _ (by omega)]
         exact alloc_new _ _
       · have hlt := wr_lt hb
         simp only [List.length_append,List.length_cons,List.length_nil] at hlt
         by_cases hbn : b = H.length
         · subst hbn; rw [hφ1]; omega
         · rw [(hag b (by omega)).1]
           have := R.phys_lt (b := b) (by rw [← hb]; exact (wr_append_lt (by omega)).symm)
           omega
     · exact M'.each d hd
 have hsY : (a.toList ++ [Value.func (.yield H.length) #[] #[]] ++ cap.toList).all (sc (H ++ [AObj.loop .ready none (frJ N F) ps assign body]).length) = true := by
   have k1 := all_sc_of_scA (all_mono (fun v => scA_mono (Nat.le_succ H.length) (v := v)) a hsc.1)
   have k2 := all_sc_of_sc0 (all_mono (fun v => sc0_mono (Nat.le_succ H.length) (v := v)) cap hsc.2)
   have k3 : sc (H.length + 1) (.func (.yield H.length) #[] #[]) = true := by simp [sc,sc2,sc1]
   simp only [List.all_append,List.length_append,List.length_cons,List.length_nil,Nat.zero_add,List.all_cons,List.all_nil,Bool.and_true,Bool.and_eq_true]
   exact ⟨⟨k1,k3⟩,k2⟩
 have hcall := h ρ1 w1 R1 hsY
 refine ⟨w.heap.size + 1,[{ target := .collected w.heap.size,args := #[] }],w1,{ target := .fn (.func gf) (cap.map (ren0 ρ1)),args := a.map (renA ρ1) ++ #[.func (.yield (w.heap.size + 1)) #[] #[]] },w1,gf,
   a.map (renA ρ1) ++ #[.func (.yield (w.heap.size + 1)) #[] #[]] ++ cap.map (ren0 ρ1),w1,?_,?_,fun _ _ => trivial,?_,fun hd => (by cases hd),?_⟩
 · exact run_enterLoop_outer _ _ _ _ _
 · have e1 : ac.eval g = .func (.func gf) (a.map (renA ρ1)) (cap.map (ren0 ρ1)) := by
     rw [ge]
     show Value.func (.func gf) (a.map (renA ρ)) (cap.map (ren0 ρ)) = _
     rw [map_congr_all (fun v hv => renA_agree hag hv) a hsc.1,map_congr_all (fun v hv => ren0_agree hag hv) cap hsc.2]
   simp only [resolve,rangeCall,e1,Deferred.ofValue,Sem.run_pure]
   simp [Act.eval]
 · simp only [invoke]
   exact callFunc_ok hok _
 · have ea : ((a.toList ++ [Value.func (.yield H.length) #[] #[]] ++ cap.toList).map (ren ρ1)).toArray = a.map (renA ρ1) ++ #[.func (.yield (w.heap.size + 1)) #[] #[]] ++ cap.map (ren0 ρ1) := by
     have k1 := map_renA (ρ := ρ1) hsc.1
     have k2 := map_ren0 (ρ := ρ1) hsc.2
     apply Array.toList_inj.1
     simp only [List.map_append,← k1,← k2,List.map_cons,List.map_nil]
     simp [ren,ren2,ren1,hφ1,hw0]
   rw [ea] at hcall
   refine CallsIn.mono (callsIn_wide.2 hcall) ?_
   rintro e w3 ⟨ρ3,v,H3,rfl,hend,R3,X3,_⟩
   unfold rangeEndV at hend
   split at hend <;> try (exact hend.elim)
   rename_i st pend t1 ps1 as1 bd1 hb3
   obtain ⟨hst,hq⟩ : st ≠ .busy∧pendV pend F K (H3.set H.length .gone) := by
     split at hend
     · exact hend.elim
     · rename_i hne; exact ⟨hne,hend⟩
   have hφ3 : ρ3.φ H.length = w.heap.size + 1 := by
     rw [(X3.agree H.length (.inl (by simp))).1,hφ1,hw0]
   obtain ⟨r,hr,r1,r2,_,_,_,_,R4,X4⟩ := setLoop_sound (st1 := .exhausted) (pend1 := pend) R3 hb3
   rw [hφ3] at hr R4 X4
   have hlen3 : H.length < H3.length := (List.getElem?_eq_some_iff.1 hb3).1
   let w4 := w3.putObj (w.heap.size + 1) (.loop { r with state := .exhausted,pending := pend })
   have hset : (H3.set H.length (.loop .exhausted pend t1 ps1 as1 bd1)).set H.length .gone = H3.set H.length .gone := by simp
   have R5 : Rel ρ3 (H3.set H.length .gone) w4 := by rw [← hset]; exact R4.forget H.length
   have X5 : Ext ρ H w ρ3 (H3.set H.length .gone) w4 := by rw [← hset]; exact ((X01.trans X3).trans X4).trans (Ext.forget ρ3 _ w4 H.length)
   have M5 : Marks base ρ3 (H3.set H.length .gone) w4 ({ target := .collected w.heap.size,args := #[] } :: ac.defers) := by
     have M4 := (M1.ext X3).ext X4
     rw [← hset]
     exact ⟨M4.low,M4.apart,fun d hd => (M4.each d hd).forget _⟩
   have hF5 : FrOk N (H3.set H.length .gone).length ρ3 F ac := hF.move X5.agreeN (by rw [List.length_set]; omega)
   refine ⟨pend,w4,?_,?_⟩
   · have := run_endLoop (P := P) hr (by rw [r1]; exact hst)
     rw [this,r2]
   · have done : ∀ x, K x F (H3.set H.length .gone) → VPost N base ρ0 H0 w0 K x.to { ac with defers := [{ target := .collected w.heap.size, args := #[] }] ++ ac.defers } w4 :=
       fun x hx => ⟨x,F,_,rfl,hx,ρ3,R5,X.trans X5,⟨hF5.size,hF5.val⟩,M5⟩
     unfold pendV at hq
     split at hq
     · exact done .normal hq
     · exact wpIn_exit (done (.exit _) hq)
     · exact wpIn_ret (done .ret hq)
     · exact hq.elim
end Go.Pier
