import Derived.Test.YtbehncpoppoglaaPierW
import Derived.Test.YtbehncpoppoglaaPierS
set_option linter.unusedSimpArgs false
set_option linter.unusedVariables false
namespace Go.Pier
open Go
variable {P : Program} {ρ : Ren} {H H' : Heap} {w : World}
abbrev Fr := List (Nat × Value)
def Fr.get : Fr→Nat→Option Value
 | [],_ => none
 | (k,v) :: r,i => match Nat.beq k i with | true => some v | false => Fr.get r i
def fput (F : Fr) (d : Option Tmp) (v : Value) : Fr := match d with | some d => (d,v) :: F | none => F
def fenv (F : Fr) : Operand→Option Value
 | .tmp k => F.get k
 | .const v => if sc 0 v = true then some v else none
 | .global _ => none
 | .func f => some (.func (.func f) #[] #[])
def dstOk (N : Nat) (d : Option Tmp) : Bool := match d with | some d => Nat.blt d N | none => true
structure FrOk (N n : Nat) (ρ : Ren) (F : Fr) (a : Act) : Prop where
 size : a.tmps.size = N
 val : ∀ k v,F.get k = some v→a.tmps.getD k undef = ren ρ v∧sc n v = true
theorem Fr.get_cons (F : Fr) (d k : Nat) (v : Value) : Fr.get ((d,v) :: F) k = if d = k then some v else F.get k := by
 simp only [Fr.get]
 cases h : Nat.beq d k with
 | true => rw [if_pos (Nat.eq_of_beq_eq_true h)]
 | false => rw [if_neg (Nat.ne_of_beq_eq_false h)]
variable {N n : Nat} {F : Fr} {a : Act}
theorem FrOk.env (h : FrOk N n ρ F a) : EnvOk ρ n (fenv F) a.eval := by
 intro x v hx
 cases x with
 | tmp k => exact ⟨(h.val k v hx).2,(h.val k v hx).1⟩
 | const u =>
   simp only [fenv] at hx
   split at hx
   · rename_i hc
     cases hx
     exact ⟨sc_mono (Nat.zero_le _) hc,(ren_closed hc).symm⟩
   · cases hx
 | global g => cases hx
 | func f =>
   simp only [fenv,Option.some.injEq] at hx
   subst hx
   exact ⟨by simp [sc,sc2,sc1],by simp [Act.eval,ren,ren2,ren1]⟩
theorem FrOk.put (h : FrOk N n ρ F a) {d : Option Tmp} {v : Value} (hd : dstOk N d = true) (hv : sc n v = true) : FrOk N n ρ (fput F d v) (a.put d (ren ρ v)) := by
 cases d with
 | none => exact h
 | some d =>
   simp only [dstOk,Nat.blt_eq] at hd
   refine ⟨by simp [Act.put,h.size],fun k u hk => ?_⟩
   simp only [fput,Fr.get_cons] at hk
   simp only [Act.put]
   split at hk
   · rename_i he
     subst he
     cases hk
     refine ⟨?_,hv⟩
     simp only [Array.getD_eq_getD_getElem?]
     rw [Array.getElem?_setIfInBounds_self_of_lt (by rw [h.size]; exact hd)]
     rfl
   · rename_i he
     obtain ⟨h1,h2⟩ := h.val k u hk
     refine ⟨?_,h2⟩
     rw [← h1]
     simp only [Array.getD_eq_getD_getElem?]
     rw [Array.getElem?_setIfInBounds_ne he]
theorem FrOk.move {ρ' : Ren} {m : Nat} (h : FrOk N n ρ F a) (ha : Agree n ρ ρ') (hm : n≤m) : FrOk N m ρ' F a :=
 ⟨h.size,fun k v hk => ⟨by rw [(h.val k v hk).1,ren_agree ha (h.val k v hk).2],sc_mono hm (h.val k v hk).2⟩⟩
theorem FrOk.less {F' : Fr} (h : FrOk N n ρ F a) (hs : ∀ k v,F'.get k = some v→F.get k = some v) : FrOk N n ρ F' a :=
 ⟨h.size,fun k v hk => h.val k v (hs k v hk)⟩
variable {ro : Option Nat} {base : Nat} {ds : List Deferred}
structure At (N : Nat) (base : Nat) (ρ0 : Ren) (H0 : Heap) (w0 : World) (H : Heap) (F : Fr) (a : Act) (w : World) : Prop where
 ex : ∃ ρ,Rel ρ H w∧Ext ρ0 H0 w0 ρ H w∧FrOk N H.length ρ F a∧Marks base ρ H w a.defers
def VPost (N : Nat) (base : Nat) (ρ0 : Ren) (H0 : Heap) (w0 : World) (K : AExit→Fr→Heap→Prop) (e : Exit) (a : Act) (w : World) : Prop :=
 ∃ x F H,e = x.to∧K x F H∧At N base ρ0 H0 w0 H F a w
def VW (n0 N : Nat) (ro : Option Nat) (P : Program) (c : Code) (H : Heap) (F : Fr) (K : AExit→Fr→Heap→Prop) : Prop :=
 ∀ base ρ0 H0 w0 a w,H0.length = n0→At N base ρ0 H0 w0 H F a w→c.wpIn (Place.F ⟨[],ro⟩) 0 P (VPost N base ρ0 H0 w0 K) a w
variable {n0 : Nat} {K : AExit→Fr→Heap→Prop} {c x y : Code}
theorem VW.mono {K' : AExit→Fr→Heap→Prop} (h : VW n0 N ro P c H F K) (hq : ∀ x F H,K x F H→K' x F H) : VW n0 N ro P c H F K' :=
 fun base ρ0 H0 w0 a w hn hA => wpIn_mono (h base ρ0 H0 w0 a w hn hA) fun _ _ _ ⟨x,F',H',h1,h2,h3⟩ => ⟨x,F',H',h1,hq _ _ _ h2,h3⟩
theorem VW.skip (h : K .normal F H) : VW n0 N ro P .skip H F K := fun _ _ _ _ _ _ _ hA => wpIn_skip ⟨.normal,F,H,rfl,h,hA⟩
theorem VW.label {l : Nat} (h : K .normal F H) : VW n0 N ro P (.label l) H F K := fun _ _ _ _ _ _ _ hA => wpIn_label ⟨.normal,F,H,rfl,h,hA⟩
theorem VW.exit {id : Nat} (h : K (.exit id) F H) : VW n0 N ro P (.exit id) H F K := fun _ _ _ _ _ _ _ hA => wpIn_exit ⟨.exit id,F,H,rfl,h,hA⟩
theorem VW.ret (h : K .ret F H) : VW n0 N ro P .ret H F K := fun _ _ _ _ _ _ _ hA => wpIn_ret ⟨.ret,F,H,rfl,h,hA⟩
def thenK (N : Fr→Heap→Prop) (K : AExit→Fr→Heap→Prop) : AExit→Fr→Heap→Prop
 | .normal => N
 | x => K x
theorem VW.seq (h : VW n0 N ro P x H F (thenK (fun F H => VW n0 N ro P y H F K) K)) : VW n0 N ro P (.seq x y) H F K := fun base ρ0 H0 w0 a w hn hA =>
 wpIn_seq (wpIn_mono (h base ρ0 H0 w0 a w hn hA) fun e a w' ⟨x,F',H',h1,h2,h3⟩ => by
   subst h1
   cases x with
   | normal => exact h2 base ρ0 H0 w0 a w' hn h3
   | exit id => exact ⟨.exit id,F',H',rfl,h2,h3⟩
   | ret => exact ⟨.ret,F',H',rfl,h2,h3⟩)
theorem VW.cond {o : Operand} {b : Bool} (hb : fenv F o = some (.bool b)) (h : VW n0 N ro P (if b = true then x else y) H F K) : VW n0 N ro P (.cond o x y) H F K := fun base ρ0 H0 w0 a w hn hA => by
 obtain ⟨ρ,_,_,hF,_⟩ := hA.ex
 refine wpIn_cond (t := b) (by rw [(hF.env _ _ hb).2]; rfl) ?_
 have := h base ρ0 H0 w0 a w hn hA
 cases b <;> exact this
def blockK (id : Nat) (K : AExit→Fr→Heap→Prop) : AExit→Fr→Heap→Prop
 | .exit j => match Nat.beq j id with | true => K .normal | false => K (.exit j)
 | x => K x
theorem VW.block {id : Nat} (h : VW n0 N ro P c H F (blockK id K)) : VW n0 N ro P (.block id c) H F K := fun base ρ0 H0 w0 a w hn hA =>
 wpIn_block (wpIn_mono (h base ρ0 H0 w0 a w hn hA) fun e a w' ⟨x,F',H',h1,h2,h3⟩ => by
   subst h1
   cases x with
   | normal => exact ⟨.normal,F',H',rfl,h2,h3⟩
   | ret => exact ⟨.ret,F',H',rfl,h2,h3⟩
   | exit j =>
     simp only [blockK] at h2
     simp only [AExit.to,Exit.inBlock]
     cases hj : Nat.beq j id with
     | true => rw [hj] at h2; rw [if_pos (Nat.eq_of_beq_eq_true hj)]; exact ⟨.normal,F',H',rfl,h2,h3⟩
     | false => rw [hj] at h2; rw [if_neg (Nat.ne_of_beq_eq_false hj)]; exact ⟨.exit j,F',H',rfl,h2,h3⟩)
theorem VW.scope (h : VW n0 N ro P c H F K) : VW n0 N ro P (.scope c) H F K := fun base ρ0 H0 w0 a w hn hA =>
 wpIn_scope_straight (wpIn_mono (h base ρ0 H0 w0 a w hn hA) fun e a w' ⟨x,F',H',h1,h2⟩ => by
   subst h1
   cases x <;> exact ⟨_,F',H',rfl,h2⟩)
theorem VW.loopInv {I : Nat→Fr→Heap→Prop} (h : ∀ m F H,I m F H→VW n0 N ro P c H F (thenK (fun F' H' => ∃ m',m' < m∧I m' F' H') K)) {m : Nat} (h0 : I m F H) : VW n0 N ro P (.loop c) H F K := fun base ρ0 H0 w0 a w hn hA => by
 refine wpIn_loop_rounds (m + 1) ?_
 have key : ∀ (n m : Nat) (F : Fr) (H : Heap) (a : Act) (w : World),m≤n→I m F H→At N base ρ0 H0 w0 H F a w→Code.roundsIn (Place.F ⟨[],ro⟩) 0 P c (VPost N base ρ0 H0 w0 K) (n + 1) a w := by
   intro n
   induction n with
   | zero =>
     intro m F H a w hm hI hA
     refine wpIn_mono (h m F H hI base ρ0 H0 w0 a w hn hA) fun e a w' ⟨x,F',H',k1,k2,k3⟩ => ?_
     subst k1
     cases x with
     | normal => obtain ⟨m',h1,_⟩ := k2; omega
     | exit id => exact ⟨.exit id,F',H',rfl,k2,k3⟩
     | ret => exact ⟨.ret,F',H',rfl,k2,k3⟩
   | succ n ih =>
     intro m F H a w hm hI hA
     refine wpIn_mono (h m F H hI base ρ0 H0 w0 a w hn hA) fun e a w' ⟨x,F',H',k1,k2,k3⟩ => ?_
     subst k1
     cases x with
     | normal => obtain ⟨m',h1,h2⟩ := k2; exact ih m' F' H' a w' (by omega) h2 k3
     | exit id => exact ⟨.exit id,F',H',rfl,k2,k3⟩
     | ret => exact ⟨.ret,F',H',rfl,k2,k3⟩
 exact key m m F H a w (Nat.le_refl _) h0 hA
end Go.Pier
namespace Go.Pier
open Go
variable {P : Program} {ρ : Ren} {H H' : Heap} {w : World}
def am (σ : Nat→Nat) (a : Addr) : Addr := { a with block := σ a.block }
def nmap0 (σ : Nat→Nat) : Value→Value
 | .pointer (some a) => .pointer (some (am σ a))
 | .slice (some a) n c => .slice (some (am σ a)) n c
 | .map (some r) => .map (some (σ r))
 | v => v
def nmapA (σ : Nat→Nat) : Value→Value
 | .agg cs => .agg (cs.map (nmap0 σ))
 | v => nmap0 σ v
def nmapFn (σ : Nat→Nat) : Fn→Fn
 | .yield l => .yield (σ l)
 | f => f
def nmap1 (σ : Nat→Nat) : Value→Value
 | .func f a b => .func (nmapFn σ f) (a.map (nmapA σ)) (b.map (nmap0 σ))
 | v => nmap0 σ v
def nmap2 (σ : Nat→Nat) : Value→Value
 | .agg cs => .agg (cs.map (nmap1 σ))
 | v => nmap1 σ v
def nmap (σ : Nat→Nat) : Value→Value
 | .tuple vs => .tuple (vs.map (nmap2 σ))
 | v => nmap2 σ v
def Ren.comp (ρ : Ren) (σ : Nat→Nat) : Ren := ⟨fun b => ρ.φ (σ b),fun b => ρ.δ (σ b),fun b => ρ.κ (σ b)⟩
variable {σ : Nat→Nat}
theorem ren0_nmap (v : Value) : ren0 (ρ.comp σ) v = ren0 ρ (nmap0 σ v) := by
 cases v with
 | pointer a => cases a <;> rfl
 | slice a n c => cases a <;> rfl
 | map r => cases r <;> rfl
 | _ => rfl
theorem map_comp_congr {f g h : Value→Value} (e : ∀ v,f v = g (h v)) (a : Array Value) : a.map f = (a.map h).map g := by
 rw [Array.map_map]; exact Array.map_congr_left fun v _ => e v
theorem renA_nmap (v : Value) : renA (ρ.comp σ) v = renA ρ (nmapA σ v) := by
 cases v with
 | agg cs => simp only [renA,nmapA]; rw [map_comp_congr ren0_nmap]
 | pointer a => cases a <;> rfl
 | slice a n c => cases a <;> rfl
 | map r => cases r <;> rfl
 | _ => rfl
theorem ren1_nmap (v : Value) : ren1 (ρ.comp σ) v = ren1 ρ (nmap1 σ v) := by
 cases v with
 | func f a b =>
   simp only [ren1,nmap1]
   rw [map_comp_congr renA_nmap,map_comp_congr ren0_nmap]
   congr 1
   cases f <;> rfl
 | pointer a => cases a <;> rfl
 | slice a n c => cases a <;> rfl
 | map r => cases r <;> rfl
 | _ => rfl
theorem ren2_nmap (v : Value) : ren2 (ρ.comp σ) v = ren2 ρ (nmap2 σ v) := by
 cases v with
 | agg cs => simp only [ren2,nmap2]; rw [map_comp_congr ren1_nmap]
 | func f a b => exact ren1_nmap (.func f a b)
 | pointer a => cases a <;> rfl
 | slice a n c => cases a <;> rfl
 | map r => cases r <;> rfl
 | _ => rfl
theorem ren_nmap (v : Value) : ren (ρ.comp σ) v = ren ρ (nmap σ v) := by
 cases v with
 | tuple cs => simp only [ren,nmap]; rw [map_comp_congr ren2_nmap]
 | agg cs => exact ren2_nmap (.agg cs)
 | func f a b => exact ren1_nmap (.func f a b)
 | pointer a => cases a <;> rfl
 | slice a n c => cases a <;> rfl
 | map r => cases r <;> rfl
 | _ => rfl
def omap (σ : Nat→Nat) : AObj→AObj
 | .gone => .gone
 | .mix cs => .mix cs
 | .ro cs => .ro (cs.map (nmap1 σ))
 | .rw cs r => .rw (cs.map (nmap1 σ)) r
 | .map es c => .map (es.map fun e => { e with val := nmap2 σ e.val }) c
 | .iter m a b c => .iter (σ m) a b c
 | .loop a b t c d e => .loop a b (t.map (nmap σ)) c d e
theorem omap_wr (o : AObj) : (omap σ o).wr = o.wr := by cases o <;> rfl
theorem omap_isRo (o : AObj) : (omap σ o).isRo = o.isRo := by cases o <;> rfl
theorem omap_isMix (o : AObj) : (omap σ o).isMix = o.isMix := by cases o <;> rfl
theorem isJunk_nmap (v : Value) : isJunk (nmap σ v) = isJunk v := by
 cases v with
 | tuple vs => simp [isJunk,nmap]
 | pointer a => cases a <;> rfl
 | slice a n c => cases a <;> rfl
 | map r => cases r <;> rfl
 | _ => rfl
theorem ObjOk.comp {b : Nat} {o : AObj} (h : ObjOk ρ (σ b) w (omap σ o)) : ObjOk (ρ.comp σ) b w o := by
 cases o with
 | gone => trivial
 | mix cs => exact h
 | ro cs =>
   refine ⟨h.1,fun i v hi => ?_⟩
   rw [ren1_nmap]
   exact h.2 i _ (by rw [List.getElem?_map,hi]; rfl)
 | rw cs r =>
   obtain ⟨h1,cs',t,h2,h3,h4⟩ := h
   refine ⟨h1,cs',t,h2,fun i v hi => ?_,?_⟩
   · rw [ren1_nmap]
     exact h3 i _ (by rw [List.getElem?_map,hi]; rfl)
   · cases r <;> simpa [Ren.comp] using h4
 | map es c =>
   have h' : w.heap[ρ.φ (σ b)]? = _ := h
   show w.heap[ρ.φ (σ b)]? = _
   rw [h',List.map_map]
   congr 3
   apply List.map_congr_left
   intro e _
   simp only [Function.comp,renE,ren2_nmap]
 | iter m a b' c => exact h
 | loop a b' t c d e =>
   obtain ⟨fn,df,tm,h,ht⟩ := h
   refine ⟨fn,df,tm,h,?_,fun k v hk hj => ?_⟩
   · rw [ht.1]; simp
   · rw [ren_nmap]
     exact ht.2 k (nmap σ v) (by rw [Array.getElem?_map,hk]; rfl) (by rw [isJunk_nmap]; exact hj)
structure Anew (n0 : Nat) (σ : Nat→Nat) (H H2 : Heap) : Prop where
 len : n0≤H2.length
 low : ∀ b,b < n0→σ b = b
 obj : ∀ (b : Nat) (o : AObj),H2[b]? = some o→o = .gone∨H[σ b]? = some (omap σ o)
 inj : ∀ (b b' : Nat) (o : AObj),b < H2.length→b' < H2.length→H2[b]? = some o→o ≠ .gone→(H2[b']? ≠ some .gone∨b' < n0)→σ b = σ b'→b = b'
 scp : ∀ (b : Nat) (o : AObj),H2[b]? = some o→o.sc H2.length = true
theorem getWr {H : Heap} {b : Nat} (h : wr H b = true) : ∃ o,H[b]? = some o∧o.wr = true := by
 obtain ⟨o,ho⟩ : ∃ o,H[b]? = some o := ⟨_,List.getElem?_eq_getElem (wr_lt h)⟩
 exact ⟨o,ho,by rw [← wr_of_get ho]; exact h⟩
theorem getRo {H : Heap} {b : Nat} (h : isRo H b = true) : ∃ o,H[b]? = some o∧o.isRo = true := by
 obtain ⟨o,ho⟩ : ∃ o,H[b]? = some o := ⟨_,List.getElem?_eq_getElem (isRo_lt h)⟩
 exact ⟨o,ho,by rw [← isRo_of_get ho]; exact h⟩
variable {N base : Nat} {ρ0 : Ren} {H0 H2 : Heap} {w0 : World} {F F2 : Fr} {a : Act}
theorem Rel.anew (R : Rel ρ H w) (X : Ext ρ0 H0 w0 ρ H w) (hN : Anew H0.length σ H H2) : ∃ ρ2,Rel ρ2 H2 w∧Ext ρ0 H0 w0 ρ2 H2 w∧Agree H2.length (ρ.comp σ) ρ2∧∀ b,wr H2 b = true→∃ b',wr H b' = true∧ρ2.φ b = ρ.φ b' := by
 let ρ2 : Ren := ⟨fun b => if b < H2.length then ρ.φ (σ b) else ρ0.φ b,fun b => if b < H2.length then ρ.δ (σ b) else ρ0.δ b,fun b => if b < H2.length then ρ.κ (σ b) else ρ0.κ b⟩
 have hag : Agree H2.length (ρ.comp σ) ρ2 := fun b hb => by simp [ρ2,hb,Ren.comp]
 have hφ : ∀ b,b < H2.length→ρ2.φ b = ρ.φ (σ b) := fun b hb => by simp [ρ2,hb]
 have hwr : ∀ b,wr H2 b = true→wr H (σ b) = true := fun b hb => by
   obtain ⟨o,ho,h1⟩ := getWr hb
   rcases hN.obj b o ho with rfl | h2
   · cases h1
   · rw [wr_of_get h2,omap_wr]; exact h1
 have hro : ∀ b,isRo H2 b = true→isRo H (σ b) = true := fun b hb => by
   obtain ⟨o,ho,h1⟩ := getRo hb
   rcases hN.obj b o ho with rfl | h2
   · cases h1
   · rw [isRo_of_get h2,omap_isRo]; exact h1
 have hmx : ∀ b,isMix H2 b = true→isMix H (σ b) = true := fun b hb => by
   obtain ⟨cs,ho⟩ := getMix hb
   rcases hN.obj b _ ho with h | h2
   · cases h
   · rw [isMix_of_get h2]; rfl
 have hne : ∀ {b},wr H2 b = true∨isRo H2 b = true∨isMix H2 b = true→∃ o,H2[b]? = some o∧o ≠ .gone := by
   intro b hb
   rcases hb with hb | hb | hb
   · obtain ⟨o,ho,h1⟩ := getWr hb; exact ⟨o,ho,by rintro rfl; cases h1⟩
   · obtain ⟨o,ho,h1⟩ := getRo hb; exact ⟨o,ho,by rintro rfl; cases h1⟩
   · obtain ⟨cs,ho⟩ := getMix hb; exact ⟨_,ho,by simp⟩
 have hinj : ∀ b b',(wr H2 b = true∨isRo H2 b = true∨isMix H2 b = true)→(wr H2 b' = true∨isRo H2 b' = true∨(b' < H0.length))→σ b = σ b'→b = b' := fun b b' hb hb' he => by
   obtain ⟨o,ho,h1⟩ := hne hb
   refine hN.inj b b' o (List.getElem?_eq_some_iff.1 ho).1 ?_ ho h1 ?_ he
   · rcases hb' with h | h | h
     · exact wr_lt h
     · exact isRo_lt h
     · have := hN.len; omega
   · rcases hb' with h | h | h
     · obtain ⟨o',h2,h3⟩ := hne (.inl h)
       left; rw [h2]; intro e; cases e; exact h3 rfl
     · obtain ⟨o',h2,h3⟩ := hne (.inr (.inl h))
       left; rw [h2]; intro e; cases e; exact h3 rfl
     · exact .inr h
 refine ⟨ρ2,⟨fun b o hb => ?_,fun b b' hb hb' he => ?_,fun b b' hb hb' he => ?_,fun b b' hb hb' => ?_,hN.scp⟩,⟨hN.len,fun b hb => ?_,X.size,X.keep,fun b hb => ?_,fun b hb => ?_,fun b hb => ?_,X.os,X.tape,X.output⟩,hag,fun b hb => ⟨σ b,hwr b hb,hφ b (wr_lt hb)⟩⟩
 · have hlt := (List.getElem?_eq_some_iff.1 hb).1
   rcases hN.obj b o hb with rfl | h1
   · trivial
   · exact ObjOk.move (n := H2.length) hag hlt (hN.scp b o hb) (.inr rfl) (Below'.refl _ _ _ _) (R.obj _ _ h1).comp
 · rw [hφ b (wr_lt hb),hφ b' (wr_lt hb')] at he
   exact hinj b b' (.inl hb) (.inl hb') (R.inj _ _ (hwr b hb) (hwr b' hb') he)
 · rw [hφ b (isRo_lt hb),hφ b' (wr_lt hb')] at he
   exact R.sep _ _ (hro b hb) (hwr b' hb') he
 · rw [hφ b' (wr_lt hb'),show ρ2.κ b = ρ.κ (σ b) by simp [ρ2,isMix_lt hb]]
   exact R.deep _ _ (hmx b hb) (hwr b' hb')
 · rcases hb with hb | hb
   · have h1 : b < H2.length := by have := hN.len; omega
     have := X.agree b (.inl hb)
     simp only [ρ2,h1,if_true,hN.low b hb]
     exact this
   · have h1 : ¬ b < H2.length := by omega
     simp [ρ2,h1]
 · have hlt := wr_lt hb
   rcases Nat.lt_or_ge b H0.length with h1 | h1
   · have h2 := hwr b hb
     rw [hN.low b h1] at h2
     rcases X.wr b h2 with h3 | ⟨h3,_⟩
     · exact .inl h3
     · omega
   · refine .inr ⟨h1,?_⟩
     rw [hφ b hlt]
     rcases X.wr _ (hwr b hb) with h3 | ⟨_,h3⟩
     · exact .inr ⟨σ b,h3,(X.agree _ (.inl (wr_lt h3))).1⟩
     · exact h3
 · rcases X.ro _ (hro b hb) with h1 | ⟨h1,b0,h2,h3⟩
   · have h2 := isRo_lt h1
     have h3 := hinj b (σ b) (.inr (.inl hb)) (.inr (.inr h2)) (hN.low _ h2).symm
     rw [h3]; exact .inl h1
   · refine .inr ⟨?_,b0,h2,by rw [hφ b (isRo_lt hb)]; exact h3⟩
     rcases Nat.lt_or_ge b H0.length with h4 | h4
     · rw [hN.low b h4] at h1; omega
     · exact h4
 · have h1 := X.mix _ (hmx b hb)
   have h2 := isMix_lt h1
   have h3 := hinj b (σ b) (.inr (.inr hb)) (.inr (.inr h2)) (hN.low _ h2).symm
   rw [h3]; exact h1
theorem At.anew (hA : At N base ρ0 H0 w0 H F a w) (hN : Anew H0.length σ H H2) (hF : ∀ k v,F2.get k = some v→F.get k = some (nmap σ v)∧sc H2.length v = true) : At N base ρ0 H0 w0 H2 F2 a w := by
 obtain ⟨ρ,R,X,hf,M⟩ := hA.ex
 obtain ⟨ρ2,R2,X2,hag,hw⟩ := R.anew X hN
 refine ⟨ρ2,R2,X2,⟨hf.size,fun k v hk => ?_⟩,⟨M.low,M.apart,fun d hd => ?_⟩⟩
 · obtain ⟨h1,h2⟩ := hF k v hk
   rw [(hf.val k _ h1).1,← ren_nmap,ren_agree hag h2]
   exact ⟨rfl,h2⟩
 · obtain ⟨r,h1,h2,h3,h4⟩ := M.each d hd
   exact ⟨r,h1,h2,h3,fun b hb => by
     obtain ⟨b',k1,k2⟩ := hw b hb
     rw [k2]; exact h4 _ k1⟩
theorem Call.anew {f : FuncId} {args : List Value} {R : Value→Heap→Prop} (h : Call P f args H fun v1 H1 => ∃ σ v2 H2,Anew H.length σ H1 H2∧v1 = nmap σ v2∧sc H2.length v2 = true∧R v2 H2) : Call P f args H R := fun ρ w RR hs => by
 refine (h ρ w RR hs).mono ?_
 rintro e w' ⟨ρ',v,H',rfl,⟨σ,v2,H2,hN,rfl,hv,hr⟩,R',X,s'⟩
 obtain ⟨ρ2,R2,X2,hag,_⟩ := R'.anew X hN
 exact ⟨ρ2,v2,H2,by rw [← ren_nmap,ren_agree hag hv],hr,R2,X2,hv⟩
variable {n0 : Nat} {ro : Option Nat} {c : Code} {K : AExit→Fr→Heap→Prop}
end Go.Pier
namespace Go.Pier
open Go
variable {P : Program} {H H' : Heap}
inductive Ob (p : Prop) : Prop where
 | mk (h : p) : Ob p
theorem Ob.out {p : Prop} : Ob p→p | ⟨h⟩ => h
theorem pureRun_bind {α β : Type} {s : Sem α} {f : α→Sem β} {a : α} (h : pureRun P s = some a) : pureRun P (s >>= f) = pureRun P (f a) := by
 induction s with
 | pure b => cases h; rfl
 | program k ih => simp only [pureRun] at h; exact ih P h
 | _ => cases h
def Asks : Option Prop→Prop
 | none => True
 | some p => p
def symInt (op : BinOp) (k : IntKind) (a b : Int) : Option (Option Prop × Value) :=
 match op with
 | .add => some (none,.int k (k.wrap (a + b)))
 | .sub => some (none,.int k (k.wrap (a - b)))
 | .mul => some (none,.int k (k.wrap (a * b)))
 | .quo => some (some (b ≠ 0),.int k (k.wrap (a.tdiv b)))
 | .rem => some (some (b ≠ 0),.int k (a.tmod b))
 | .eql => some (none,.bool (a == b))
 | .neq => some (none,.bool (a != b))
 | .lss => some (none,.bool (decide (a < b)))
 | .leq => some (none,.bool (decide (a≤b)))
 | .gtr => some (none,.bool (decide (b < a)))
 | .geq => some (none,.bool (decide (b≤a)))
 | .and => some (none,.int k (k.wrap ((BitVec.ofInt k.bits a &&& BitVec.ofInt k.bits b).toNat)))
 | .or => some (none,.int k (k.wrap ((BitVec.ofInt k.bits a ||| BitVec.ofInt k.bits b).toNat)))
 | .xor => some (none,.int k (k.wrap ((BitVec.ofInt k.bits a ^^^ BitVec.ofInt k.bits b).toNat)))
 | .andNot => some (none,.int k (k.wrap ((BitVec.ofInt k.bits a &&& ~~~BitVec.ofInt k.bits b).toNat)))
 | _ => none
def eqKind : IntKind→IntKind→Bool
 | .i64,.i64 | .i32,.i32 | .i16,.i16 | .i8,.i8 | .u64,.u64 | .u32,.u32 | .u16,.u16 | .u8,.u8 => true
 | _,_ => false
theorem eqKind_eq {j k : IntKind} (h : eqKind j k = true) : j = k := by cases j <;> cases k <;> first | rfl | cases h
def symBin (P : Program) (op : BinOp) (t : TypeId) (x y : Value) : Option (Option Prop × Value) :=
 match x,y with
 | .int k a,.int k' b => match op with
   | .shl => some (some (0≤b),.int k (k.wrap (a * 2 ^ (min b.toNat k.bits))))
   | .shr => some (some (0≤b),.int k (a.fdiv (2 ^ (min b.toNat k.bits))))
   | op => match eqKind k k' with
     | true => symInt op k a b
     | false => none
 | .bool a,.bool b => match P.underlying t with
   | some .bool => match op with
     | .eql => some (none,.bool (a == b))
     | .neq => some (none,.bool (!(a == b)))
     | _ => none
   | _ => none
 | _,_ => none
theorem guard_int {op : BinOp} {t : TypeId} {xo yo : Operand} {k k' : IntKind} {a b : Int} : pureRun P (eqGuard op t xo yo (.int k a) (.int k' b)) = some () := by
 cases op <;> rfl
theorem evInt_of {op : BinOp} {t : TypeId} {xo yo : Operand} {k k' : IntKind} {a b : Int} {v : Value} (h : pureRun P (binOp op t (.int k a) (.int k' b)) = some v) (hv : sc 0 v = true) :
   evBin P op t xo yo (.int k a) (.int k' b) = some v := by
 unfold evBin
 rw [if_pos ⟨rfl,rfl⟩,pureRun_bind guard_int,h]
 simp [hv]
theorem symInt_sound {op : BinOp} {t : TypeId} {xo yo : Operand} {k : IntKind} {a b : Int} {φ : Option Prop} {v : Value} (h : symInt op k a b = some (φ,v)) (hφ : Asks φ) :
   evBin P op t xo yo (.int k a) (.int k b) = some v := by
 unfold symInt at h
 cases op <;> simp only at h <;> first
   | (cases h; done)
   | (simp only [Option.some.injEq, Prod.mk.injEq] at h
      obtain ⟨rfl,rfl⟩ := h
      refine evInt_of ?_ (by rfl)
      first
        | (cases k <;> rfl; done)
        | (simp only [binOp,ne_eq,not_true_eq_false,if_false,Op.intDiv,if_neg (show ¬ b = 0 from hφ)]; rfl))
theorem symBin_sound {op : BinOp} {t : TypeId} {xo yo : Operand} {x y : Value} {φ : Option Prop} {v : Value} (h : symBin P op t x y = some (φ,v)) (hφ : Asks φ) : evBin P op t xo yo x y = some v := by
 unfold symBin at h
 split at h
 · rename_i k a k' b
   split at h
   · cases h
     exact evInt_of (by simp only [binOp,Op.shift,if_neg (show ¬ b < 0 by have : 0≤b := hφ; omega)]; rfl) (by rfl)
   · cases h
     exact evInt_of (by simp only [binOp,Op.shift,if_neg (show ¬ b < 0 by have : 0≤b := hφ; omega)]; rfl) (by rfl)
   · split at h
     · rename_i hk
       have := eqKind_eq hk
       subst this
       exact symInt_sound h hφ
     · cases h
 · rename_i a b
   split at h <;> try (cases h; done)
   rename_i hu
   have he : pureRun P (Op.equal t (.bool a) (.bool b)) = some (a == b) := by
     have h1 : pureRun P (Go.underlying t) = some .bool := by
       show pureRun P (match P.underlying t with | some d => (Sem.pure d : Sem TypeDesc) | none => stuck "no such type") = _
       rw [hu]; rfl
     show pureRun P (Op.equalIn (9999 + 1) t (.bool a) (.bool b)) = _
     unfold Op.equalIn
     rw [pureRun_bind h1]
     rfl
   have hg : ∀ op,pureRun P (eqGuard op t xo yo (.bool a) (.bool b)) = some () := fun op => by cases op <;> rfl
   split at h <;> simp only [Option.some.injEq,Prod.mk.injEq,reduceCtorEq] at h
   · obtain ⟨rfl,rfl⟩ := h
     unfold evBin
     rw [if_pos ⟨rfl,rfl⟩,pureRun_bind (hg _)]
     have : pureRun P (binOp .eql t (.bool a) (.bool b)) = some (.bool (a == b)) := by
       show pureRun P (Op.equal t (.bool a) (.bool b) >>= fun r => (pure (Value.bool r) : Sem Value)) = _
       rw [pureRun_bind he]; rfl
     rw [this]; rfl
   · obtain ⟨rfl,rfl⟩ := h
     unfold evBin
     rw [if_pos ⟨rfl,rfl⟩,pureRun_bind (hg _)]
     have : pureRun P (binOp .neq t (.bool a) (.bool b)) = some (.bool (!(a == b))) := by
       show pureRun P (Op.equal t (.bool a) (.bool b) >>= fun r => (pure (Value.bool (!r)) : Sem Value)) = _
       rw [pureRun_bind he]; rfl
     rw [this]; rfl
 · cases h
def getI (cs : List Value) (i : Nat) : Int := match cs[i]? with | some (.int _ n) => n | _ => 0
def getB (cs : List Value) (i : Nat) : Bool := match cs[i]? with | some (.bool b) => b | _ => false
def IntAt (k : IntKind) (cs : List Value) (i : Nat) : Prop := cs[i]? = some (.int k (getI cs i))
def BoolAt (cs : List Value) (i : Nat) : Prop := cs[i]? = some (.bool (getB cs i))
theorem getI_map {k : IntKind} {l : List Int} {i : Nat} : getI (l.map (.int k)) i = l.getD i 0 := by
 unfold getI
 rw [List.getElem?_map,List.getD_eq_getElem?_getD]
 cases l[i]? <;> rfl
theorem intAt_map {k : IntKind} {l : List Int} {i : Nat} : IntAt k (l.map (.int k)) i ↔ i < l.length := by
 unfold IntAt
 rw [getI_map,List.getElem?_map,List.getD_eq_getElem?_getD]
 constructor
 · intro h
   rcases Nat.lt_or_ge i l.length with h1 | h1
   · exact h1
   · rw [List.getElem?_eq_none h1] at h; cases h
 · intro h; rw [List.getElem?_eq_getElem h]; rfl
theorem getB_map {l : List Bool} {i : Nat} : getB (l.map .bool) i = l.getD i false := by
 unfold getB
 rw [List.getElem?_map,List.getD_eq_getElem?_getD]
 cases l[i]? <;> rfl
theorem boolAt_map {l : List Bool} {i : Nat} : BoolAt (l.map .bool) i ↔ i < l.length := by
 unfold BoolAt
 rw [getB_map,List.getElem?_map,List.getD_eq_getElem?_getD]
 constructor
 · intro h
   rcases Nat.lt_or_ge i l.length with h1 | h1
   · exact h1
   · rw [List.getElem?_eq_none h1] at h; cases h
 · intro h; rw [List.getElem?_eq_getElem h]; rfl
def cellsAt (H : Heap) (a : Addr) : Option (List Value) := match a.spot with
 | none => match H[a.block]? with
   | some (.ro cs) => some cs
   | some (.rw cs _) => some cs
   | _ => none
 | some _ => none
theorem cellsAt_load {a : Addr} {cs : List Value} (h : cellsAt H a = some cs) : aload H a = cs[a.off]? := by
 unfold cellsAt at h
 unfold aload
 cases hs : a.spot with
 | some k => rw [hs] at h; cases h
 | none =>
   rw [hs] at h
   simp only at h ⊢
   cases hb : H[a.block]? with
   | none => rw [hb] at h; cases h
   | some o => rw [hb] at h; cases o <;> simp only [Option.some.injEq,reduceCtorEq] at h ⊢ <;> first | (rw [h]) | (cases h)
def symLoad (P : Program) (H : Heap) (t : TypeId) (a : Addr) : Option (Option Prop × Value) :=
 match P.underlying t with
 | some (.int k) => match cellsAt H a with
   | some cs => some (some (IntAt k cs a.off),.int k (getI cs a.off))
   | none => none
 | some .bool => match cellsAt H a with
   | some cs => some (some (BoolAt cs a.off),.bool (getB cs a.off))
   | none => none
 | _ => match aloadVar P H t a with
   | some v => some (none,v)
   | none => none
theorem symLoad_sound {t : TypeId} {a : Addr} {φ : Option Prop} {v : Value} (h : symLoad P H t a = some (φ,v)) (hφ : Asks φ) : aloadVar P H t a = some v := by
 unfold symLoad at h
 split at h
 · rename_i k hu
   split at h <;> simp only [Option.some.injEq,Prod.mk.injEq,reduceCtorEq] at h
   rename_i cs hc
   obtain ⟨rfl,rfl⟩ := h
   unfold aloadVar isAggT
   rw [hu]
   simp only
   rw [cellsAt_load hc]; exact hφ
 · rename_i hu
   split at h <;> simp only [Option.some.injEq,Prod.mk.injEq,reduceCtorEq] at h
   rename_i cs hc
   obtain ⟨rfl,rfl⟩ := h
   unfold aloadVar isAggT
   rw [hu]
   simp only
   rw [cellsAt_load hc]; exact hφ
 · split at h <;> simp only [Option.some.injEq,Prod.mk.injEq,reduceCtorEq] at h
   obtain ⟨rfl,rfl⟩ := h
   assumption
def symStore (P : Program) (H : Heap) (t : TypeId) (a : Addr) (v : Value) : Option (Option Prop × Heap) :=
 match v.cells.toList,a.spot,H[a.block]? with
 | x :: xs,none,some (.rw cs r) => match sizeT P t with
   | some n => match Nat.beq n (x :: xs).length && (sc2 H.length v && (x :: xs).all (sc1 H.length)) with
     | true => some (some (a.off + n≤cs.length),H.set a.block (.rw (putL cs a.off (x :: xs)) r))
     | false => none
   | none => none
 | _,_,_ => none
theorem symStore_sound {t : TypeId} {a : Addr} {φ : Option Prop} {v : Value} (h : symStore P H t a v = some (φ,H')) (hφ : Asks φ) : astoreVar P H t a v = some H' := by
 unfold symStore at h
 split at h <;> try (cases h; done)
 rename_i x xs cs r hl hs hb
 split at h <;> try (cases h; done)
 rename_i n hn
 split at h <;> simp only [Option.some.injEq,Prod.mk.injEq,reduceCtorEq] at h
 rename_i hc
 obtain ⟨rfl,rfl⟩ := h
 simp only [Bool.and_eq_true] at hc
 have e1 : n = (x :: xs).length := Nat.eq_of_beq_eq_true hc.1
 unfold astoreVar
 rw [if_pos ⟨by rw [hn,e1,← hl]; simp,hc.2.1⟩]
 unfold astore
 rw [hl]
 simp only [hs,hb]
 rw [if_pos ⟨by rw [← e1]; exact hφ,hc.2.2⟩]
def symIndexAddr (P : Program) (t : TypeId) (x ix : Value) : Option (Option Prop × Value) :=
 match P.underlying t,x,ix with
 | some (.array len elem),.pointer (some a),.int _ i => match sizeT P elem,a.spot with
   | some s,none => some (some (0≤i∧i < len),.pointer (some ⟨a.block,a.off + i.toNat * s,none⟩))
   | _,_ => none
 | some (.slice elem),.slice (some a) len cap,.int _ i => match sizeT P elem with
   | some s => some (some (0≤i∧i < len∧std a cap = true),.pointer (some ⟨a.block,a.off + i.toNat * s,none⟩))
   | none => none
 | _,_,_ => none
theorem base_add (a : Addr) (k : Nat) : (Pier.base a).add k = ⟨a.block,a.off + k,none⟩ := by
 unfold Addr.add Pier.base
 split <;> simp_all
theorem symIndexAddr_sound {t : TypeId} {x ix : Value} {φ : Option Prop} {v : Value} (h : symIndexAddr P t x ix = some (φ,v)) (hφ : Asks φ) : aIndexAddr P t x ix = some v := by
 unfold symIndexAddr at h
 split at h <;> try (cases h; done)
 · rename_i len elem a k i hu
   split at h <;> simp only [Option.some.injEq,Prod.mk.injEq,reduceCtorEq] at h
   rename_i s hs hsp
   obtain ⟨rfl,rfl⟩ := h
   unfold aIndexAddr
   rw [hu]
   have hφ' : 0≤i∧i < len := hφ
   simp only [if_pos hφ',hs,Option.map_some]
   have : a.add (i.toNat * s) = ⟨a.block,a.off + i.toNat * s,none⟩ := by
     unfold Addr.add
     split
     · rename_i h0; rw [h0]; cases a; simp_all
     · rfl
   rw [this]
 · rename_i elem a len cap k i hu
   split at h <;> simp only [Option.some.injEq,Prod.mk.injEq,reduceCtorEq] at h
   rename_i s hs
   obtain ⟨rfl,rfl⟩ := h
   unfold aIndexAddr
   rw [hu]
   have hφ' : 0≤i∧i < len∧std a cap = true := hφ
   simp only [if_pos hφ',hs,Option.map_some,base_add]
def symFirst (H : Heap) (size n : Nat) (x : Value) : Option (Option Prop × List Value) :=
 match x with
 | .slice none _ _ => some (none,[])
 | .slice (some a) _ c => match cellsAt H ⟨a.block,a.off,none⟩ with
   | some cs => some (some (a.off + n * size≤cs.length∧std a c = true),(cs.drop a.off).take (n * size))
   | none => none
 | _ => none
theorem aloadFrom_at {a : Addr} {cs : List Value} (h : cellsAt H ⟨a.block,a.off,none⟩ = some cs) : ∀ (n i : Nat),a.off + i + n≤cs.length→aloadFrom H (Pier.base a) i n = some ((cs.drop (a.off + i)).take n)
 | 0,i,_ => by simp [aloadFrom]
 | n + 1,i,hl => by
   have hlt : a.off + i < cs.length := by omega
   have e : aload H ((Pier.base a).add i) = some cs[a.off + i] := by
     rw [base_add]
     have h' : cellsAt H ⟨a.block,a.off + i,none⟩ = some cs := h
     rw [cellsAt_load h']
     simp [hlt]
   rw [aloadFrom,e]
   simp only [Option.bind_some]
   rw [aloadFrom_at h n (i + 1) (by omega)]
   simp only [Option.map_some]
   rw [List.drop_eq_getElem_cons hlt,List.take_succ_cons,Nat.add_assoc]
theorem symFirst_sound {size n : Nat} {x : Value} {φ : Option Prop} {l : List Value} (h : symFirst H size n x = some (φ,l)) (hφ : Asks φ) : aFirst H size n x = some l := by
 unfold symFirst at h
 split at h
 rotate_left 2
 · cases h
 · simp only [Option.some.injEq,Prod.mk.injEq] at h
   obtain ⟨rfl,rfl⟩ := h; rfl
 · split at h <;> simp only [Option.some.injEq,Prod.mk.injEq,reduceCtorEq] at h
   rename_i a _ c _ cs hc
   obtain ⟨rfl,rfl⟩ := h
   have hφ' : a.off + n * size≤cs.length∧std a c = true := hφ
   have hl := hφ'.1
   show (match n * size with | 0 => some [] | k + 1 => if std a c = true then aloadFrom H (Pier.base a) 0 (k + 1) else none) = _
   generalize n * size = m at hl
   cases m with
   | zero => rfl
   | succ k =>
     simp only
     rw [if_pos hφ'.2,aloadFrom_at hc (k + 1) 0 (by omega)]
     rfl
def andP : Option Prop→Prop→Prop
 | none,p => p
 | some q,p => q∧p
theorem andP_iff {φ : Option Prop} {p : Prop} : andP φ p ↔ Asks φ∧p := by cases φ <;> simp [andP,Asks]
def symAppend (P : Program) (H : Heap) (tys : Array TypeId) (s x : Value) : Option (Option Prop × Value × Heap) :=
 match tys[0]?,tys[1]? with
 | some t0,some t1 => match P.underlying t0,P.underlying t1,s,x with
   | some (.slice elem),some (.slice _),.slice bs sLen sCap,.slice xb n xc => match P.info? elem,zeroT P elem,symFirst H ((P.info? elem).map (·.size) |>.getD 0) n (.slice xb n xc) with
     | some i,some z,some (ψ,new) => match Nat.beq z.cells.size i.size with
       | true => match bs with
         | none => some (some (andP ψ (sLen + n ≤ 1099511627776 ∧ (2 * (sLen + n) + 256) * i.bytes ≤ 281474976710656 ∧ new.length = n * i.size ∧ sLen = 0 ∧ sCap < n)),
             .slice (some ⟨H.length,0,some 0⟩) n 0,H ++ [.rw new (some i.size)])
         | some a => match a.spot with
           | none => match cellsAt H ⟨a.block,a.off,none⟩ with
             | some cs => some (some (andP ψ (sLen + n ≤ 1099511627776 ∧ (2 * (sLen + n) + 256) * i.bytes ≤ 281474976710656 ∧ new.length = n * i.size ∧ sCap < sLen + n ∧ a.off + sLen * i.size ≤ cs.length)),
                 .slice (some ⟨H.length,0,some 0⟩) (sLen + n) 0,H ++ [.rw ((cs.drop a.off).take (sLen * i.size) ++ new) (some i.size)])
             | none => none
           | some k => match H[a.block]? with
             | some (.rw cs (some s')) => match Nat.beq k 0 && (Nat.beq a.off 0 && (Nat.beq s' i.size && (Nat.blt 0 i.size && Nat.beq sCap 0))) with
               | true => some (some (andP ψ (sLen + n ≤ 1099511627776 ∧ (2 * (sLen + n) + 256) * i.bytes ≤ 281474976710656 ∧ new.length = n * i.size ∧ cs.length = sLen * i.size)),
                   .slice (some ⟨H.length,0,some 0⟩) (sLen + n) 0,H.set a.block .gone ++ [.rw (cs ++ new) (some i.size)])
               | false => none
             | _ => none
       | false => none
     | _,_,_ => none
   | _,_,_,_ => none
 | _,_ => none
theorem symAppend_sound {tys : Array TypeId} {s x v : Value} {φ : Option Prop} (h : symAppend P H tys s x = some (φ,v,H')) (hφ : Asks φ) : aAppend P H tys s x = some (v,H') := by
 unfold symAppend at h
 split at h <;> try (cases h; done)
 rename_i t0 t1 h0 h1
 split at h <;> try (cases h; done)
 rename_i elem e1 bs sLen sCap xb n xc hu0 hu1
 split at h <;> try (cases h; done)
 rename_i i z ψ new hi hz hn
 rw [hi] at hn
 simp only [Option.map_some,Option.getD_some] at hn
 split at h <;> try (cases h; done)
 rename_i hsz
 have hsz' := Nat.eq_of_beq_eq_true hsz
 unfold aAppend
 rw [h0,h1]
 simp only [hu0,hu1,hi,hz,Option.bind_some]
 split at h
 · simp only [Option.some.injEq,Prod.mk.injEq] at h
   obtain ⟨rfl,rfl,rfl⟩ := h
   obtain ⟨k0,k1,k2,k3,k4,k5⟩ := andP_iff.1 (show andP ψ _ from hφ)
   subst k4
   rw [symFirst_sound hn k0]
   simp only [Option.bind_some]
   rw [if_pos ⟨k1,k2,hsz',k3⟩]
   simp only [Nat.zero_add]
   rw [if_neg (by omega)]
   simp
 · rename_i a
   split at h
   · rename_i hs
     split at h <;> simp only [Option.some.injEq,Prod.mk.injEq,reduceCtorEq] at h
     rename_i cs hc
     obtain ⟨rfl,rfl,rfl⟩ := h
     obtain ⟨k0,k1,k2,k3,k4,k5⟩ := andP_iff.1 (show andP ψ _ from hφ)
     rw [symFirst_sound hn k0]
     simp only [Option.bind_some,hs]
     rw [if_pos ⟨k1,k2,hsz',k3⟩]
     rw [if_neg (by omega)]
     have hold : aFirst H i.size sLen (.slice (some a) sLen sCap) = some ((cs.drop a.off).take (sLen * i.size)) := by
       have hl := k5
       show (match sLen * i.size with | 0 => some [] | k + 1 => if std a sCap = true then aloadFrom H (Pier.base a) 0 (k + 1) else none) = _
       generalize sLen * i.size = m at hl
       cases m with
       | zero => rfl
       | succ k =>
         simp only
         rw [if_pos (std_none hs),aloadFrom_at hc (k + 1) 0 (by omega)]
         rfl
     rw [hold]
     simp only [Option.bind_some]
     rw [if_pos (by rw [List.length_take,List.length_drop]; omega)]
   · rename_i k hs
     split at h <;> try (cases h; done)
     rename_i cs s' hb
     split at h <;> simp only [Option.some.injEq,Prod.mk.injEq,reduceCtorEq] at h
     rename_i hchk
     simp only [Bool.and_eq_true] at hchk
     obtain ⟨c1,c2,c3,c4,c5⟩ := hchk
     obtain ⟨rfl,rfl,rfl⟩ := h
     obtain ⟨k0,k1,k2,k3,k4⟩ := andP_iff.1 (show andP ψ _ from hφ)
     rw [symFirst_sound hn k0]
     simp only [Option.bind_some,hs,hb]
     rw [if_pos ⟨k1,k2,hsz',k3⟩]
     rw [if_pos ⟨Nat.eq_of_beq_eq_true c1,Nat.eq_of_beq_eq_true c2,Nat.eq_of_beq_eq_true c3,k4,by simpa using c4,Nat.eq_of_beq_eq_true c5⟩]
def symMakeSlice (P : Program) (H : Heap) (t : TypeId) (lv cv : Value) : Option (Option Prop × Value × Heap) :=
 match P.underlying t,lv,cv with
 | some (.slice elem),.int _ len,.int _ cap => match sizeT P elem,bytesT P elem,zeroT P elem with
   | some s,some bytes,some z => match z.cells.toList,Nat.beq s 1 with
     | [u], true => some (some (0 ≤ IntKind.i64.wrap len ∧ IntKind.i64.wrap len ≤ IntKind.i64.wrap cap ∧ (bytes : Int) * IntKind.i64.wrap cap ≤ 281474976710656),
         .slice (some ⟨H.length,0,none⟩) (IntKind.i64.wrap len).toNat (IntKind.i64.wrap cap).toNat,H ++ [.rw (List.replicate (IntKind.i64.wrap cap).toNat u) none])
     | _,_ => none
   | _,_,_ => none
 | _,_,_ => none
theorem symMakeSlice_sound {t : TypeId} {lv cv v : Value} {φ : Option Prop} (h : symMakeSlice P H t lv cv = some (φ,v,H')) (hφ : Asks φ) : aMakeSlice P H t lv cv = some (v,H') := by
 unfold symMakeSlice at h
 split at h <;> try (cases h; done)
 rename_i elem k1 len k2 cap hu
 split at h <;> try (cases h; done)
 rename_i s bytes z hs hb hz
 split at h <;> simp only [Option.some.injEq,Prod.mk.injEq,reduceCtorEq] at h
 rename_i u hzu hs1
 have hs1' := Nat.eq_of_beq_eq_true hs1
 subst hs1'
 obtain ⟨rfl,rfl,rfl⟩ := h
 have hφ' : 0≤IntKind.i64.wrap len∧IntKind.i64.wrap len≤IntKind.i64.wrap cap∧(bytes : Int) * IntKind.i64.wrap cap≤281474976710656 := hφ
 unfold aMakeSlice
 rw [hu]
 simp only [hs,hb,Option.bind_some,hz,Option.map_some]
 rw [if_neg (by simp only [Bool.or_eq_true,decide_eq_true_eq]; omega)]
 by_cases h0 : (IntKind.i64.wrap cap).toNat * 1 = 0
 · rw [if_pos h0]
   have h1 : (IntKind.i64.wrap cap).toNat = 0 := by omega
   simp [h1,rowL_eq,zeroRow]
 · rw [if_neg h0]
   simp only [Option.map_some,Nat.mul_one,rowL_eq,zeroRow_one hzu]
def symBnd (x : Value) (y : Nat) : Option (Prop × Nat) := match x with | .int _ i => some (0≤i∧i≤y,i.toNat) | _ => none
theorem symBnd_sound {x : Value} {y m : Nat} {φ : Prop} (h : symBnd x y = some (φ,m)) (hφ : φ) : bnd x y = some m := by
 unfold symBnd at h
 split at h <;> simp only [Option.some.injEq,Prod.mk.injEq,reduceCtorEq] at h
 obtain ⟨rfl,rfl⟩ := h
 simp only [bnd,if_pos hφ]
def symSlice (P : Program) (t : TypeId) (x : Value) (lo hi mx : Option Value) : Option (Option Prop × Value) :=
 match P.underlying t,x with
 | some (.slice elem),.slice (some a) len cap => match a.spot,sizeT P elem with
   | none,some s => match lo,hi,mx with
     | none,some u,none => match symBnd u cap with
       | some (φ,h) => some (some (len≤cap∧φ),.slice (some ⟨a.block,a.off,none⟩) h cap)
       | none => none
     | some x,none,none => match symBnd x len with
       | some (φ,l) => some (some (len≤cap∧φ),.slice (some ⟨a.block,if cap = l then a.off else a.off + l * s,none⟩) (len - l) (cap - l))
       | none => none
     | some x,some u,none => match symBnd u cap with
       | some (φ,h) => match symBnd x h with
         | some (ψ,l) => some (some (len≤cap∧φ∧ψ),.slice (some ⟨a.block,if cap = l then a.off else a.off + l * s,none⟩) (h - l) (cap - l))
         | none => none
       | none => none
     | none,some u,some v => match symBnd v cap with
       | some (φ,m) => match symBnd u m with
         | some (ψ,h) => some (some (len≤cap∧φ∧ψ),.slice (some ⟨a.block,a.off,none⟩) h m)
         | none => none
       | none => none
     | _,_,_ => none
   | _,_ => none
 | _,_ => none
theorem base_eq (a : Addr) : Pier.base a = ⟨a.block,a.off,none⟩ := rfl
theorem symSlice_sound {t : TypeId} {x v : Value} {lo hi mx : Option Value} {φ : Option Prop} (h : symSlice P t x lo hi mx = some (φ,v)) (hφ : Asks φ) : aSlice P H t x lo hi mx = some v := by
 unfold symSlice at h
 split at h <;> try (cases h; done)
 rename_i elem a len cap hu
 split at h <;> try (cases h; done)
 rename_i s hsp hs
 have add0 : ∀ k : Nat,((if k = 0 then Pier.base a else (Pier.base a).add (0 * s)) : Addr) = ⟨a.block,a.off,none⟩ := fun k => by
   split
   · rfl
   · rw [base_add]; simp
 have addl : ∀ k l : Nat,((if k = l then Pier.base a else (Pier.base a).add (l * s)) : Addr) = ⟨a.block,if k = l then a.off else a.off + l * s,none⟩ := fun k l => by
   split
   · rfl
   · rw [base_add]
 split at h
 · rename_i u
   split at h <;> simp only [Option.some.injEq,Prod.mk.injEq,reduceCtorEq] at h
   rename_i ψ hh hb
   obtain ⟨rfl,rfl⟩ := h
   have hφ' : len≤cap∧ψ := hφ
   refine aSlice_of0 ?_
   unfold aSlice0
   rw [hu]
   simp only [hsp,if_pos hφ'.1,aBounds,symBnd_sound hb hφ'.2,Option.bind_some,hs,Option.map_some,Option.getD_none,add0,Nat.sub_zero]
 · rename_i x
   split at h <;> simp only [Option.some.injEq,Prod.mk.injEq,reduceCtorEq] at h
   rename_i ψ l hb
   obtain ⟨rfl,rfl⟩ := h
   have hφ' : len≤cap∧ψ := hφ
   refine aSlice_of0 ?_
   unfold aSlice0
   rw [hu]
   simp only [hsp,if_pos hφ'.1,aBounds,symBnd_sound hb hφ'.2,Option.bind_some,hs,Option.map_some,Option.getD_none,addl]
 · rename_i x u
   split at h <;> try (cases h; done)
   rename_i ψ hh hb
   split at h <;> simp only [Option.some.injEq,Prod.mk.injEq,reduceCtorEq] at h
   rename_i χ l hb2
   obtain ⟨rfl,rfl⟩ := h
   have hφ' : len≤cap∧ψ∧χ := hφ
   refine aSlice_of0 ?_
   unfold aSlice0
   rw [hu]
   simp only [hsp,if_pos hφ'.1,aBounds,symBnd_sound hb hφ'.2.1,symBnd_sound hb2 hφ'.2.2,Option.bind_some,hs,Option.map_some,Option.getD_none,addl]
 · rename_i u v
   split at h <;> try (cases h; done)
   rename_i ψ m hb
   split at h <;> simp only [Option.some.injEq,Prod.mk.injEq,reduceCtorEq] at h
   rename_i χ hh hb2
   obtain ⟨rfl,rfl⟩ := h
   have hφ' : len≤cap∧ψ∧χ := hφ
   refine aSlice_of0 ?_
   unfold aSlice0
   rw [hu]
   simp only [hsp,if_pos hφ'.1,aBounds,symBnd_sound hb hφ'.2.1,symBnd_sound hb2 hφ'.2.2,Option.bind_some,hs,Option.map_some,Option.getD_some,add0,Nat.sub_zero]
 · cases h
def evDefault (P : Program) (env : Operand→Option Value) (H : Heap) (o : Oper) : Option (Option Prop × Option Value × Heap) :=
 match evOp P env H o with
 | some (.value v,H1) => some (none,some v,H1)
 | some (.skip,H1) => some (none,none,H1)
 | _ => none
def symOp (P : Program) (env : Operand→Option Value) (H : Heap) (o : Oper) : Option (Option Prop × Option Value × Heap) :=
 match o.op with
 | .load t x => match env x with
   | some (.pointer (some a)) => (symLoad P H t a).map fun r => (r.1,some r.2,H)
   | _ => none
 | .store t x y => match env x,env y with
   | some (.pointer (some a)),some v => (symStore P H t a v).map fun r => (r.1,none,r.2)
   | _,_ => none
 | .indexAddr t x ix => match env x,env ix with
   | some a,some b => (symIndexAddr P t a b).map fun r => (r.1,some r.2,H)
   | _,_ => none
 | .binOp op t x y _ => match env x,env y with
   | some a,some b => match symBin P op t a b with
     | some r => some (r.1,some r.2,H)
     | none => evDefault P env H o
   | _,_ => none
 | .makeSlice t l c => match env l,env c with
   | some lv,some cv => match symMakeSlice P H t lv cv with
     | some r => some (r.1,some r.2.1,r.2.2)
     | none => evDefault P env H o
   | _,_ => none
 | .slice t x lo hi mx => match env x,envs env lo.toList,envs env hi.toList,envs env mx.toList with
   | some v,some los,some his,some mxs => match symSlice P t v los.head? his.head? mxs.head? with
     | some r => some (r.1,some r.2,H)
     | none => evDefault P env H o
   | _,_,_,_ => none
 | .call c => match c.callee with
   | .builtin .append => match envs env c.args.toList with
     | some [s,x] => match symAppend P H c.argTypes s x with
       | some r => some (r.1,some r.2.1,r.2.2)
       | none => evDefault P env H o
     | _ => none
   | _ => evDefault P env H o
 | _ => evDefault P env H o
def outOf (v : Option Value) : ONext := match v with | some v => .value v | none => .skip
theorem evDefault_sound {env : Operand→Option Value} {o : Oper} {φ : Option Prop} {v : Option Value} (h : evDefault P env H o = some (φ,v,H')) : evOp P env H o = some (outOf v,H') := by
 unfold evDefault at h
 split at h <;> simp only [Option.some.injEq,Prod.mk.injEq,reduceCtorEq] at h
 · rename_i he; obtain ⟨_,rfl,rfl⟩ := h; exact he
 · rename_i he; obtain ⟨_,rfl,rfl⟩ := h; exact he
theorem symOp_sound {env : Operand→Option Value} {o : Oper} {φ : Option Prop} {v : Option Value} (h : symOp P env H o = some (φ,v,H')) (hφ : Asks φ) : evOp P env H o = some (outOf v,H') := by
 unfold symOp at h
 split at h
 · rename_i t x hop
   split at h <;> try (cases h; done)
   rename_i a ha
   simp only [Option.map_eq_some_iff,Prod.mk.injEq] at h
   obtain ⟨⟨ψ,u⟩,h1,rfl,rfl,rfl⟩ := h
   unfold evOp
   rw [hop]
   simp only [ha,symLoad_sound h1 hφ,Option.map_some,outOf]
 · rename_i t x y hop
   split at h <;> try (cases h; done)
   rename_i a u ha hu
   simp only [Option.map_eq_some_iff,Prod.mk.injEq] at h
   obtain ⟨⟨ψ,H1⟩,h1,rfl,rfl,rfl⟩ := h
   unfold evOp
   rw [hop]
   simp only [ha,hu,symStore_sound h1 hφ,Option.map_some,outOf]
 · rename_i t x y hop
   split at h <;> try (cases h; done)
   rename_i a u ha hu
   simp only [Option.map_eq_some_iff,Prod.mk.injEq] at h
   obtain ⟨⟨ψ,u⟩,h1,rfl,rfl,rfl⟩ := h
   unfold evOp
   rw [hop]
   simp only [ha,hu,symIndexAddr_sound h1 hφ,Option.map_some,outOf]
 · rename_i op t x y c hop
   split at h <;> try (cases h; done)
   rename_i a u ha hu
   split at h
   · rename_i r hr
     obtain ⟨ψ,r⟩ := r
     simp only [Option.some.injEq,Prod.mk.injEq] at h
     obtain ⟨rfl,rfl,rfl⟩ := h
     unfold evOp
     rw [hop]
     simp only [ha,hu,symBin_sound hr hφ,Option.map_some,outOf]
   · exact evDefault_sound h
 · rename_i t l c hop
   split at h <;> try (cases h; done)
   rename_i lv cv hl hcv
   split at h
   · rename_i r hr
     obtain ⟨ψ,u,H1⟩ := r
     simp only [Option.some.injEq,Prod.mk.injEq] at h
     obtain ⟨rfl,rfl,rfl⟩ := h
     unfold evOp
     rw [hop]
     simp only [hl,hcv,symMakeSlice_sound hr hφ,Option.map_some,outOf]
   · exact evDefault_sound h
 · rename_i t x lo hi mx hop
   split at h <;> try (cases h; done)
   rename_i u los his mxs h1 h2 h3 h4
   split at h
   · rename_i r hr
     obtain ⟨ψ,u⟩ := r
     simp only [Option.some.injEq,Prod.mk.injEq] at h
     obtain ⟨rfl,rfl,rfl⟩ := h
     unfold evOp
     rw [hop]
     simp only [h1,h2,h3,h4,Option.bind_some,symSlice_sound hr hφ,Option.map_some,outOf]
   · exact evDefault_sound h
 · rename_i c hop
   split at h
   · rename_i hcal
     split at h <;> try (cases h; done)
     rename_i sv xv hargs
     split at h
     · rename_i r hr
       obtain ⟨ψ,u,H1⟩ := r
       simp only [Option.some.injEq,Prod.mk.injEq] at h
       obtain ⟨rfl,rfl,rfl⟩ := h
       unfold evOp
       rw [hop]
       simp only [evCall,hargs,Option.bind_some,hcal,evBuiltin,symAppend_sound hr hφ,Option.map_some,outOf]
     · exact evDefault_sound h
   · exact evDefault_sound h
 · exact evDefault_sound h
def RowAt (k : IntKind) (cs : List MCell) (off : Nat) : Prop :=
 cs[off]? = some .null∨cs[off]? = some .spot∨(∃ c,cs[off]? = some (.void c))∨∃ (l : List Int) (c : Nat),cs[off]? = some (.row (l.map (.int k)) l.length c)
inductive MK where
 | i (k : IntKind)
 | b
 | r (k : IntKind)
inductive Rq where
 | one (cs : List MCell) (off : Nat) (k : IntKind)
 | agg (ks : List MK) (cs : List MCell) (off : Nat)
def mkOf (P : Program) (t : TypeId) : Option MK := match P.underlying t with
 | some .bool => some .b
 | some (.int k) => some (.i k)
 | some (.slice e) => match P.underlying e with
   | some (.int k) => some (.r k)
   | _ => none
 | _ => none
def mksOf (P : Program) : Nat→List Field→Option (List MK)
 | _,[] => some []
 | o,g :: gs => match Nat.beq g.offset o && Nat.beq (P.cellsOf g.type) 1,mkOf P g.type,mksOf P (o + 1) gs with
   | true,some c,some r => some (c :: r)
   | _,_,_ => none
def MK.isR : MK→Bool
 | .r _ => true
 | _ => false
def symRow (P : Program) (env : Operand→Option Value) (H : Heap) (o : Oper) : Option Rq :=
 match o.op with
 | .load t x => match env x with
   | some (.pointer (some a)) => match a.spot,H[a.block]? with
     | none,some (.mix cs) => match P.underlying t with
       | some (.slice e) => match P.underlying e with
         | some (.int k) => some (.one cs a.off k)
         | _ => none
       | some (.struct fs) => match mksOf P 0 fs.toList,sizeT P t with
         | some ks,some n => match Nat.beq n ks.length && ks.any MK.isR with
           | true => some (.agg ks cs a.off)
           | false => none
         | _,_ => none
       | _ => none
     | _,_ => none
   | _ => none
 | _ => none
def vRow1 (cs : List MCell) (off : Nat) (k : IntKind) (H : Heap) (K : Value→Heap→Prop) : Prop :=
 Ob (RowAt k cs off)∧(cs[off]? = some .null→K (.slice none 0 0) H)∧(cs[off]? = some .spot→K (.slice (some ⟨H.length,0,some 0⟩) 0 1) (H ++ [.gone]))∧(∀ c,cs[off]? = some (.void c)→K (.slice (some ⟨H.length,0,none⟩) 0 c) (H ++ [.gone])) ∧
   ∀ (l : List Int) (c : Nat),cs[off]? = some (.row (l.map (.int k)) l.length c)→K (.slice (some ⟨H.length,0,none⟩) l.length c) (H ++ [.ro (l.map (.int k))])
def getMI (cs : List MCell) (x : Nat) : Int := match cs[x]? with
 | some (.val (.int _ n)) => n
 | _ => 0
def getMB (cs : List MCell) (x : Nat) : Bool := match cs[x]? with
 | some (.val (.bool b)) => b
 | _ => false
def MIntAt (k : IntKind) (cs : List MCell) (x : Nat) : Prop := cs[x]? = some (.val (.int k (getMI cs x)))
def MBoolAt (cs : List MCell) (x : Nat) : Prop := cs[x]? = some (.val (.bool (getMB cs x)))
def vRows (cs : List MCell) : List MK→Nat→Heap→(List Value→Heap→Prop)→Prop
 | [],_,H,K => K [] H
 | .i k :: r,x,H,K => Ob (MIntAt k cs x)∧vRows cs r (x + 1) H fun vs H1 => K (.int k (getMI cs x) :: vs) H1
 | .b :: r,x,H,K => Ob (MBoolAt cs x)∧vRows cs r (x + 1) H fun vs H1 => K (.bool (getMB cs x) :: vs) H1
 | .r k :: r,x,H,K => vRow1 cs x k H fun v H1 => vRows cs r (x + 1) H1 fun vs H2 => K (v :: vs) H2
def vRowK (q : Rq) (H : Heap) (K : Value→Heap→Prop) : Prop := match q with
 | .one cs off k => vRow1 cs off k H K
 | .agg ks cs off => vRows cs ks off H fun vs H1 => K (.agg vs.toArray) H1
theorem vRow1_out {cs : List MCell} {off : Nat} {k : IntKind} {H : Heap} {K : Value→Heap→Prop} (h : vRow1 cs off k H K) : ∃ m,cs[off]? = some m∧(∀ v,m ≠ .val v)∧K (aMix H m).1 (aMix H m).2 := by
 obtain ⟨h1,h2,h3,h4,h6⟩ := h
 rcases h1.out with h5 | h5 | ⟨c,h5⟩ | ⟨l,c,h5⟩
 · exact ⟨_,h5,(fun v h => by cases h),h2 h5⟩
 · exact ⟨_,h5,(fun v h => by cases h),h3 h5⟩
 · exact ⟨_,h5,(fun v h => by cases h),h4 c h5⟩
 · exact ⟨_,h5,(fun v h => by cases h),h6 l c h5⟩
theorem vRows_out {cs : List MCell} : ∀ (ks : List MK) (x : Nat) (H : Heap) (K : List Value→Heap→Prop),vRows cs ks x H K →
   ∃ vs H1,aMixes cs x ks.length H = some (vs,H1)∧K vs H1∧(ks.any MK.isR = true→∃ i,i < ks.length∧∃ m,cs[x + i]? = some m∧∀ v,m ≠ .val v)
 | [],x,H,K,h => ⟨[],H,rfl,h,fun h => by cases h⟩
 | .i k :: r,x,H,K,h => by
   obtain ⟨h1,h2⟩ := h
   obtain ⟨vs,H1,e1,e2,e3⟩ := vRows_out r (x + 1) H _ h2
   refine ⟨_,_,?_,e2,fun ha => ?_⟩
   · rw [List.length_cons,aMixes,h1.out]
     simp only [aMix,e1]
   · obtain ⟨i,hi,m,hm⟩ := e3 (by simpa [MK.isR] using ha)
     exact ⟨i + 1,by simpa using hi,m,by rw [show x + (i + 1) = x + 1 + i by omega]; exact hm.1,hm.2⟩
 | .b :: r,x,H,K,h => by
   obtain ⟨h1,h2⟩ := h
   obtain ⟨vs,H1,e1,e2,e3⟩ := vRows_out r (x + 1) H _ h2
   refine ⟨_,_,?_,e2,fun ha => ?_⟩
   · rw [List.length_cons,aMixes,h1.out]
     simp only [aMix,e1]
   · obtain ⟨i,hi,m,hm⟩ := e3 (by simpa [MK.isR] using ha)
     exact ⟨i + 1,by simpa using hi,m,by rw [show x + (i + 1) = x + 1 + i by omega]; exact hm.1,hm.2⟩
 | .r k :: r,x,H,K,h => by
   obtain ⟨m,hm,hv,h2⟩ := vRow1_out h
   obtain ⟨vs,H1,e1,e2,_⟩ := vRows_out r (x + 1) _ _ h2
   refine ⟨_,_,?_,e2,fun _ => ⟨0,by simp,m,hm,hv⟩⟩
   rw [List.length_cons,aMixes,hm]
   simp only [e1]
theorem aload_mix {H : Heap} {a : Addr} {cs : List MCell} {m : MCell} (hs : a.spot = none) (hb : H[a.block]? = some (.mix cs)) (hm : cs[a.off]? = some m) (hv : ∀ v,m ≠ .val v) : aload H a = none := by
 unfold aload
 rw [hs,hb]
 show (match cs[a.off]? with | some (MCell.val v) => some v | _ => none) = none
 rw [hm]
 cases m <;> first | rfl | exact absurd rfl (hv _)
theorem aloadFrom_mix {H : Heap} {a : Addr} {cs : List MCell} {m : MCell} (hs : a.spot = none) (hb : H[a.block]? = some (.mix cs)) : ∀ (n k i : Nat),i < n→cs[a.off + (k + i)]? = some m→(∀ v,m ≠ .val v)→aloadFrom H a k n = none
 | 0,k,i,h,_,_ => by omega
 | n + 1,k,i,h,hm,hv => by
   unfold aloadFrom
   have ea : a.add k = ⟨a.block,a.off + k,none⟩ := by
     unfold Addr.add
     split
     · rename_i h0; obtain ⟨b,o,s⟩ := a; simp at hs; simp [hs,h0]
     · rfl
   cases i with
   | zero =>
     rw [aload_mix (a := a.add k) (cs := cs) (m := m) (by rw [ea]) (by rw [ea]; exact hb) (by rw [ea]; exact hm) hv]; rfl
   | succ i =>
     rw [aloadFrom_mix hs hb n (k + 1) i (by omega) (by rw [show k + 1 + i = k + (i + 1) by omega]; exact hm) hv]
     cases aload H (a.add k) <;> rfl
theorem symRow_sound {env : Operand→Option Value} {o : Oper} {q : Rq} {K : Value→Heap→Prop} (h : symRow P env H o = some q) (hv : vRowK q H K) :
   ∃ v H1,rowOf P env H o = some (v,H1)∧evOp P env H o = none∧K v H1 := by
 unfold symRow at h
 split at h <;> try (cases h; done)
 rename_i t x hop
 split at h <;> try (cases h; done)
 rename_i a ha
 split at h <;> try (cases h; done)
 rename_i cs' hs hb
 have hev : aloadVar P H t a = none→evOp P env H o = none := fun hn => by
   unfold evOp
   rw [hop]
   simp only [ha,hn,Option.map_none]
 split at h
 · rename_i e hu
   split at h <;> cases h
   rename_i k hk
   have hagg : isAggT P t = some false := by unfold isAggT; rw [hu]
   obtain ⟨m,hm,hne,hK⟩ := vRow1_out hv
   refine ⟨_,_,?_,hev ?_,hK⟩
   · unfold rowOf
     rw [hop]
     simp only [ha,hagg]
     unfold mixAt
     rw [hs]
     simp only [hb,hm,Option.map_some]
   · unfold aloadVar
     rw [hagg]
     exact aload_mix hs hb hm hne
 · rename_i fs hu
   split at h <;> try (cases h; done)
   rename_i ks n hks hn
   split at h <;> cases h
   rename_i hc
   rw [Bool.and_eq_true] at hc
   have hl := Nat.eq_of_beq_eq_true hc.1
   have hagg : isAggT P t = some true := by unfold isAggT; rw [hu]
   obtain ⟨vs,H1,e1,e2,e3⟩ := vRows_out _ _ _ _ hv
   obtain ⟨i,hi,m,hm,hne⟩ := e3 hc.2
   refine ⟨_,_,?_,hev ?_,e2⟩
   · unfold rowOf
     rw [hop]
     simp only [ha,hagg]
     unfold aMixAgg
     rw [hs]
     simp only [hb,hn,Option.bind_some,hl,e1,Option.map_some]
   · unfold aloadVar
     rw [hagg]
     simp only [hn,Option.bind_some]
     rw [aloadFrom_mix hs hb n 0 i (by omega) (by rw [Nat.zero_add]; exact hm) hne]
     rfl
 · cases h
end Go.Pier
namespace Go.Pier
open Go
variable {P : Program} {ρ : Ren} {H H' : Heap} {w : World}
abbrev Ct := FuncId→List Value→Heap→Option (Option Prop × Value × Heap × List Nat)
def CtOk (P : Program) (ct : Ct) : Prop := ∀ f args H φ v H' l,ct f args H = some (φ,v,H',l)→Asks φ→Call P f args H (fun v' H2 => v' = v∧H2 = H')∧Kept H H' l
abbrev Cc := FuncId→List Value→Heap→Option ((Value→Heap→Prop)→Prop)
def CcOk (P : Program) (cc : Cc) : Prop := ∀ f args H T,cc f args H = some T→∀ Q,T Q→Call P f args H Q
abbrev Yc := Nat→List Value→Heap→Option ((Value→Heap→Prop)→Prop)
def YcOk (P : Program) (yc : Yc) : Prop := ∀ b args H T,yc b args H = some T→∀ Q,T Q→Yield P b args H Q
abbrev Orc := (Operand→Option Value)→Heap→Oper→Option (Prop × Option Value × Heap)
def OrcOk (P : Program) (orc : Orc) : Prop := ∀ env H o φ v H',orc env H o = some (φ,v,H')→φ→evOp P env H o = some (outOf v,H')
structure NShape where
 X : Type
 ok : X→Prop
 val : X→Value
 heap : X→Heap
 tag : Option Bool := none
def NextOk (H : Heap) (v : Value) (l : List NShape) : Prop := ∃ outs,aNext H v = some outs∧∀ p ∈ outs,∃ s ∈ l,∃ x,s.ok x∧p = (s.val x,s.heap x)
def allN (K : Option Bool→Value→Heap→Prop) : List NShape→Prop
 | [] => True
 | s :: r => match r with
   | [] => ∀ x,Ob (s.ok x)→K s.tag (s.val x) (s.heap x)
   | r => (∀ x,Ob (s.ok x)→K s.tag (s.val x) (s.heap x))∧allN K r
theorem allN_get {K : Option Bool→Value→Heap→Prop} : ∀ {l : List NShape} {s : NShape},allN K l→s ∈ l→∀ x,s.ok x→K s.tag (s.val x) (s.heap x)
 | [],_,_,hs,_,_ => by cases hs
 | s :: r,s',h,hs,x,hx => by
   have hh : (∀ x,Ob (s.ok x)→K s.tag (s.val x) (s.heap x))∧(r = []∨allN K r) := by
     unfold allN at h
     split at h
     · exact ⟨h,.inl rfl⟩
     · exact ⟨h.1,.inr h.2⟩
   rcases List.mem_cons.1 hs with rfl | hs
   · exact hh.1 x ⟨hx⟩
   · rcases hh.2 with rfl | h2
     · cases hs
     · exact allN_get h2 hs x hx
structure VEnv where
 ct : Ct := fun _ _ _ => none
 cc : Cc := fun _ _ _ => none
 yc : Yc := fun _ _ _ => none
 orc : Orc := fun _ _ _ => none
 nx : Heap→Value→List NShape := fun _ _ => []
 ap : Bool := false
structure VOk (P : Program) (E : VEnv) : Prop where
 ct : CtOk P E.ct
 cc : CcOk P E.cc
 yc : YcOk P E.yc
 orc : OrcOk P E.orc
theorem VOk.ofCt {ct : Ct} (h : CtOk P ct) : VOk P { ct := ct } := ⟨h,(fun _ _ _ _ h => by cases h),(fun _ _ _ _ h => by cases h),(fun _ _ _ _ _ _ h => by cases h)⟩
abbrev Dec := List (Nat × Bool)
def dget : Dec→Nat→Option Bool
 | [],_ => none
 | (k,v) :: r,i => match Nat.beq k i with | true => some v | false => dget r i
def ddel : Dec→Nat→Dec
 | [],_ => []
 | (k,v) :: r,i => match Nat.beq k i with | true => ddel r i | false => (k,v) :: ddel r i
def dput (D : Dec) : Option Tmp→Dec
 | none => D
 | some d => ddel D d
def dval (D : Dec) : Operand→Option Bool
 | .tmp t => dget D t
 | .const (.bool b) => some b
 | _ => none
def dprop (D : Dec) (o : Oper) : Option Bool :=
 match o.op with
 | .move x | .assign x => dval D x
 | .pick c a b => match dval D c with
   | some true => dval D a
   | some false => dval D b
   | none => none
 | .extract x 0 => dval D x
 | .unOp .not _ x => match dval D x with
   | some true => some false
   | some false => some true
   | none => none
 | _ => none
def dtag (D : Dec) (d : Option Tmp) (t : Option Bool) : Dec := match d with
 | none => D
 | some d => match t with
   | some b => (d,b) :: ddel D d
   | none => ddel D d
def dnew (D : Dec) (o : Oper) : Dec := match o.dst with
 | none => D
 | some d => match dprop D o with
   | some b => (d,b) :: ddel D d
   | none => ddel D d
section
variable (P) (E : VEnv) (N : Nat)
def vCall (E : VEnv) (f : FuncId) (args : List Value) (H : Heap) (K : Value→Heap→Prop) : Prop :=
 match E.cc f args H with
 | some T => T K
 | none => match E.ct f args H with
   | some (none,v,H2,_) => K v H2
   | some (some φ,v,H2,_) => Ob φ∧K v H2
   | none => False
def vNext (E : VEnv) (F : Fr) (H : Heap) (x : Operand) (K : Option Bool→Value→Heap→Prop) : Prop :=
 match fenv F x with
 | some v => Ob (NextOk H v (E.nx H v))∧allN K (E.nx H v)
 | none => False
def vRest (P : Program) (E : VEnv) (o : Oper) (F : Fr) (H : Heap) (K : Value→Heap→Prop) : Prop :=
 match evOp P (fenv F) H o with
 | some (.enter f args,H1) => vCall E f args H1 K
 | some _ => False
 | none => match yieldOf (fenv F) o with
   | some (b,args) => match E.yc b args H with
     | some T => T K
     | none => False
   | none => False
def vOp (o : Oper) (D : Dec) (F : Fr) (H : Heap) (K : Dec→Fr→Heap→Prop) : Prop :=
 match dstOk N o.dst with
 | false => False
 | true => match symRow P (fenv F) H o with
   | some q => vRowK q H fun v H1 => K (dnew D o) (fput F o.dst v) H1
   | none => match E.orc (fenv F) H o with
   | some (φ,v,H1) => Ob φ∧K (dnew D o) (fput F o.dst (v.getD undef)) H1
   | none => match o.op with
   | .next x false => vNext E F H x fun tg v H1 => K (dtag D o.dst tg) (fput F o.dst v) H1
   | _ => match symOp P (fenv F) H o with
   | some (φ,v,H1) => match φ with
     | none => K (dnew D o) (fput F o.dst (v.getD undef)) H1
     | some φ => Ob φ∧K (dnew D o) (fput F o.dst (v.getD undef)) H1
   | none => vRest P E o F H fun v H1 => K (dnew D o) (fput F o.dst v) H1
def vNot (o : Oper) (D : Dec) (F : Fr) (H : Heap) (K : Dec→Fr→Heap→Prop) : Prop :=
 match dstOk N o.dst with
 | false => False
 | true => K (dput D o.dst) (fput F o.dst undef) H
def vStep (ops : Array Oper) (o : Oper) (D : Dec) (F : Fr) (H : Heap) (K : Dec→Fr→Heap→Prop) : Prop :=
 match o.guard with
 | none => vOp P E N o D F H K
 | some (j,want) => match (ops[j]?).bind (·.dst) with
   | none => False
   | some d => match F.get d with
     | some (.bool b) => match dget D d with
       | some b' => match b,b' with
         | true,true => match want with | true => vOp P E N o D F H K | false => vNot N o D F H K
         | false,false => match want with | true => vNot N o D F H K | false => vOp P E N o D F H K
         | _,_ => False
       | none => (b = want→vOp P E N o ((d,want) :: D) ((d,.bool want) :: F) H K)∧(b = (!want)→vNot N o ((d,!want) :: D) ((d,.bool (!want)) :: F) H K)
     | some (.tuple _) => vNot N o D F H K
     | _ => False
def vSeq (ops : Array Oper) : List Oper→Dec→Fr→Heap→(Dec→Fr→Heap→Prop)→Prop
 | [],D,F,H,K => K D F H
 | o :: r,D,F,H,K => vStep P E N ops o D F H fun D F H => vSeq ops r D F H K
end
variable {E : VEnv} {N base : Nat} {ρ0 : Ren} {H0 : Heap} {w0 : World} {F : Fr} {a : Act} {D : Dec} {K : Dec→Fr→Heap→Prop} {ops : Array Oper} {o : Oper} {i : Nat} {ro : Option Nat}
theorem put_defers (a : Act) (d : Option Tmp) (v : Value) : (a.put d v).defers = a.defers := by cases d <;> rfl
theorem vNot_sound (ho : ops[i]? = some o) (hw : Region.wanted o (yielded ops a.tmps) = false) (h : vNot N o D F H K) (hA : At N base ρ0 H0 w0 H F a w) {Q : Exit→Act→World→Prop} {K' : Act→World→Prop}
   (hK : ∀ D F H a w,K D F H→At N base ρ0 H0 w0 H F a w→K' a w) : wpOpIn (Place.F ⟨[],ro⟩) 0 P ops Q i K' a w := by
 unfold vNot at h
 split at h
 · exact h.elim
 · rename_i hd
   unfold wpOpIn
   rw [ho]
   simp only [hw,Bool.false_eq_true,if_false]
   obtain ⟨ρ,R,X,hF,M⟩ := hA.ex
   refine ⟨fun _ _ => trivial,hK _ _ _ _ _ h ⟨ρ,R,X,?_,by rw [put_defers]; exact M⟩⟩
   have := hF.put (v := undef) hd (sc_undef _)
   rw [ren_undef] at this
   exact this
theorem vOp_sound (hct : VOk P E) (ho : ops[i]? = some o) (hw : Region.wanted o (yielded ops a.tmps) = true) (h : vOp P E N o D F H K) (hA : At N base ρ0 H0 w0 H F a w) {Q : Exit→Act→World→Prop} {K' : Act→World→Prop}
   (hK : ∀ D F H a w,K D F H→At N base ρ0 H0 w0 H F a w→K' a w) : wpOpIn (Place.F ⟨[],ro⟩) 0 P ops Q i K' a w := by
 unfold vOp at h
 split at h
 · exact h.elim
 rename_i hd
 obtain ⟨ρ,R,X,hF,M⟩ := hA.ex
 unfold wpOpIn
 rw [ho]
 simp only [hw,if_true]
 refine ⟨fun _ _ => trivial,?_⟩
 split at h
 · rename_i q hrow
   obtain ⟨v,H1,h1,h2,h3⟩ := symRow_sound hrow h
   obtain ⟨ρ',w',k1,k2,k3,k4⟩ := rowOf_sound (w := w) R hF.env h1
   rw [Oper.semAt_eq _ _ _ (rowOf_defer h1),k1]
   simp only [ONext.to,Oper.uponIn]
   exact hK _ _ _ _ _ h3 ⟨ρ',k2,X.trans k3,(hF.move k3.agreeN k3.len).put hd k4,by rw [put_defers]; exact M.ext k3⟩
 have plain : ∀ (v : Option Value) (H1 : Heap),evOp P (fenv F) H o = some (outOf v,H1)→K (dnew D o) (fput F o.dst (v.getD undef)) H1→Oper.uponIn (Place.F ⟨[],ro⟩) 0 P o a K' Q ((o.semAt (Place.F ⟨[],ro⟩).round a.eval).run P w) := fun v H1 he h => by
   obtain ⟨ρ',w',h1,h2,h3,h4⟩ := evOp_sound (w := w) R hF.env he
   rw [Oper.semAt_eq _ _ _ (evOp_defer he),h1]
   have hF' := hF.move h3.agreeN h3.len
   cases v with
   | some v =>
     simp only [outOf,ONext.to,Oper.uponIn]
     exact hK _ _ _ _ _ h ⟨ρ',h2,X.trans h3,hF'.put hd h4,by rw [put_defers]; exact M.ext h3⟩
   | none =>
     simp only [outOf,ONext.to,Oper.uponIn]
     have := hF'.put (v := undef) hd (sc_undef _)
     rw [ren_undef] at this
     exact hK _ _ _ _ _ h ⟨ρ',h2,X.trans h3,this,by rw [put_defers]; exact M.ext h3⟩
 split at h
 · rename_i φ v H1 hs
   exact plain v H1 (hct.orc _ _ _ _ _ _ hs h.1.out) h.2
 split at h
 · rename_i x hop
   unfold vNext at h
   split at h <;> try (exact h.elim)
   rename_i v hv
   obtain ⟨⟨outs,hn,hall⟩,h⟩ := And.intro h.1.out h.2
   obtain ⟨_,ev⟩ := hF.env _ _ hv
   obtain ⟨u,H1,w',h1,h2,h3,h4,h5⟩ := aNext_sound (P := P) R o.type hn
   have hrun : (execOp a.eval o).run P w = .ok (.value (ren ρ u)) w' := by
     unfold execOp
     rw [hop]
     simp only [ev,Sem.run_bind,h2,Result.andThen_ok,Sem.run_pure]
   rw [Oper.semAt_eq _ _ _ (by intro c hc; rw [hop] at hc; cases hc),hrun]
   simp only [Oper.uponIn]
   obtain ⟨s,hs,y,hy,e⟩ := hall _ h1
   obtain ⟨rfl,rfl⟩ := Prod.mk.inj e
   exact hK _ _ _ _ _ (allN_get h hs y hy) ⟨ρ,h3,X.trans h4,(hF.move h4.agreeN h4.len).put hd h5,by rw [put_defers]; exact M.ext h4⟩
 split at h
 · rename_i φ v H1 hs
   obtain ⟨hφ,h⟩ : Asks φ∧K (dnew D o) (fput F o.dst (v.getD undef)) H1 := by
     split at h
     · exact ⟨trivial,h⟩
     · exact ⟨h.1.out,h.2⟩
   exact plain v H1 (symOp_sound hs hφ) h
 unfold vRest at h
 split at h
 · rename_i f args H1 he
   have hcall : Call P f args H1 fun v H2 => K (dnew D o) (fput F o.dst v) H2 := by
     unfold vCall at h
     split at h
     · rename_i T hT; exact hct.cc _ _ _ _ hT _ h
     · split at h
       · rename_i v H2 l hc; exact (hct.ct _ _ _ _ _ _ _ hc trivial).1.mono fun v' H' ⟨e1,e2⟩ => by subst e1; subst e2; exact h
       · rename_i φ v H2 l hc; exact (hct.ct _ _ _ _ _ _ _ hc h.1.out).1.mono fun v' H' ⟨e1,e2⟩ => by subst e1; subst e2; exact h.2
       · exact h.elim
   obtain ⟨ρ',w',h1,h2,h3,h4⟩ := evOp_sound (w := w) R hF.env he
   rw [Oper.semAt_eq _ _ _ (evOp_defer he),h1]
   simp only [ONext.to,Oper.uponIn]
   refine ⟨fun hd => (by cases hd),CallsIn.mono (callsIn_wide.2 (hcall ρ' w' h2 h4)) ?_⟩
   rintro e w'' ⟨ρ2,v,H2,rfl,hk,k2,k3,k4⟩
   simp only
   have hF' := (hF.move h3.agreeN h3.len).move k3.agreeN k3.len
   exact hK _ _ _ _ _ hk ⟨ρ2,k2,(X.trans h3).trans k3,hF'.put hd k4,by rw [put_defers]; exact (M.ext h3).ext k3⟩
 · exact h.elim
 · split at h <;> try (exact h.elim)
   rename_i b args hy
   split at h <;> try (exact h.elim)
   rename_i T hT
   obtain ⟨a1,a2⟩ := yield_args hF.env hy
   obtain ⟨fn,tmps,assign,body,h1,h2⟩ := hct.yc _ _ _ _ hT _ h ρ w R a1
   rw [Oper.semAt_eq _ _ _ a2,yield_run hF.env hy h1]
   rw [Oper.uponIn_round]
   refine ⟨fun hd => (by cases hd),RoundIn.mono (F := Fence.wide) h2 ?_⟩
   rintro e w'' ⟨ρ2,v,H2,rfl,k1,k2,k3,k4⟩
   simp only
   exact hK _ _ _ _ _ k1 ⟨ρ2,k2,X.trans k3,(hF.move k3.agreeN k3.len).put hd k4,by rw [put_defers]; exact M.ext k3⟩
theorem yielded_of {d j : Nat} {b : Bool} (hd : (ops[j]?).bind (·.dst) = some d) (hA : At N base ρ0 H0 w0 H F a w) (hb : F.get d = some (.bool b)) : yielded ops a.tmps j = some b := by
 obtain ⟨ρ,_,_,hF,_⟩ := hA.ex
 have h1 := (hF.val d _ hb).1
 unfold yielded
 rw [hd]
 simp only [Option.bind_some]
 rw [Array.getD_eq_getD_getElem?] at h1
 cases h2 : a.tmps[d]? with
 | none => rw [h2] at h1; cases h1
 | some v => rw [h2] at h1; simp only [Option.getD_some] at h1; rw [h1]; rfl
theorem yielded_not {d j : Nat} {vs : Array Value} (hd : (ops[j]?).bind (·.dst) = some d) (hA : At N base ρ0 H0 w0 H F a w) (hb : F.get d = some (.tuple vs)) : yielded ops a.tmps j = none := by
 obtain ⟨ρ,_,_,hF,_⟩ := hA.ex
 have h1 := (hF.val d _ hb).1
 unfold yielded
 rw [hd]
 simp only [Option.bind_some]
 rw [Array.getD_eq_getD_getElem?] at h1
 cases h2 : a.tmps[d]? with
 | none => rfl
 | some v => rw [h2] at h1; simp only [Option.getD_some] at h1; rw [h1]; rfl
theorem At.learn {d : Nat} {b : Bool} (hA : At N base ρ0 H0 w0 H F a w) (hb : F.get d = some (.bool b)) : At N base ρ0 H0 w0 H ((d,.bool b) :: F) a w := by
 obtain ⟨ρ,R,X,hF,M⟩ := hA.ex
 refine ⟨ρ,R,X,hF.less fun k v hk => ?_,M⟩
 rw [Fr.get_cons] at hk
 split at hk
 · rename_i he; subst he; cases hk; exact hb
 · exact hk
theorem vStep_sound (hct : VOk P E) (ho : ops[i]? = some o) (h : vStep P E N ops o D F H K) (hA : At N base ρ0 H0 w0 H F a w) {Q : Exit→Act→World→Prop} {K' : Act→World→Prop}
   (hK : ∀ D F H a w,K D F H→At N base ρ0 H0 w0 H F a w→K' a w) : wpOpIn (Place.F ⟨[],ro⟩) 0 P ops Q i K' a w := by
 unfold vStep at h
 split at h
 · rename_i hg
   exact vOp_sound hct ho (by simp [Region.wanted,hg]) h hA hK
 · rename_i j want hg
   split at h
   · exact h.elim
   rename_i d hd
   split at h
   · rename_i b hb
     have hy := yielded_of hd hA hb
     have hyes : b = want→Region.wanted o (yielded ops a.tmps) = true := fun e => by simp [Region.wanted,hg,hy,e]
     have hno : b = (!want)→Region.wanted o (yielded ops a.tmps) = false := fun e => by subst e; cases want <;> simp [Region.wanted,hg,hy]
     split at h
     · split at h
       · cases want with
         | true => exact vOp_sound hct ho (hyes rfl) h hA hK
         | false => exact vNot_sound ho (hno rfl) h hA hK
       · cases want with
         | true => exact vNot_sound ho (hno rfl) h hA hK
         | false => exact vOp_sound hct ho (hyes rfl) h hA hK
       · exact h.elim
     · by_cases e : b = want
       · exact vOp_sound hct ho (hyes e) (h.1 e) (hA.learn (by rw [hb,e])) hK
       · have e' : b = !want := by cases b <;> cases want <;> simp_all
         exact vNot_sound ho (hno e') (h.2 e') (hA.learn (by rw [hb,e'])) hK
   · rename_i vs hb
     have hy := yielded_not hd hA hb
     exact vNot_sound ho (by simp [Region.wanted,hg,hy]) h hA hK
   · exact h.elim
theorem vSeq_sound (hct : VOk P E) {Q : Exit→Act→World→Prop} : ∀ (r : List Oper) (k : Nat) (D : Dec) (F : Fr) (H : Heap) (a : Act) (w : World),ops.toList.drop k = r→vSeq P E N ops r D F H K→At N base ρ0 H0 w0 H F a w →
   (∀ D F H a w,K D F H→At N base ρ0 H0 w0 H F a w→Q .normal a w)→wpOpsIn (Place.F ⟨[],ro⟩) 0 P ops Q (List.range' k r.length) a w
 | [],_,_,_,_,_,_,_,h,hA,hQ => hQ _ _ _ _ _ h hA
 | o :: r,k,D,F,H,a,w,hr,h,hA,hQ => by
   have hk : ops[k]? = some o := by
     have : (ops.toList.drop k)[0]? = some o := by rw [hr]; rfl
     rw [List.getElem?_drop] at this
     simpa using this
   have hr' : ops.toList.drop (k + 1) = r := by
     rw [← List.drop_drop,hr]; rfl
   rw [List.length_cons,List.range'_succ,wpOpsIn_cons]
   exact vStep_sound hct hk h hA fun D F H a w h1 h2 => vSeq_sound hct r (k + 1) D F H a w hr' h1 h2 hQ
end Go.Pier
namespace Go.Pier
open Go
variable {P : Program} {ops : Array Oper} {w : World}
structure Like (R : Nat→Prop) (a b : Act) : Prop where
 defers : a.defers = b.defers
 size : a.tmps.size = b.tmps.size
 on : ∀ k,R k→a.tmps[k]? = b.tmps[k]?
theorem Like.put {R R' : Nat→Prop} {a b : Act} (h : Like R a b) (d : Option Tmp) (v : Value) (hR : ∀ k,R' k→R k∨d = some k) : Like R' (a.put d v) (b.put d v) := by
 cases d with
 | none => exact ⟨h.defers,h.size,fun k hk => h.on k ((hR k hk).resolve_right (by simp))⟩
 | some d =>
   refine ⟨h.defers,by simp [Act.put,h.size],fun k hk => ?_⟩
   simp only [Act.put,Array.getElem?_setIfInBounds,h.size]
   split
   · rfl
   · rename_i hne
     exact h.on k ((hR k hk).resolve_right (by simpa using hne))
theorem uponIn_like {F : Fence} {n : Nat} {o : Oper} {a b : Act} {next next' : Act→World→Prop} {Q Q' : Exit→Act→World→Prop} (h : ∀ v w,next (b.put o.dst v) w→next' (a.put o.dst v) w)
   (h2 : ∀ d v w,next ({ b with defers := d :: b.defers }.put o.dst v) w→next' ({ a with defers := d :: a.defers }.put o.dst v) w)
   (hQ : ∀ e a w,Q e a w→e = .normal) : ∀ (r : Result Next),o.uponIn F n P b next Q r→o.uponIn F n P a next' Q' r := by
 intro r hh
 cases r with
 | ok x w' =>
   cases x <;> simp only [Oper.uponIn] at hh ⊢
   case value v => exact h _ _ hh
   case skip => exact h _ _ hh
   case defer d => exact h2 _ _ _ hh
   case enter f args =>
     refine ⟨hh.1,CallsIn.mono hh.2 fun e w'' he => ?_⟩
     cases e with
     | returned v => exact h _ _ he
     | panicked c => exact absurd (hQ _ _ _ he) (by simp)
     | outgrown => obtain ⟨_,_,he⟩ := he; exact absurd (hQ _ _ _ he) (by simp)
   case row row args => exact ⟨hh.1,RowsIn.mono hh.2 fun _ _ he => h _ _ he⟩
   case round l f tmps assign body =>
     refine ⟨hh.1,RoundIn.mono hh.2 fun e w'' he => ?_⟩
     cases e with
     | returned v => exact h _ _ he
     | panicked c => exact absurd (hQ _ _ _ he) (by simp)
     | outgrown => obtain ⟨_,_,he⟩ := he; exact absurd (hQ _ _ _ he) (by simp)
 | halt x w' =>
   cases x <;> simp only [Oper.uponIn] at hh ⊢
   exact absurd (hQ _ _ _ hh) (by simp)
theorem eval_like {R : Nat→Prop} {a b : Act} (h : Like R a b) {x : Operand} (hx : ∀ t,x = .tmp t→R t) : a.eval x = b.eval x := by
 cases x with
 | tmp t =>
   simp only [Act.eval,Array.getD_eq_getD_getElem?]
   rw [h.on t (hx t rfl)]
 | _ => rfl
def guardTmp (ops : Array Oper) (o : Oper) : Option Tmp := match o.guard with | some (j,_) => (ops[j]?).bind (·.dst) | none => none
theorem wanted_like {R : Nat→Prop} {a b : Act} (h : Like R a b) {o : Oper} (hR : ∀ t,guardTmp ops o = some t→R t) : Region.wanted o (yielded ops a.tmps) = Region.wanted o (yielded ops b.tmps) := by
 unfold Region.wanted
 cases hg : o.guard with
 | none => rfl
 | some g =>
   obtain ⟨j,want⟩ := g
   simp only
   have : yielded ops a.tmps j = yielded ops b.tmps j := by
     unfold yielded
     cases hd : (ops[j]?).bind (·.dst) with
     | none => rfl
     | some d =>
       simp only [Option.bind_some]
       rw [h.on d (hR d (by unfold guardTmp; rw [hg]; exact hd))]
   rw [this]
def Rl (ops : Array Oper) (R0 : Nat→Prop) (listed : Array Bool) (k : Nat) : Prop := R0 k∨∃ j,listedS listed j∧dstOf ops j = some k
def Off (ops : Array Oper) (a0 a : Act) : Prop := (∀ k,(∀ j,dstOf ops j ≠ some k)→a.tmps[k]? = a0.tmps[k]?)∧a.tmps.size = a0.tmps.size
theorem wpAny_like {D : Place} {R0 : Nat→Prop} (hread : ∀ (i : Nat) (o : Oper),ops[i]? = some o→∀ t,(Operand.tmp t ∈ o.op.operands∨guardTmp ops o = some t)→R0 t∨∃ e ∈ o.after,Region.binds .any e = true∧dstOf ops e.on = some t)
   (hsel : ∀ (i : Nat) (o : Oper),ops[i]? = some o→(∀ cs b,o.op ≠ .select cs b)∧∀ c,o.op ≠ .defer c)
   {Q : Exit→Act→World→Prop} (hQ : ∀ e a w,Q e a w→e = .normal) (a0 : Act) : ∀ (fuel : Nat) (listed : Array Bool) (a b : Act) (w : World),listed.size = ops.size→Like (Rl ops R0 listed) a b→Off ops a0 a →
   wpAnyIn D.F 0 P .any ops Q fuel listed b w→wpAnyIn D.F 0 P .any ops (fun e a1 w1 => ∃ b1 listed,Q e b1 w1∧listed.size = ops.size∧Region.ready .any ops listed = []∧Like (Rl ops R0 listed) a1 b1∧Off ops a0 a1) fuel listed a w := by
 intro fuel
 induction fuel with
 | zero => intro listed a b w hsz hl ho h; exact ⟨h.1,b,listed,h.2,hsz,h.1,hl,ho⟩
 | succ fuel ih =>
   intro listed a b w hsz hl ho h
   refine ⟨fun hr => ⟨b,listed,h.1 hr,hsz,hr,hl,ho⟩,fun i hi => ?_⟩
   have h1 := h.2 i hi
   obtain ⟨_,o,hoi,hrd⟩ := mem_ready.1 hi
   have hsz' : (listed.setIfInBounds i true).size = ops.size := by simp [hsz]
   unfold wpOpIn at h1 ⊢
   rw [hoi] at h1 ⊢
   simp only at h1 ⊢
   have hR : ∀ t,(Operand.tmp t ∈ o.op.operands∨guardTmp ops o = some t)→Rl ops R0 listed t := fun t ht => by
     rcases hread i o hoi t ht with h2 | ⟨e,h3,h4,h5⟩
     · exact .inl h2
     · exact .inr ⟨e.on,hrd e h3 h4,h5⟩
   have hnew : ∀ k,Rl ops R0 (listed.setIfInBounds i true) k→Rl ops R0 listed k∨o.dst = some k := fun k hk => by
     rcases hk with h2 | ⟨j,h2,h3⟩
     · exact .inl (.inl h2)
     · by_cases hj : j = i
       · subst hj
         right
         unfold dstOf at h3
         rw [hoi] at h3
         exact h3
       · refine .inl (.inr ⟨j,?_,h3⟩)
         unfold listedS at h2 ⊢
         rwa [getD_set_ne false (Ne.symm hj)] at h2
   rw [wanted_like hl fun t ht => hR t (.inr ht)]
   have hoff : ∀ {a' : Act} (v : Value),Off ops a0 a'→Off ops a0 (a'.put o.dst v) := fun {a'} v h2 => by
     cases hd : o.dst with
     | none => exact h2
     | some d =>
       refine ⟨fun k hk => ?_,by simp [Act.put,h2.2]⟩
       simp only [Act.put]
       rw [Array.getElem?_setIfInBounds_ne (fun e => hk i (by unfold dstOf; rw [hoi]; simp [hd,e]))]
       exact h2.1 k hk
   split
   · rename_i hw
     rw [if_pos hw] at h1
     refine ⟨fun _ _ => trivial,?_⟩
     have he : o.semAt D.F.round a.eval = o.semAt D.F.round b.eval := by
       rw [Oper.semAt_eq _ _ _ (hsel i o hoi).2,Oper.semAt_eq _ _ _ (hsel i o hoi).2]
       exact execOp_congr o (hsel i o hoi).1 fun x hx => eval_like hl fun t ht => hR t (.inl (ht ▸ hx))
     rw [he]
     have hl2 : ∀ d : Deferred,Like (Rl ops R0 listed) { a with defers := d :: a.defers } { b with defers := d :: b.defers } := fun d => ⟨by simp [hl.defers],hl.size,hl.on⟩
     exact uponIn_like (fun v w' hn => ih _ _ _ _ hsz' (hl.put _ _ hnew) (hoff v ho) hn) (fun d v w' hn => ih _ _ _ _ hsz' ((hl2 d).put _ _ hnew) (hoff (a' := { a with defers := d :: a.defers }) v ho) hn) hQ _ h1.2
   · rename_i hw
     rw [if_neg hw] at h1
     exact ⟨fun _ _ => trivial,ih _ _ _ _ hsz' (hl.put _ _ hnew) (hoff _ ho) h1.2⟩
end Go.Pier
namespace Go.Pier
open Go
variable {P : Program} {ρ : Ren} {H H' : Heap} {w : World} {N n0 : Nat} {F : Fr} {ops : Array Oper} {ro : Option Nat}
def frT (N : Nat) (F : Fr) : Array Value := ((List.range N).map fun k => match F.get k with | some v => v | none => undef).toArray
theorem frT_size : (frT N F).size = N := by simp [frT]
theorem frT_get {k : Nat} (hk : k < N) : (frT N F)[k]? = some ((F.get k).getD undef) := by
 simp only [frT,List.getElem?_toArray,List.getElem?_map,List.getElem?_range hk,Option.map_some]
 cases F.get k <;> rfl
def operOk (F : Fr) (N : Nat) (ops : Array Oper) (o : Oper) (t : Tmp) : Bool :=
 Nat.ble N t || (match F.get t with | some _ => true | none => false) || o.after.toList.any fun e => Region.binds .any e && (match dstOf ops e.on with | some d => Nat.beq d t | none => false)
def readsOk (F : Fr) (N : Nat) (ops : Array Oper) : Bool :=
 ops.toList.all fun o => (match o.op with | .select .. => false | .defer _ => false | _ => true) && (o.op.operands.toList.all fun x => match x with | .tmp t => operOk F N ops o t | _ => true) && (match guardTmp ops o with | some t => operOk F N ops o t | none => true)
def drawF (ops : Array Oper) (t : Array Value) (F : Fr) : Fr := (ops.toList.filterMap (·.dst)).map (fun d => (d,t.getD d undef)) ++ F
theorem get_app : ∀ {A B : Fr} {k : Nat} {v : Value},Fr.get (A ++ B) k = some v→(A.get k = some v)∨(A.get k = none∧B.get k = some v)
 | [],_,_,_,h => .inr ⟨rfl,h⟩
 | (d,u) :: A,B,k,v,h => by
   rw [List.cons_append,Fr.get_cons] at h
   rw [Fr.get_cons]
   split at h
   · rename_i e; rw [if_pos e]; exact .inl h
   · rename_i e; rw [if_neg e]; exact get_app h
theorem get_map {f : Nat→Value} : ∀ {l : List Nat} {k : Nat},Fr.get (l.map fun d => (d,f d)) k = if k ∈ l then some (f k) else none
 | [],k => by simp [Fr.get]
 | d :: l,k => by
   rw [List.map_cons,Fr.get_cons]
   by_cases h : d = k
   · subst h; simp
   · rw [if_neg h,get_map]
     simp [Ne.symm h]
theorem operOk_iff {o : Oper} {t : Tmp} (h : operOk F N ops o t = true) : (F.get t ≠ none∨N≤t)∨∃ e ∈ o.after,Region.binds .any e = true∧dstOf ops e.on = some t := by
 simp only [operOk,Bool.or_eq_true] at h
 rcases h with (h | h) | h
 · exact .inl (.inr (Nat.le_of_ble_eq_true h))
 · split at h
   · rename_i v hv; exact .inl (.inl (by rw [hv]; simp))
   · cases h
 · obtain ⟨e,h1,h2⟩ := List.any_eq_true.1 h
   simp only [Bool.and_eq_true] at h2
   refine .inr ⟨e,by simpa using h1,h2.1,?_⟩
   have h3 := h2.2
   split at h3
   · rename_i d hd; rw [hd,Nat.eq_of_beq_eq_true h3]
   · cases h3
theorem dstOf_mem {d : Tmp} : (∃ j,dstOf ops j = some d) ↔ d ∈ ops.toList.filterMap (·.dst) := by
 constructor
 · rintro ⟨j,h⟩
   unfold dstOf at h
   cases ho : ops[j]? with
   | none => rw [ho] at h; cases h
   | some o =>
     rw [ho] at h
     exact List.mem_filterMap.2 ⟨o,by simpa using Array.mem_of_getElem? ho,h⟩
 · intro h
   obtain ⟨o,h1,h2⟩ := List.mem_filterMap.1 h
   obtain ⟨j,hj,rfl⟩ := List.getElem_of_mem h1
   refine ⟨j,?_⟩
   unfold dstOf
   have : ops[j]? = some ops.toList[j] := by
     rw [← Array.getElem?_toList,List.getElem?_eq_getElem hj]
   rw [this]; exact h2
theorem VW.draw {call : CallFn} (hc : CallOk P call) (hm : P.follows .mixedOrders = true) {id : Nat} {t' : Array Value} {l : List Nat} {K : AExit→Fr→Heap→Prop} (hr : readsOk F N ops = true) (hev : evDraw P call ops H (frT N F) = some (t',H',l))
   (hK : K .normal (drawF ops t' F) H') : VW n0 N ro P (.region id ops true) H F K := by
 intro base ρ0 H0 w0 a w hn hA
 obtain ⟨ρ,R,X,hF,M⟩ := hA.ex
 have hts : (frT N F).all (sc H.length) = true := by
   refine Array.all_eq_true'.2 fun v hv => ?_
   obtain ⟨k,hk⟩ := Array.getElem?_of_mem hv
   have hlt := (Array.getElem?_eq_some_iff.1 hk).1
   rw [frT_size] at hlt
   rw [frT_get hlt] at hk
   cases hk
   cases hg : F.get k with
   | none => exact sc_undef _
   | some v => exact (hF.val k v hg).2
 obtain ⟨hany,hall⟩ := evDraw_any (dd := ro) hc hev
 have h1 := hany base a.defers ρ w R M hts
 let b := act ⟨a.defers,ro⟩ ρ (frT N F)
 have hro := List.all_eq_true.1 hr
 have hlike : Like (Rl ops (fun k => F.get k ≠ none∨N≤k) (Array.replicate ops.size false)) a b := by
   refine ⟨rfl,by simp [b,act,frT_size,hF.size],fun k hk => ?_⟩
   rcases hk with (hk | hk) | ⟨j,hj,_⟩
   · cases hg : F.get k with
     | none => exact absurd hg hk
     | some v =>
       have h2 := (hF.val k v hg).1
       rcases Nat.lt_or_ge k N with h3 | h3
       · have e1 : a.tmps[k]? = some (a.tmps.getD k undef) := by
           rw [Array.getD_eq_getD_getElem?,Array.getElem?_eq_getElem (by rw [hF.size]; exact h3)]; rfl
         rw [e1,h2]
         simp only [b,act,Array.getElem?_map,frT_get h3,hg,Option.map_some,Option.getD_some]
       · rw [Array.getElem?_eq_none (by rw [hF.size]; exact h3),Array.getElem?_eq_none (by simp [b,act,frT_size]; exact h3)]
   · rw [Array.getElem?_eq_none (by rw [hF.size]; exact hk),Array.getElem?_eq_none (by simp [b,act,frT_size]; exact hk)]
   · unfold listedS at hj
     rw [getD_replicate_false] at hj
     cases hj
 have hread : ∀ (i : Nat) (o : Oper),ops[i]? = some o→∀ t,(Operand.tmp t ∈ o.op.operands∨guardTmp ops o = some t)→(F.get t ≠ none∨N≤t)∨∃ e ∈ o.after,Region.binds .any e = true∧dstOf ops e.on = some t := by
   intro i o ho t ht
   have h2 := hro o (by simpa using Array.mem_of_getElem? ho)
   simp only [Bool.and_eq_true] at h2
   rcases ht with ht | ht
   · exact operOk_iff (List.all_eq_true.1 h2.1.2 (.tmp t) (by simpa using ht))
   · have h3 := h2.2
     rw [ht] at h3
     exact operOk_iff h3
 have hsel : ∀ (i : Nat) (o : Oper),ops[i]? = some o→(∀ cs b,o.op ≠ .select cs b)∧∀ c,o.op ≠ .defer c := by
   intro i o ho
   have h2 := hro o (by simpa using Array.mem_of_getElem? ho)
   simp only [Bool.and_eq_true] at h2
   have h3 := h2.1.1
   exact ⟨fun cs b e => (by rw [e] at h3; cases h3),fun c e => (by rw [e] at h3; cases h3)⟩
 refine wpIn_region_any hm ?_
 have h2 := wpAny_like (D := ⟨a.defers,ro⟩) hread hsel (by rintro e a1 w1 ⟨x,rfl,_,_,t2,_,_,⟨rfl,_⟩,_⟩; rfl) a ops.size (Array.replicate ops.size false) a b _ (by simp) hlike ⟨fun _ _ => rfl,rfl⟩ h1
 have hmono : ∀ (fuel : Nat) (listed : Array Bool) (a1 : Act) (w1 : World) {Q Q' : Exit→Act→World→Prop},(∀ e a w,Q e a w→Q' e a w)→wpAnyIn (Place.F ⟨a.defers,ro⟩) 0 P .any ops Q fuel listed a1 w1→(∀ e a w,Q e a w→e = .normal)→wpAnyIn (Place.F ⟨a.defers,ro⟩) 0 P .any ops Q' fuel listed a1 w1 := by
   intro fuel
   induction fuel with
   | zero => intro listed a1 w1 Q Q' hq h _; exact ⟨h.1,hq _ _ _ h.2⟩
   | succ fuel ih =>
     intro listed a1 w1 Q Q' hq h hn
     refine ⟨fun hr => hq _ _ _ (h.1 hr),fun i hi => ?_⟩
     have h3 := h.2 i hi
     unfold wpOpIn at h3 ⊢
     split
     · rename_i he; rw [he] at h3; exact ih _ _ _ hq h3 hn
     · rename_i o he
       rw [he] at h3
       simp only at h3
       split
       · rename_i hw
         rw [if_pos hw] at h3
         exact ⟨h3.1,uponIn_like (fun v w' hx => ih _ _ _ hq hx hn) (fun d v w' hx => ih _ _ _ hq hx hn) hn _ h3.2⟩
       · rename_i hw
         rw [if_neg hw] at h3
         exact ⟨h3.1,ih _ _ _ hq h3.2 hn⟩
 refine hmono _ _ _ _ ?_ h2 (by rintro e a1 w1 ⟨b1,listed,⟨x,rfl,_,_,t2,_,_,⟨rfl,_⟩,_⟩,_⟩; rfl)
 rintro e a1 w1 ⟨b1,listed,⟨x,rfl,ds',ρ',t2,H2,rfl,⟨rfl,rfl,rfl⟩,R',X',s',M'⟩,hsz,hnil,hl,hoff⟩
 refine ⟨.normal,_,_,rfl,hK,ρ',R',X.trans X',⟨?_,fun k v hk => ?_⟩,by rw [hl.defers]; exact M'⟩
 · rw [hoff.2]; exact hF.size
 · rcases get_app hk with h4 | ⟨h4,h5⟩
   · rw [get_map] at h4
     split at h4
     · rename_i hmem
       cases h4
       obtain ⟨j,hj⟩ := dstOf_mem.2 hmem
       have hjl : j < ops.size := by
         unfold dstOf at hj
         cases ho : ops[j]? with
         | none => rw [ho] at hj; cases hj
         | some o => exact get_lt ho
       have := hl.on k (.inr ⟨j,hall listed hsz hnil j hjl,hj⟩)
       rw [Array.getD_eq_getD_getElem?,this,← Array.getD_eq_getD_getElem?]
       exact ⟨getD_map_ren _ _,getD_sc s' k⟩
     · cases h4
   · rw [get_map] at h4
     split at h4
     · cases h4
     · rename_i hmem
       obtain ⟨k1,k2⟩ := hF.val k v h5
       rw [Array.getD_eq_getD_getElem?,hoff.1 k (fun j hj => hmem (dstOf_mem.1 ⟨j,hj⟩)),← Array.getD_eq_getD_getElem?,k1,ren_agree X'.agreeN k2]
       exact ⟨rfl,sc_mono X'.len k2⟩
end Go.Pier
namespace Go.Pier
open Go
variable {P : Program} {ρ : Ren} {H H' : Heap} {w : World} {n0 N : Nat} {F : Fr}
def frJ (N : Nat) (F : Fr) : Array Value := ((List.range N).map fun k => match F.get k with | some v => v | none => junk).toArray
theorem frJ_get {k : Nat} {v : Value} (h : (frJ N F)[k]? = some v) : k < N∧v = (F.get k).getD junk := by
 simp only [frJ,List.getElem?_toArray,List.getElem?_map] at h
 rcases Nat.lt_or_ge k N with hk | hk
 · rw [List.getElem?_range hk] at h
   simp only [Option.map_some,Option.some.injEq] at h
   refine ⟨hk,?_⟩
   rw [← h]
   cases F.get k <;> rfl
 · rw [List.getElem?_eq_none (by simpa using hk)] at h; cases h
theorem frJ_ok {n : Nat} {a : Act} (hF : FrOk N n ρ F a) : TmOk ρ (frJ N F) a.tmps∧(frJ N F).all (sc n) = true := by
 refine ⟨⟨by simp [frJ,hF.size],fun k v hk hj => ?_⟩,Array.all_eq_true'.2 fun v hv => ?_⟩
 · obtain ⟨h1,h2⟩ := frJ_get hk
   cases hg : F.get k with
   | none => rw [hg] at h2; subst h2; cases hj
   | some u =>
     rw [hg] at h2
     simp only [Option.getD_some] at h2
     subst h2
     have := (hF.val k v hg).1
     rw [Array.getD_eq_getD_getElem?] at this
     have hlt : k < a.tmps.size := by rw [hF.size]; exact h1
     rw [Array.getElem?_eq_getElem hlt] at this ⊢
     exact congrArg some this
 · obtain ⟨k,hk⟩ := Array.mem_iff_getElem?.1 hv
   obtain ⟨h1,h2⟩ := frJ_get hk
   cases hg : F.get k with
   | none => rw [hg] at h2; subst h2; simp [junk,sc,sc2]
   | some u => rw [hg] at h2; simp only [Option.getD_some] at h2; subst h2; exact (hF.val k v hg).2
def pendV (pend : Option Code) (F : Fr) (K : AExit→Fr→Heap→Prop) (H2 : Heap) : Prop :=
 match pend with
 | none => K .normal F H2
 | some (.exit id) => K (.exit id) F H2
 | some .ret => K .ret F H2
 | some _ => False
def rangeEndV (n : Nat) (F : Fr) (K : AExit→Fr→Heap→Prop) (H2 : Heap) : Prop :=
 match H2[n]? with
 | some (.loop st pend _ _ _ _) => match st with
   | .busy => False
   | _ => pendV pend F K (H2.set n .gone)
 | _ => False
theorem VW.rangeFunc {g : Operand} {ps : Array Tmp} {assign body : Code} {K : AExit→Fr→Heap→Prop} {gf : FuncId} {a cap : Array Value} (hg : fenv F g = some (.func (.func gf) a cap)) (hok : fnOk P gf = true)
   (h : Pier.Call P gf (a.toList ++ [.func (.yield H.length) #[] #[]] ++ cap.toList) (H ++ [.loop .ready none (frJ N F) ps assign body]) fun _ H2 => rangeEndV H.length F K H2) :
   VW n0 N none P (.rangeFunc g ps assign body) H F K := by
 intro base ρ0 H0 w0 ac w hn hA
 refine wpIn_rangeFunc fun fn _ => ?_
 obtain ⟨ρ,R,X,hF,M⟩ := hA.ex
 obtain ⟨gs,ge⟩ := hF.env _ _ hg
 have hsc : a.all (scA H.length) = true∧cap.all (sc0 H.length) = true := by
   have : (a.all (scA H.length) && cap.all (sc0 H.length)) = true := gs
   simpa only [Bool.and_eq_true] using this
 obtain ⟨hT,hs⟩ := frJ_ok hF
 obtain ⟨R0,X0⟩ := R.more (.deferred (some []))
 let w0' := w.alloc (.deferred (some []))
 have hw0 : w0'.heap.size = w.heap.size + 1 := alloc_size _ _
 let L : Obj := .loop { state := .ready,pending := none,fn := fn,tmps := ac.tmps,params := ps,assign := assign,body := body,defers := w.heap.size }
 let w1 := w0'.alloc L
 let ρ1 := ρ.ext H.length w0'.heap.size 0
 have hag : Agree H.length ρ ρ1 := Ren.ext_agree ρ H.length w0'.heap.size 0
 have hφ1 : ρ1.φ H.length = w0'.heap.size := by simp [ρ1,Ren.ext]
 obtain ⟨R1,X1⟩ := R0.push (w' := w1) (.loop .ready none (frJ N F) ps assign body) 0 rfl (all_mono (fun _ => sc_mono (Nat.le_succ _)) _ hs) (alloc_size _ _) (fun i hi => alloc_old _ _ _ hi)
   ⟨fn,w.heap.size,ac.tmps,by
     rw [show (ρ.ext H.length w0'.heap.size 0).φ H.length = w0'.heap.size from hφ1]
     rw [alloc_new],hT.move fun k v hk => ren_agree hag (Array.all_eq_true'.1 hs v (Array.mem_of_getElem? hk))⟩ rfl rfl rfl
 have X01 := X0.trans X1
 have M1 : Marks base ρ1 (H ++ [.loop .ready none (frJ N F) ps assign body]) w1 ({ target := .collected w.heap.size,args := #[] } :: ac.defers) := by
   have M' := M.ext X01
   refine ⟨M'.low,List.pairwise_cons.2 ⟨fun d hd => ?_,M'.apart⟩,fun d hd => ?_⟩
   · obtain ⟨r,e1,e2,e3,e4⟩ := M.each d hd
     have hr : r < w.heap.size := by
       obtain ⟨hl,_⟩ := Array.getElem?_eq_some_iff.1 e3
       exact hl
     rw [e1]
     intro he
     injection he with he
     omega
   · rcases List.mem_cons.1 hd with rfl | hd
     · refine ⟨w.heap.size,rfl,M.low,?_,fun b hb => ?_⟩
       · show w1.heap[w.heap.size]? = _
         rw [show w1.heap[w.heap.size]? = w0'.heap[w.heap.size]? from alloc_old _ _ _ (by omega)]
         exact alloc_new _ _
       · have hlt := wr_lt hb
         simp only [List.length_append,List.length_cons,List.length_nil] at hlt
         by_cases hbn : b = H.length
         · subst hbn; rw [hφ1]; omega
         · rw [(hag b (by omega)).1]
           have := R.phys_lt (b := b) (by rw [← hb]; exact (wr_append_lt (by omega)).symm)
           omega
     · exact M'.each d hd
 have hsY : (a.toList ++ [Value.func (.yield H.length) #[] #[]] ++ cap.toList).all (sc (H ++ [AObj.loop .ready none (frJ N F) ps assign body]).length) = true := by
   have k1 := all_sc_of_scA (all_mono (fun v => scA_mono (Nat.le_succ H.length) (v := v)) a hsc.1)
   have k2 := all_sc_of_sc0 (all_mono (fun v => sc0_mono (Nat.le_succ H.length) (v := v)) cap hsc.2)
   have k3 : sc (H.length + 1) (.func (.yield H.length) #[] #[]) = true := by simp [sc,sc2,sc1]
   simp only [List.all_append,List.length_append,List.length_cons,List.length_nil,Nat.zero_add,List.all_cons,List.all_nil,Bool.and_true,Bool.and_eq_true]
   exact ⟨⟨k1,k3⟩,k2⟩
 have hcall := h ρ1 w1 R1 hsY
 refine ⟨w.heap.size + 1,[{ target := .collected w.heap.size,args := #[] }],w1,{ target := .fn (.func gf) (cap.map (ren0 ρ1)),args := a.map (renA ρ1) ++ #[.func (.yield (w.heap.size + 1)) #[] #[]] },w1,gf,
   a.map (renA ρ1) ++ #[.func (.yield (w.heap.size + 1)) #[] #[]] ++ cap.map (ren0 ρ1),w1,?_,?_,fun _ _ => trivial,?_,fun hd => (by cases hd),?_⟩
 · exact run_enterLoop_outer _ _ _ _ _
 · have e1 : ac.eval g = .func (.func gf) (a.map (renA ρ1)) (cap.map (ren0 ρ1)) := by
     rw [ge]
     show Value.func (.func gf) (a.map (renA ρ)) (cap.map (ren0 ρ)) = _
     rw [map_congr_all (fun v hv => renA_agree hag hv) a hsc.1,map_congr_all (fun v hv => ren0_agree hag hv) cap hsc.2]
   simp only [resolve,rangeCall,e1,Deferred.ofValue,Sem.run_pure]
   simp [Act.eval]
 · simp only [invoke]
   exact callFunc_ok hok _
 · have ea : ((a.toList ++ [Value.func (.yield H.length) #[] #[]] ++ cap.toList).map (ren ρ1)).toArray = a.map (renA ρ1) ++ #[.func (.yield (w.heap.size + 1)) #[] #[]] ++ cap.map (ren0 ρ1) := by
     have k1 := map_renA (ρ := ρ1) hsc.1
     have k2 := map_ren0 (ρ := ρ1) hsc.2
     apply Array.toList_inj.1
     simp only [List.map_append,← k1,← k2,List.map_cons,List.map_nil]
     simp [ren,ren2,ren1,hφ1,hw0]
   rw [ea] at hcall
   refine CallsIn.mono (callsIn_wide.2 hcall) ?_
   rintro e w3 ⟨ρ3,v,H3,rfl,hend,R3,X3,_⟩
   unfold rangeEndV at hend
   split at hend <;> try (exact hend.elim)
   rename_i st pend t1 ps1 as1 bd1 hb3
   obtain ⟨hst,hq⟩ : st ≠ .busy∧pendV pend F K (H3.set H.length .gone) := by
     split at hend
     · exact hend.elim
     · rename_i hne; exact ⟨hne,hend⟩
   have hφ3 : ρ3.φ H.length = w.heap.size + 1 := by
     rw [(X3.agree H.length (.inl (by simp))).1,hφ1,hw0]
   obtain ⟨r,hr,r1,r2,_,_,_,_,R4,X4⟩ := setLoop_sound (st1 := .exhausted) (pend1 := pend) R3 hb3
   rw [hφ3] at hr R4 X4
   have hlen3 : H.length < H3.length := (List.getElem?_eq_some_iff.1 hb3).1
   let w4 := w3.putObj (w.heap.size + 1) (.loop { r with state := .exhausted,pending := pend })
   have hset : (H3.set H.length (.loop .exhausted pend t1 ps1 as1 bd1)).set H.length .gone = H3.set H.length .gone := by simp
   have R5 : Rel ρ3 (H3.set H.length .gone) w4 := by rw [← hset]; exact R4.forget H.length
   have X5 : Ext ρ H w ρ3 (H3.set H.length .gone) w4 := by rw [← hset]; exact ((X01.trans X3).trans X4).trans (Ext.forget ρ3 _ w4 H.length)
   have M5 : Marks base ρ3 (H3.set H.length .gone) w4 ({ target := .collected w.heap.size,args := #[] } :: ac.defers) := by
     have M4 := (M1.ext X3).ext X4
     rw [← hset]
     exact ⟨M4.low,M4.apart,fun d hd => (M4.each d hd).forget _⟩
   have hF5 : FrOk N (H3.set H.length .gone).length ρ3 F ac := hF.move X5.agreeN (by rw [List.length_set]; omega)
   refine ⟨pend,w4,?_,?_⟩
   · have := run_endLoop (P := P) hr (by rw [r1]; exact hst)
     rw [this,r2]
   · have done : ∀ x, K x F (H3.set H.length .gone) → VPost N base ρ0 H0 w0 K x.to { ac with defers := [{ target := .collected w.heap.size, args := #[] }] ++ ac.defers } w4 :=
       fun x hx => ⟨x,F,_,rfl,hx,ρ3,R5,X.trans X5,⟨hF5.size,hF5.val⟩,M5⟩
     unfold pendV at hq
     split at hq
     · exact done .normal hq
     · exact wpIn_exit (done (.exit _) hq)
     · exact wpIn_ret (done .ret hq)
     · exact hq.elim
def frOf : Nat→List Value→Fr
 | _,[] => []
 | i,v :: r => match isJunk v with
   | true => frOf (i + 1) r
   | false => (i,v) :: frOf (i + 1) r
theorem frOf_get : ∀ (l : List Value) (i k : Nat) (v : Value),(frOf i l).get k = some v→i≤k∧l[k - i]? = some v∧isJunk v = false
 | [],_,_,_,h => by cases h
 | u :: l,i,k,v,h => by
   unfold frOf at h
   split at h
   · obtain ⟨h1,h2,h3⟩ := frOf_get l (i + 1) k v h
     refine ⟨by omega,?_,h3⟩
     rw [show k - i = (k - (i + 1)) + 1 by omega]
     simpa using h2
   · rename_i hj
     rw [Fr.get_cons] at h
     split at h
     · rename_i e; subst e; cases h; simp [hj]
     · obtain ⟨h1,h2,h3⟩ := frOf_get l (i + 1) k v h
       refine ⟨by omega,?_,h3⟩
       rw [show k - i = (k - (i + 1)) + 1 by omega]
       simpa using h2
def frPuts (F : Fr) : List (Tmp × Value)→Fr
 | [] => F
 | (k,v) :: r => frPuts ((k,v) :: F) r
theorem FrOk.puts {n : Nat} : ∀ (l : List (Tmp × Value)) {F : Fr} {a : Act},FrOk N n ρ F a→(∀ p ∈ l,p.1 < N∧sc n p.2 = true) →
   FrOk N n ρ (frPuts F l) { a with tmps := (l.map fun p => (p.1,ren ρ p.2)).foldl (fun (t : Array Value) (p : Tmp × Value) => t.setIfInBounds p.1 p.2) a.tmps }
 | [],_,_,h,_ => h
 | (k,v) :: l,F,a,h,hl => by
   obtain ⟨h1,h2⟩ := hl (k,v) List.mem_cons_self
   have h3 := h.put (d := some k) (v := v) (by simpa [dstOk] using h1) h2
   exact FrOk.puts l (F := (k,v) :: F) (a := a.put (some k) (ren ρ v)) h3 fun p hp => hl p (List.mem_cons_of_mem _ hp)
theorem frOf_ok {n : Nat} {t tm : Array Value} (h : TmOk ρ t tm) (hs : t.all (sc n) = true) : FrOk t.size n ρ (frOf 0 t.toList) { tmps := tm,defers := [] } := by
 refine ⟨h.1,fun k v hk => ?_⟩
 obtain ⟨_,h2,h3⟩ := frOf_get _ _ _ _ hk
 rw [Nat.sub_zero,Array.getElem?_toList] at h2
 have h4 := h.2 k v h2 h3
 refine ⟨?_,Array.all_eq_true'.1 hs v (Array.mem_of_getElem? h2)⟩
 show tm.getD k undef = _
 rw [Array.getD_eq_getD_getElem?,h4]; rfl
theorem Yield.ofVW {b : Nat} {t0 : Array Value} {ps : Array Tmp} {assign body : Code} {args : List Value} {Q : Value→Heap→Prop} (hb : H[b]? = some (.loop .ready none t0 ps assign body)) (hl : args.length = ps.size)
   (hps : ∀ k ∈ ps.toList,k < t0.size)
   (h : ∀ l,VW H.length t0.size (some l) P assign H (frPuts (frOf 0 t0.toList) (ps.toList.zip args)) fun x F1 H1 => x = .normal∧∃ t1 p1 a1 b1,H1[b]? = some (.loop .ready none t1 p1 a1 b1) ∧
     VW H.length t0.size (some l) P body (H1.set b (.loop .busy none t1 p1 a1 b1)) F1 fun x _ H3 => ∃ t3 p3 a3 b3,H3[b]? = some (.loop .busy none t3 p3 a3 b3)∧Q (.bool (decide (x = .normal))) (H3.set b (roundEnd x t3 p3 a3 b3))) :
   Yield P b args H Q := by
 intro ρ w R hs
 obtain ⟨fn,df,tm,ho,htm⟩ := R.obj b _ hb
 have hsc0 : t0.all (sc H.length) = true := R.scp b _ hb
 have hz : (ps.zip (args.map (ren ρ)).toArray).foldl (fun (t : Array Value) (p : Tmp × Value) => t.setIfInBounds p.1 p.2) tm = ((ps.toList.zip args).map fun p => (p.1,ren ρ p.2)).foldl (fun (t : Array Value) (p : Tmp × Value) => t.setIfInBounds p.1 p.2) tm := by
   rw [← Array.foldl_toList]
   congr 1
   simp [List.zip_map_right]
 have hF0 := (frOf_ok htm hsc0).puts (ps.toList.zip args) fun p hp => ⟨hps p.1 (List.of_mem_zip hp).1,List.all_eq_true.1 hs p.2 (List.of_mem_zip hp).2⟩
 refine ⟨fn,((ps.toList.zip args).map fun p => (p.1,ren ρ p.2)).foldl (fun (t : Array Value) (p : Tmp × Value) => t.setIfInBounds p.1 p.2) tm,assign,body,?_,roundIn_of_wpIn trivial ?_⟩
 · simp only [Instr.yield,Sem.run_bind,run_getLoop ho,Result.andThen_ok]
   rw [if_neg (by simp [hl])]
   simp only [Sem.run_bind,Sem.run_pure,Result.andThen_ok]
   rw [← hz]
 · have hA0 : At t0.size w.heap.size ρ H w H (frPuts (frOf 0 t0.toList) (ps.toList.zip args)) ⟨((ps.toList.zip args).map fun p => (p.1, ren ρ p.2)).foldl (fun (t : Array Value) (p : Tmp × Value) => t.setIfInBounds p.1 p.2) tm, []⟩ w :=
     ⟨ρ,R,Ext.refl _ _ _,hF0,⟨Nat.le_refl _,List.Pairwise.nil,by simp⟩⟩
   have h0 := h (ρ.φ b) w.heap.size ρ H w _ w rfl hA0
   refine wpIn_mono h0 ?_
   rintro e a w1 ⟨x,F1,H1,rfl,⟨rfl,t1,p1,a1,b1,hb2,hbody⟩,hA1⟩
   obtain ⟨ρ1,R1,X1,hF1,M1⟩ := hA1.ex
   have hφ1 : ρ1.φ b = ρ.φ b := (X1.agree b (.inl (List.getElem?_eq_some_iff.1 hb).1)).1
   obtain ⟨r,hr,r1,r2,r3,r4,r5,r6,R2,X2⟩ := setLoop_sound (st1 := .busy) (pend1 := none) R1 hb2
   rw [hφ1] at hr R2 X2
   refine ⟨w1.putObj (ρ.φ b) (.loop { r with state := .busy,pending := none }),?_,?_⟩
   · have e : ({ r with state := .busy } : Loop) = { r with state := .busy, pending := none } := by
       cases r
       simp only at r2
       subst r2
       rfl
     simp only [Instr.beginRound,Sem.run_bind,run_getLoop hr,Result.andThen_ok,run_setObj_loop _ hr,r1,e,Sem.run_pure]
   · have hL : (H1.set b (.loop .busy none t1 p1 a1 b1)).length = H1.length := by simp
     have hA2 : At t0.size w.heap.size ρ H w (H1.set b (.loop .busy none t1 p1 a1 b1)) F1 a (w1.putObj (ρ.φ b) (.loop { r with state := .busy,pending := none })) :=
       ⟨ρ1,R2,X1.trans X2,by rw [hL]; exact hF1,M1.ext X2⟩
     refine wpIn_mono (hbody w.heap.size ρ H w a _ rfl hA2) ?_
     rintro e a w3 ⟨x,F3,H3,rfl,⟨t3,p3,a3,b3,hb3,hq⟩,hA3⟩
     obtain ⟨ρ3,R3,X3,hF3,M3⟩ := hA3.ex
     have hφ3 : ρ3.φ b = ρ.φ b := (X3.agree b (.inl (List.getElem?_eq_some_iff.1 hb).1)).1
     have fin : ∀ (st : LoopState) (pend : Option Code), roundEnd x t3 p3 a3 b3 = .loop st pend t3 p3 a3 b3 → (if pend.isNone then LoopState.ready else LoopState.done) = st → decide (x = .normal) = pend.isNone →
         ∃ v w',(Instr.endRound (ρ.φ b) pend).run P w3 = .ok v w'∧∃ ρ' v' H',Ending.returned v = .returned (ren ρ' v')∧Q v' H'∧Rel ρ' H' w'∧Ext ρ H w ρ' H' w'∧sc H'.length v' = true := by
       intro st pend he hst hx
       subst hst
       obtain ⟨r',hr',q1,q2,q3,q4,q5,q6,R4,X4⟩ := setLoop_sound (st1 := if pend.isNone then LoopState.ready else LoopState.done) (pend1 := pend) R3 hb3
       rw [hφ3] at hr' R4 X4
       refine ⟨.bool pend.isNone,w3.putObj (ρ.φ b) (.loop { r' with state := if pend.isNone then LoopState.ready else LoopState.done,pending := pend }),?_,ρ3,.bool pend.isNone,H3.set b (.loop (if pend.isNone then LoopState.ready else LoopState.done) pend t3 p3 a3 b3),rfl,?_,R4,X3.trans X4,rfl⟩
       · simp only [Instr.endRound,Sem.run_bind,run_getLoop hr',Result.andThen_ok,run_setObj_loop _ hr',Sem.run_pure]
       · rw [← he,← hx]; exact hq
     cases x with
     | normal => exact fin .ready none rfl rfl rfl
     | exit id => exact fin .done (some (.exit id)) rfl rfl rfl
     | ret => exact fin .done (some .ret) rfl rfl rfl
end Go.Pier
