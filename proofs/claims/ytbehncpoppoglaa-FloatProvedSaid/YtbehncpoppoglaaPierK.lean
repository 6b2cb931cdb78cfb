import Derived.Test.YtbehncpoppoglaaPierJ
set_option linter.unusedSimpArgs false
set_option linter.unusedVariables false
namespace Go.Pier
open Go
variable {P : Program} {ρ ρ1 : Ren} {w w1 : World}
def nm0 (p : Nat→Bool) : Value→Bool
 | .pointer (some a) => p a.block
 | .slice (some a) _ _ => p a.block
 | .map (some r) => p r
 | _ => true
def nmFn (p : Nat→Bool) : Fn→Bool
 | .yield l => p l
 | _ => true
def nmA (p : Nat→Bool) : Value→Bool
 | .agg cs => cs.all (nm0 p)
 | v => nm0 p v
def nm1 (p : Nat→Bool) : Value→Bool
 | .func f a b => nmFn p f && (a.all (nmA p) && b.all (nm0 p))
 | v => nm0 p v
def nm2 (p : Nat→Bool) : Value→Bool
 | .agg cs => cs.all (nm1 p)
 | v => nm1 p v
def nm (p : Nat→Bool) : Value→Bool
 | .tuple vs => vs.all (nm2 p)
 | v => nm2 p v
def AObj.nm (p : Nat→Bool) : AObj→Bool
 | .gone => true
 | .mix _ => true
 | .ro cs => cs.all (nm1 p)
 | .rw cs _ => cs.all (nm1 p)
 | .map es _ => es.all fun e => nm2 p e.val
 | .iter m _ _ _ => p m
 | .loop _ _ t _ _ _ => t.all (Pier.nm p)
def AgreeOn (p : Nat→Bool) (ρ ρ' : Ren) : Prop := ∀ b,p b = true→ρ'.φ b = ρ.φ b∧ρ'.δ b = ρ.δ b∧ρ'.κ b = ρ.κ b
section
variable {p : Nat→Bool} {ρ' : Ren} (h : AgreeOn p ρ ρ')
include h
theorem ren0_on {v : Value} (hv : nm0 p v = true) : ren0 ρ' v = ren0 ρ v := by
 cases v with
 | pointer a => cases a with
   | none => rfl
   | some a => have := h a.block hv; simp [ren0,Ren.addr,this]
 | slice a n c => cases a with
   | none => rfl
   | some a => have := h a.block hv; simp [ren0,Ren.adr,Ren.addr,Ren.cap,this]
 | map r => cases r with
   | none => rfl
   | some r => have := h r hv; simp [ren0,this]
 | _ => rfl
theorem renA_on {v : Value} (hv : nmA p v = true) : renA ρ' v = renA ρ v := by
 cases v with
 | agg cs => simp only [renA]; rw [map_congr_all (fun v hv => ren0_on h hv) _ hv]
 | pointer a => exact ren0_on h (v := .pointer a) hv
 | slice a n c => exact ren0_on h (v := .slice a n c) hv
 | map r => exact ren0_on h (v := .map r) hv
 | _ => rfl
theorem ren1_on {v : Value} (hv : nm1 p v = true) : ren1 ρ' v = ren1 ρ v := by
 cases v with
 | func f a b =>
   simp only [nm1,Bool.and_eq_true] at hv
   have hf : renFn ρ' f = renFn ρ f := by
     cases f with
     | yield l => simp only [renFn_yield,(h l hv.1).1]
     | _ => rfl
   simp only [ren1,hf]
   rw [map_congr_all (fun v hv => renA_on h hv) _ hv.2.1,map_congr_all (fun v hv => ren0_on h hv) _ hv.2.2]
 | pointer a => exact ren0_on h (v := .pointer a) hv
 | slice a n c => exact ren0_on h (v := .slice a n c) hv
 | map r => exact ren0_on h (v := .map r) hv
 | _ => rfl
theorem ren2_on {v : Value} (hv : nm2 p v = true) : ren2 ρ' v = ren2 ρ v := by
 cases v with
 | agg cs => simp only [ren2]; rw [map_congr_all (fun v hv => ren1_on h hv) _ hv]
 | pointer a => exact ren1_on h (v := .pointer a) hv
 | slice a n c => exact ren1_on h (v := .slice a n c) hv
 | map r => exact ren1_on h (v := .map r) hv
 | func f a b => exact ren1_on h (v := .func f a b) hv
 | _ => rfl
theorem ren_on {v : Value} (hv : nm p v = true) : ren ρ' v = ren ρ v := by
 cases v with
 | tuple vs => simp only [ren]; rw [map_congr_all (fun v hv => ren2_on h hv) _ hv]
 | pointer a => exact ren2_on h (v := .pointer a) hv
 | slice a n c => exact ren2_on h (v := .slice a n c) hv
 | map r => exact ren2_on h (v := .map r) hv
 | func f a b => exact ren2_on h (v := .func f a b) hv
 | agg cs => exact ren2_on h (v := .agg cs) hv
 | _ => rfl
theorem ObjOk.moveOn {b : Nat} {w' : World} {o : AObj} (hb : p b = true) (hs : o.nm p = true)
   (hw : o = .gone∨w'.heap[ρ.φ b]? = w.heap[ρ.φ b]?) (hm : Below' ρ b w w' o) (hk : ObjOk ρ b w o) : ObjOk ρ' b w' o := by
 obtain ⟨e1,e2,e3⟩ := h b hb
 have hc : ∀ {cs : List Value} {i : Nat} {v : Value},cs.all (nm1 p) = true→cs[i]? = some v→ren1 ρ' v = ren1 ρ v := fun hcs hi =>
   ren1_on h (List.all_eq_true.1 hcs _ (List.mem_of_getElem? hi))
 cases o with
 | gone => trivial
 | mix cs =>
   obtain ⟨h1,h2,h3⟩ := hk
   exact ⟨by rw [e1,e3]; exact h1,by rw [e3]; exact Nat.le_trans h2 hm.1,fun i c hi => by
     rw [e1,e2,e3]
     exact (h3 i c hi).move (Nat.le_refl _) hm.2 h1 rfl⟩
 | ro cs =>
   have hw : w'.heap[ρ.φ b]? = w.heap[ρ.φ b]? := by simpa using hw
   refine ⟨?_,fun i v hi => ?_⟩
   · rw [e1]
     rw [Array.getElem?_eq_getElem hk.1] at hw
     exact (Array.getElem?_eq_some_iff.1 hw).1
   · rw [e1,e2,hc hs hi,← hk.2 i v hi]
     simp only [World.cell?,hw]
 | rw cs room =>
   have hw : w'.heap[ρ.φ b]? = w.heap[ρ.φ b]? := by simpa using hw
   obtain ⟨h0,cs',t,h1,h2,h3⟩ := hk
   refine ⟨fun e => e2.trans (h0 e),cs',t,by rw [e1,hw]; exact h1,fun i v hi => ?_,?_⟩
   · rw [hc hs hi,e2]; exact h2 i v hi
   · cases room
     · exact h3
     · simp only [e2,e3]; exact h3
 | map es clock =>
   have hw : w'.heap[ρ.φ b]? = w.heap[ρ.φ b]? := by simpa using hw
   show w'.heap[ρ'.φ b]? = _
   rw [e1,hw,show w.heap[ρ.φ b]? = _ from hk]
   congr 3
   apply List.map_congr_left
   intro e he
   simp only [renE]
   rw [ren2_on h (List.all_eq_true.1 hs e he)]
 | iter m since seen st =>
   have hw : w'.heap[ρ.φ b]? = w.heap[ρ.φ b]? := by simpa using hw
   refine ⟨e2.trans hk.1,?_⟩
   rw [e1,hw,(h m hs).1]
   exact hk.2
 | loop st pend t ps assign body =>
   have hw : w'.heap[ρ.φ b]? = w.heap[ρ.φ b]? := by simpa using hw
   obtain ⟨fn,df,tm,hk,ht⟩ := hk
   exact ⟨fn,df,tm,by rw [e1,hw,hk],ht.move fun k v hk => ren_on h (Array.all_eq_true'.1 hs v (Array.mem_of_getElem? hk))⟩
end
theorem Rel.sub {Hs E : Heap} (R : Rel ρ Hs w) (hsub : ∀ b,b < E.length→E[b]? = some .gone∨E[b]? = Hs[b]?) (hsc : ∀ (b : Nat) (o : AObj),E[b]? = some o→o.sc E.length = true) : Rel ρ E w := by
 have hin : ∀ (b : Nat) (o : AObj),E[b]? = some o→o = .gone∨Hs[b]? = some o := fun b o hb => by
   rcases hsub b (List.getElem?_eq_some_iff.1 hb).1 with h | h
   · rw [hb] at h; exact .inl (Option.some.inj h)
   · rw [← h]; exact .inr hb
 have hw : ∀ b,wr E b = true→wr Hs b = true := fun b hb => by
   have hl := wr_lt hb
   have hg := List.getElem?_eq_getElem hl
   rw [wr_of_get hg] at hb
   rcases hin b _ hg with h | h
   · rw [h] at hb; cases hb
   · rw [wr_of_get h]; exact hb
 have hr : ∀ b,isRo E b = true→isRo Hs b = true := fun b hb => by
   have hl := isRo_lt hb
   have hg := List.getElem?_eq_getElem hl
   rw [isRo_of_get hg] at hb
   rcases hin b _ hg with h | h
   · rw [h] at hb; cases hb
   · rw [isRo_of_get h]; exact hb
 have hmx : ∀ b,isMix E b = true→isMix Hs b = true := fun b hb => by
   obtain ⟨cs,hc⟩ := getMix hb
   rcases hin b _ hc with h | h
   · cases h
   · rw [isMix_of_get h]; rfl
 refine ⟨fun b o hb => ?_,fun b b' hb hb' => R.inj b b' (hw b hb) (hw b' hb'),fun b b' hb hb' => R.sep b b' (hr b hb) (hw b' hb'),fun b b' hb hb' => R.deep b b' (hmx b hb) (hw b' hb'),hsc⟩
 rcases hin b o hb with h | h
 · subst h; trivial
 · exact R.obj b o h
theorem wr_congr {H H' : Heap} {b : Nat} (h : H[b]? = H'[b]?) : wr H b = wr H' b := by simp only [wr,h]
theorem isMix_congr {H H' : Heap} {b : Nat} (h : H[b]? = H'[b]?) : isMix H b = isMix H' b := by simp only [isMix,h]
theorem isRo_congr {H H' : Heap} {b : Nat} (h : H[b]? = H'[b]?) : isRo H b = isRo H' b := by simp only [isRo,h]
theorem Rel.loc {E F Hs Hs1 : Heap} (R : Rel ρ Hs w) (hFl : F.length≤Hs.length) (hlen : Hs1.length = Hs.length)
   (hsub : ∀ b,b < E.length→E[b]? = some .gone∨E[b]? = Hs[b]?)
   (hcase : ∀ b,(b < F.length∧Hs1[b]? = F[b]?∧(b < E.length→E[b]? ≠ some .gone))∨(Hs1[b]? = Hs[b]?∧(b < E.length→E[b]? = some .gone)∧(b < E.length∨F.length≤b)))
   (R1 : Rel ρ1 F w1) (X : Ext ρ E w ρ1 F w1) (hnames : ∀ (b : Nat) (o : AObj),Hs[b]? = some o→o.nm (fun c => decide (c < E.length) || decide (F.length≤c)) = true) :
   Rel ρ1 Hs1 w1∧∀ (ρ0 : Ren) (H0 : Heap) (w0 : World),H0.length≤E.length→Ext ρ0 H0 w0 ρ Hs w→Ext ρ0 H0 w0 ρ1 Hs1 w1 := by
 have hag : AgreeOn (fun c => decide (c < E.length) || decide (F.length≤c)) ρ ρ1 := fun b hb => X.agree b (by simpa using hb)
 have hφ : ∀ b,b < E.length∨F.length≤b→ρ1.φ b = ρ.φ b := fun b hb => (X.agree b hb).1
 have wrE : ∀ b,wr E b = true→wr Hs b = true∧b < E.length∧E[b]? = Hs[b]? := fun b hb => by
   have hl := wr_lt hb
   rcases hsub b hl with h | h
   · rw [wr_of_get h] at hb; cases hb
   · exact ⟨by rw [← wr_congr h]; exact hb,hl,h⟩
 have roE : ∀ b,isRo E b = true→isRo Hs b = true∧b < E.length := fun b hb => by
   have hl := isRo_lt hb
   rcases hsub b hl with h | h
   · rw [isRo_of_get h] at hb; cases hb
   · exact ⟨by rw [← isRo_congr h]; exact hb,hl⟩
 have wrF : ∀ b,wr F b = true→(wr Hs b = true∧wr E b = true∧b < E.length)∨(E.length≤b∧b < F.length∧(w.heap.size≤ρ1.φ b∨∃ b0,wr E b0 = true∧ρ1.φ b = ρ.φ b0)) := fun b hb => by
   rcases X.wr b hb with h | ⟨h1,h2⟩
   · exact .inl ⟨(wrE b h).1,h,(wrE b h).2.1⟩
   · exact .inr ⟨h1,wr_lt hb,h2⟩
 have mixE : ∀ b,isMix E b = true→isMix Hs b = true∧b < E.length := fun b hb => by
   have hl := isMix_lt hb
   rcases hsub b hl with h | h
   · rw [isMix_of_get h] at hb; cases hb
   · exact ⟨by rw [← isMix_congr h]; exact hb,hl⟩
 have roF : ∀ b,isRo F b = true→(isRo Hs b = true∧b < E.length∧isRo E b = true)∨(E.length≤b∧∃ b0,isMix Hs b0 = true∧ρ1.φ b < ρ.κ b0) := fun b hb => by
   rcases X.ro b hb with h | ⟨h1,b0,h2,h3⟩
   · exact .inl ⟨(roE b h).1,(roE b h).2,h⟩
   · exact .inr ⟨h1,b0,(mixE b0 h2).1,h3⟩
 have mixF : ∀ b,isMix F b = true→isMix Hs b = true∧b < E.length := fun b hb => mixE b (X.mix b hb)
 have hidden : ∀ b,(wr Hs b = true∨isRo Hs b = true)→(b < E.length→E[b]? = some .gone)→∀ c,wr E c = true→ρ.φ c ≠ ρ.φ b := fun b hb hg c hc => by
   obtain ⟨h1,h2,h3⟩ := wrE c hc
   rcases hb with hb | hb
   · intro he
     have := R.inj c b h1 hb he
     subst this
     rw [wr_of_get (hg h2)] at hc; cases hc
   · exact fun he => R.sep b c hb h1 he.symm
 refine ⟨⟨fun b o hb => ?_,fun b b' hb hb' he => ?_,fun b b' hb hb' => ?_,fun b b' hb hb' => ?_,fun b o hb => ?_⟩,fun ρ0 H0 w0 h0 X0 => ⟨?_,fun b hb => ?_,?_,fun k hk hn => ?_,fun b hb => ?_,fun b hb => ?_,fun b hb => ?_,?_,?_,?_⟩⟩
 · rcases hcase b with ⟨hl,h,_⟩ | ⟨h,hg,hr⟩
   · rw [h] at hb; exact R1.obj b o hb
   · rw [h] at hb
     have hkeep : ∀ cs,o = .mix cs→∀ k,k < ρ.κ b→w1.heap[k]? = w.heap[k]? := fun cs e k hk => by
       subst e
       have hm : isMix Hs b = true := by rw [isMix_of_get hb]; rfl
       exact X.keep k (Nat.lt_of_lt_of_le hk (R.mix_lt hm).2) fun c hc he => by
         have := R.deep b c hm (wrE c hc).1
         omega
     refine (R.obj b o hb).moveOn hag (by simpa using hr) (hnames b o hb) ?_ (Below'.of X.size hkeep)
     by_cases hmx : ∃ cs,o = .mix cs
     · obtain ⟨cs,e⟩ := hmx
       exact .inr (hkeep cs e _ (by subst e; exact (R.obj b _ hb).1))
     by_cases ho : o = .gone
     · exact .inl ho
     · refine .inr (X.keep _ ?_ ?_)
       · cases o with
         | gone => exact absurd rfl ho
         | mix cs => exact absurd ⟨cs,rfl⟩ hmx
         | ro cs => exact (R.obj b _ hb).1
         | rw cs r => exact R.phys_lt (by rw [wr_of_get hb]; rfl)
         | map es k => exact R.phys_lt (by rw [wr_of_get hb]; rfl)
         | iter m a b' c => exact R.phys_lt (by rw [wr_of_get hb]; rfl)
         | loop _ _ _ _ _ _ => exact R.phys_lt (by rw [wr_of_get hb]; rfl)
       · refine hidden b ?_ hg
         cases o with
         | gone => exact absurd rfl ho
         | mix cs => exact absurd ⟨cs,rfl⟩ hmx
         | ro cs => exact .inr (by rw [isRo_of_get hb]; rfl)
         | rw cs r => exact .inl (by rw [wr_of_get hb]; rfl)
         | map es k => exact .inl (by rw [wr_of_get hb]; rfl)
         | iter m a b' c => exact .inl (by rw [wr_of_get hb]; rfl)
         | loop _ _ _ _ _ _ => exact .inl (by rw [wr_of_get hb]; rfl)
 · have mixed : ∀ b b', wr F b = true → (b < E.length → E[b]? ≠ some .gone) → wr Hs b' = true → (b' < E.length → E[b']? = some .gone) → (b' < E.length ∨ F.length ≤ b') → ρ1.φ b ≠ ρ1.φ b' := by
     intro b b' hb hp hb' hg hr he
     rw [hφ b' hr] at he
     rcases wrF b hb with ⟨h1,h2,h3⟩ | ⟨h1,h2,h3 | ⟨b0,h3,h4⟩⟩
     · rw [hφ b (.inl h3)] at he
       exact hidden b' (.inl hb') hg b h2 he
     · have := R.phys_lt hb'; omega
     · rw [h4] at he
       exact hidden b' (.inl hb') hg b0 h3 he
   rcases hcase b with ⟨hl,h,hp⟩ | ⟨h,hg,hr⟩ <;> rcases hcase b' with ⟨hl',h',hp'⟩ | ⟨h',hg',hr'⟩
   · exact R1.inj b b' (by rw [← wr_congr h]; exact hb) (by rw [← wr_congr h']; exact hb') he
   · exact absurd he (mixed b b' (by rw [← wr_congr h]; exact hb) hp (by rw [← wr_congr h']; exact hb') hg' hr')
   · exact absurd he.symm (mixed b' b (by rw [← wr_congr h']; exact hb') hp' (by rw [← wr_congr h]; exact hb) hg hr)
   · rw [hφ b hr,hφ b' hr'] at he
     exact R.inj b b' (by rw [← wr_congr h]; exact hb) (by rw [← wr_congr h']; exact hb') he
 · rcases hcase b with ⟨hl,h,hp⟩ | ⟨h,hg,hr⟩ <;> rcases hcase b' with ⟨hl',h',hp'⟩ | ⟨h',hg',hr'⟩
   · exact R1.sep b b' (by rw [← isRo_congr h]; exact hb) (by rw [← wr_congr h']; exact hb')
   · have hb := (isRo_congr h).symm.trans hb
     rcases roF b hb with ⟨k1,k2,k3⟩ | ⟨k1,b0,k2,k3⟩
     · rw [hφ b (.inl k2),hφ b' hr']
       exact R.sep b b' k1 (by rw [← wr_congr h']; exact hb')
     · rw [hφ b' hr']
       have := R.deep b0 b' k2 (by rw [← wr_congr h']; exact hb')
       omega
   · have hb := (isRo_congr h).symm.trans hb
     have hb' := (wr_congr h').symm.trans hb'
     rw [hφ b hr]
     rcases wrF b' hb' with ⟨k1,k2,k3⟩ | ⟨k1,k2,k3 | ⟨b0,k3,k4⟩⟩
     · rw [hφ b' (.inl k3)]; exact R.sep b b' hb k1
     · have := R.ro_lt hb; omega
     · rw [k4]; exact fun he => hidden b (.inr hb) hg b0 k3 he.symm
   · rw [hφ b hr,hφ b' hr']
     exact R.sep b b' (by rw [← isRo_congr h]; exact hb) (by rw [← wr_congr h']; exact hb')
 · have hκ : ∀ c,c < E.length∨F.length≤c→ρ1.κ c = ρ.κ c := fun c hc => (X.agree c hc).2.2
   rcases hcase b with ⟨hl,h,hp⟩ | ⟨h,hg,hr⟩ <;> rcases hcase b' with ⟨hl',h',hp'⟩ | ⟨h',hg',hr'⟩
   · exact R1.deep b b' (by rw [← isMix_congr h]; exact hb) (by rw [← wr_congr h']; exact hb')
   · obtain ⟨k1,k2⟩ := mixF b ((isMix_congr h).symm.trans hb)
     rw [hκ b (.inl k2),hφ b' hr']
     exact R.deep b b' k1 (by rw [← wr_congr h']; exact hb')
   · have hb := (isMix_congr h).symm.trans hb
     have hb' := (wr_congr h').symm.trans hb'
     rw [hκ b hr]
     rcases wrF b' hb' with ⟨k1,k2,k3⟩ | ⟨k1,k2,k3 | ⟨b0,k3,k4⟩⟩
     · rw [hφ b' (.inl k3)]; exact R.deep b b' hb k1
     · exact Nat.le_trans (R.mix_lt hb).2 k3
     · rw [k4]; exact R.deep b b0 hb (wrE b0 k3).1
   · rw [hκ b hr,hφ b' hr']
     exact R.deep b b' (by rw [← isMix_congr h]; exact hb) (by rw [← wr_congr h']; exact hb')
 · rcases hcase b with ⟨hl,h,_⟩ | ⟨h,_,_⟩
   · rw [h] at hb; exact AObj.sc_mono (by omega) (R1.scp b o hb)
   · rw [h] at hb; rw [hlen]; exact R.scp b o hb
 · rw [hlen]; exact X0.len
 · have h1 := X0.agree b (by rw [hlen] at hb; exact hb)
   have h2 := X.agree b (by rw [hlen] at hb; omega)
   exact ⟨h2.1.trans h1.1,h2.2.1.trans h1.2.1,h2.2.2.trans h1.2.2⟩
 · exact Nat.le_trans X0.size X.size
 · rw [X.keep k (Nat.lt_of_lt_of_le hk X0.size) ?_,X0.keep k hk hn]
   intro c hc he
   obtain ⟨h1,h2,h3⟩ := wrE c hc
   rcases X0.wr c h1 with k1 | ⟨_,k1 | ⟨b0,k1,k2⟩⟩
   · exact hn c k1 (by rw [← (X0.agree c (.inl (wr_lt k1))).1]; exact he)
   · omega
   · exact hn b0 k1 (by omega)
 · have push : ∀ c,wr Hs c = true→wr H0 c = true∨(H0.length≤c∧(w0.heap.size≤ρ.φ c∨∃ b0,wr H0 b0 = true∧ρ.φ c = ρ0.φ b0)) := fun c hc => X0.wr c hc
   rcases hcase b with ⟨hl,h,hp⟩ | ⟨h,hg,hr⟩
   · have hb := (wr_congr h).symm.trans hb
     rcases wrF b hb with ⟨k1,k2,k3⟩ | ⟨k1,k2,k3 | ⟨b0,k3,k4⟩⟩
     · rw [hφ b (.inl k3)]; exact push b k1
     · exact .inr ⟨by omega,.inl (Nat.le_trans X0.size k3)⟩
     · refine .inr ⟨by omega,?_⟩
       rcases push b0 (wrE b0 k3).1 with j | ⟨_,j | ⟨b1,j1,j2⟩⟩
       · exact .inr ⟨b0,j,by rw [k4,(X0.agree b0 (.inl (wr_lt j))).1]⟩
       · exact .inl (by rw [k4]; exact j)
       · exact .inr ⟨b1,j1,k4.trans j2⟩
   · rw [hφ b hr]; exact push b ((wr_congr h).symm.trans hb)
 · rcases hcase b with ⟨hl,h,hp⟩ | ⟨h,hg,hr⟩
   · rcases roF b ((isRo_congr h).symm.trans hb) with ⟨k1,k2,_⟩ | ⟨k1,b0,k2,k3⟩
     · rw [hφ b (.inl k2)]; exact X0.ro b k1
     · have k4 := X0.mix b0 k2
       exact .inr ⟨by omega,b0,k4,by rw [← (X0.agree b0 (.inl (isMix_lt k4))).2.2]; exact k3⟩
   · rw [hφ b hr]; exact X0.ro b ((isRo_congr h).symm.trans hb)
 · rcases hcase b with ⟨hl,h,hp⟩ | ⟨h,hg,hr⟩
   · exact X0.mix b (mixF b ((isMix_congr h).symm.trans hb)).1
   · exact X0.mix b ((isMix_congr h).symm.trans hb)
 · exact X.os.trans X0.os
 · exact X.tape.trans X0.tape
 · exact X.output.trans X0.output
end Go.Pier
