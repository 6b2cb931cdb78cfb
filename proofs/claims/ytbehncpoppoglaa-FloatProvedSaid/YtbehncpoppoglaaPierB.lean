import Derived.Test.YtbehncpoppoglaaPierA
set_option linter.unusedSimpArgs false
set_option linter.unusedVariables false
namespace Go.Pier
open Go
def Ren.ext (ρ : Ren) (n p k : Nat) : Ren where
 φ i := if i = n then p else ρ.φ i
 δ i := if i = n then 0 else ρ.δ i
 κ i := if i = n then k else ρ.κ i
theorem Ren.ext_agree (ρ : Ren) (n p k : Nat) : Agree n ρ (ρ.ext n p k) := fun b hb => by
 have : b ≠ n := by omega
 simp [Ren.ext,this]
def Ren.bind (ρ : Ren) (n p o : Nat) (k : Nat := 0) : Ren where
 φ i := if i = n then p else ρ.φ i
 δ i := if i = n then o else ρ.δ i
 κ i := if i = n then k else ρ.κ i
theorem Ren.bind_agree (ρ : Ren) (n p o k : Nat) : Agree n ρ (ρ.bind n p o k) := fun b hb => by
 have : b ≠ n := by omega
 simp [Ren.bind,this]
theorem Ren.bind_addr (ρ : Ren) (n p o k j : Nat) : (ρ.bind n p o k).addr ⟨n,j,none⟩ = ⟨p,o + j,none⟩ := by simp [Ren.addr,Ren.bind]
theorem wr_append_lt {H : Heap} {o : AObj} {b : Nat} (h : b < H.length) : wr (H ++ [o]) b = wr H b := by
 simp [wr,List.getElem?_append_left h]
theorem isRo_append_lt {H : Heap} {o : AObj} {b : Nat} (h : b < H.length) : isRo (H ++ [o]) b = isRo H b := by
 simp [isRo,List.getElem?_append_left h]
theorem get_append_new (H : Heap) (o : AObj) : (H ++ [o])[H.length]? = some o := by simp
theorem wr_set_ne {H : Heap} {o : AObj} {b c : Nat} (h : c ≠ b) : wr (H.set b o) c = wr H c := by
 simp [wr,List.getElem?_set_ne (Ne.symm h)]
theorem isRo_set_ne {H : Heap} {o : AObj} {b c : Nat} (h : c ≠ b) : isRo (H.set b o) c = isRo H c := by
 simp [isRo,List.getElem?_set_ne (Ne.symm h)]
theorem get_set_self {H : Heap} {o : AObj} {b : Nat} (h : b < H.length) : (H.set b o)[b]? = some o := by
 simp [h]
def AObj.wr : AObj→Bool | .rw .. | .map .. | .iter .. | .loop .. => true | _ => false
def AObj.isRo : AObj→Bool | .ro .. => true | _ => false
def AObj.isMix : AObj→Bool | .mix .. => true | _ => false
theorem isMix_of_get {H : Heap} {b : Nat} {o : AObj} (h : H[b]? = some o) : isMix H b = o.isMix := by
 unfold Pier.isMix; rw [h]; cases o <;> rfl
theorem isMix_set_ne {H : Heap} {o : AObj} {b c : Nat} (h : c ≠ b) : isMix (H.set b o) c = isMix H c := by
 simp [isMix,List.getElem?_set_ne (Ne.symm h)]
theorem isMix_append_lt {H X : Heap} {b : Nat} (h : b < H.length) : isMix (H ++ X) b = isMix H b := by
 simp [isMix,List.getElem?_append_left h]
theorem getMix {H : Heap} {b : Nat} (h : isMix H b = true) : ∃ cs,H[b]? = some (.mix cs) := by
 unfold isMix at h
 split at h
 · exact ⟨_,‹_›⟩
 · cases h
theorem not_both {o : AObj} (h : o.wr = true) (k : o.isRo = true) : False := by cases o <;> simp [AObj.wr,AObj.isRo] at *
theorem wr_of_get {H : Heap} {b : Nat} {o : AObj} (h : H[b]? = some o) : wr H b = o.wr := by
 unfold Pier.wr; rw [h]; cases o <;> rfl
theorem isRo_of_get {H : Heap} {b : Nat} {o : AObj} (h : H[b]? = some o) : isRo H b = o.isRo := by
 unfold Pier.isRo; rw [h]; cases o <;> rfl
theorem Rel.phys_lt {ρ : Ren} {H : Heap} {w : World} (R : Rel ρ H w) {b : Nat} (h : wr H b = true) : ρ.φ b < w.heap.size := by
 have hb := wr_lt h
 have ho := R.obj b _ (List.getElem?_eq_getElem hb)
 have h1 := wr_of_get (List.getElem?_eq_getElem hb)
 rw [h] at h1
 cases hx : H[b] with
 | gone => rw [hx] at h1; cases h1
 | mix cs => rw [hx] at h1; cases h1
 | ro cs => rw [hx] at h1; cases h1
 | rw cs r =>
   rw [hx] at ho
   obtain ⟨_,cs',t,h2,_⟩ := ho
   exact (Array.getElem?_eq_some_iff.1 h2).1
 | map es c =>
   rw [hx] at ho
   exact (Array.getElem?_eq_some_iff.1 ho).1
 | iter m a b c =>
   rw [hx] at ho
   exact (Array.getElem?_eq_some_iff.1 ho.2).1
 | loop a b t c d e =>
   rw [hx] at ho
   obtain ⟨_,_,_,h2,_⟩ := ho
   exact (Array.getElem?_eq_some_iff.1 h2).1
theorem Rel.ro_lt {ρ : Ren} {H : Heap} {w : World} (R : Rel ρ H w) {b : Nat} (h : isRo H b = true) : ρ.φ b < w.heap.size := by
 have hb := isRo_lt h
 have ho := R.obj b _ (List.getElem?_eq_getElem hb)
 have h1 := isRo_of_get (List.getElem?_eq_getElem hb)
 rw [h] at h1
 cases hx : H[b] with
 | ro cs => rw [hx] at ho; exact ho.1
 | _ => rw [hx] at h1; cases h1
theorem Rel.mix_lt {ρ : Ren} {H : Heap} {w : World} (R : Rel ρ H w) {b : Nat} (h : isMix H b = true) : ρ.φ b < ρ.κ b∧ρ.κ b≤w.heap.size := by
 obtain ⟨cs,hc⟩ := getMix h
 exact ⟨(R.obj b _ hc).1,(R.obj b _ hc).2.1⟩
theorem Rel.push {ρ : Ren} {H : Heap} {w w' : World} (R : Rel ρ H w) (o : AObj) (k : Nat) (how : o.wr = true)
   (hs : o.sc (H.length + 1) = true) (hsize : w'.heap.size = w.heap.size + 1) (hold : ∀ i,i < w.heap.size→w'.heap[i]? = w.heap[i]?)
   (hnew : ObjOk (ρ.ext H.length w.heap.size k) H.length w' o) (h1 : w'.os = w.os) (h2 : w'.tape = w.tape) (h3 : w'.output = w.output) :
   Rel (ρ.ext H.length w.heap.size k) (H ++ [o]) w'∧Ext ρ H w (ρ.ext H.length w.heap.size k) (H ++ [o]) w' := by
 have hag := Ren.ext_agree ρ H.length w.heap.size k
 have hφn : (ρ.ext H.length w.heap.size k).φ H.length = w.heap.size := by simp [Ren.ext]
 have hφ : ∀ b,b < H.length→(ρ.ext H.length w.heap.size k).φ b = ρ.φ b := fun b hb => (hag b hb).1
 have hcase : ∀ b,wr (H ++ [o]) b = true→(b < H.length∧wr H b = true)∨b = H.length := fun b hb => by
   have := wr_lt hb
   simp at this
   rcases Nat.lt_or_ge b H.length with h | h
   · exact .inl ⟨h,by rwa [wr_append_lt h] at hb⟩
   · exact .inr (by omega)
 have hmx : ∀ b,isMix (H ++ [o]) b = true→b < H.length∧isMix H b = true := fun b hb => by
   have := isMix_lt hb
   simp at this
   rcases Nat.lt_or_ge b H.length with h | h
   · exact ⟨h,by rwa [isMix_append_lt h] at hb⟩
   · have : b = H.length := by omega
     subst this
     rw [isMix_of_get (get_append_new H o)] at hb
     cases o <;> first | (cases hb; done) | (cases how; done)
 refine ⟨⟨fun b o' hb => ?_,fun b b' hb hb' he => ?_,fun b b' hb hb' => ?_,fun b b' hb hb' => ?_,fun b o' hb => ?_⟩,⟨by simp,fun b hb => ?_,by omega,fun i hi _ => hold i hi,fun b hb => ?_,fun b hb => .inl ?_,fun b hb => (hmx b hb).2,h1,h2,h3⟩⟩
 · have hlt := (List.getElem?_eq_some_iff.1 hb).1
   simp at hlt
   rcases Nat.lt_or_ge b H.length with h | h
   · rw [List.getElem?_append_left h] at hb
     refine (R.obj b o' hb).move hag h (R.scp b o' hb) ?_ (Below'.of (by omega) fun cs e k hk => hold k (by subst e; have := (R.obj b _ hb).2.1; omega))
     by_cases hx : o' = .gone
     · exact .inl hx
     · refine .inr (hold _ ?_)
       cases o' with
       | gone => exact absurd rfl hx
       | mix cs => have := R.obj b _ hb; exact Nat.lt_of_lt_of_le this.1 this.2.1
       | ro cs => exact (R.obj b _ hb).1
       | rw cs r => exact R.phys_lt (by rw [wr_of_get hb]; rfl)
       | map es c => exact R.phys_lt (by rw [wr_of_get hb]; rfl)
       | iter m a b c => exact R.phys_lt (by rw [wr_of_get hb]; rfl)
       | loop a b t c d e => exact R.phys_lt (by rw [wr_of_get hb]; rfl)
   · have : b = H.length := by omega
     subst this
     rw [get_append_new] at hb
     cases hb
     exact hnew
 · rcases hcase b hb with ⟨h,hw⟩ | h <;> rcases hcase b' hb' with ⟨h',hw'⟩ | h'
   · rw [hφ b h,hφ b' h'] at he; exact R.inj b b' hw hw' he
   · subst h'; rw [hφ b h,hφn] at he; have := R.phys_lt hw; omega
   · subst h; rw [hφ b' h',hφn] at he; have := R.phys_lt hw'; omega
   · omega
 · have hlt := isRo_lt hb
   simp at hlt
   rcases Nat.lt_or_ge b H.length with h | h
   · rw [isRo_append_lt h] at hb
     rcases hcase b' hb' with ⟨h',hw'⟩ | h'
     · rw [hφ b h,hφ b' h']; exact R.sep b b' hb hw'
     · subst h'
       rw [hφ b h,hφn]
       have := R.ro_lt hb
       omega
   · have : b = H.length := by omega
     subst this
     rw [isRo_of_get (get_append_new H o)] at hb
     exact (not_both how hb).elim
 · obtain ⟨h,hm⟩ := hmx b hb
   rw [(hag b h).2.2]
   rcases hcase b' hb' with ⟨h',hw'⟩ | h'
   · rw [hφ b' h']; exact R.deep b b' hm hw'
   · subst h'; rw [hφn]; exact (R.mix_lt hm).2
 · have hlt := (List.getElem?_eq_some_iff.1 hb).1
   simp at hlt
   rcases Nat.lt_or_ge b H.length with h | h
   · rw [List.getElem?_append_left h] at hb
     exact AObj.sc_mono (by simp) (R.scp b o' hb)
   · have : b = H.length := by omega
     subst this
     rw [get_append_new] at hb
     cases hb
     simpa using hs
 · have : b ≠ H.length := by simp at hb; omega
   simp [Ren.ext,this]
 · rcases hcase b hb with ⟨h,hw⟩ | h
   · exact .inl hw
   · subst h; exact .inr ⟨Nat.le_refl _,.inl (by rw [hφn]; exact Nat.le_refl _)⟩
 · have hlt := isRo_lt hb
   simp at hlt
   rcases Nat.lt_or_ge b H.length with h | h
   · rwa [isRo_append_lt h] at hb
   · have : b = H.length := by omega
     subst this
     rw [isRo_of_get (get_append_new H o)] at hb
     exact (not_both how hb).elim
theorem Rel.upd {ρ : Ren} {H : Heap} {w w' : World} (R : Rel ρ H w) {b : Nat} (hb : wr H b = true) (o : AObj) (how : o.wr = true)
   (hs : o.sc H.length = true) (hsize : w'.heap.size = w.heap.size) (hold : ∀ i,i ≠ ρ.φ b→w'.heap[i]? = w.heap[i]?)
   (hnew : ObjOk ρ b w' o) (h1 : w'.os = w.os) (h2 : w'.tape = w.tape) (h3 : w'.output = w.output) :
   Rel ρ (H.set b o) w'∧Ext ρ H w ρ (H.set b o) w' := by
 have hlt := wr_lt hb
 have hget : (H.set b o)[b]? = some o := get_set_self hlt
 have hw : ∀ c,wr (H.set b o) c = wr H c := fun c => by
   by_cases hc : c = b
   · subst hc; rw [wr_of_get hget,how,hb]
   · exact wr_set_ne hc
 have hr : ∀ c,isRo (H.set b o) c = isRo H c := fun c => by
   by_cases hc : c = b
   · subst hc
     rw [isRo_of_get hget]
     have e := wr_of_get (List.getElem?_eq_getElem hlt)
     rw [hb] at e
     rw [isRo_of_get (List.getElem?_eq_getElem hlt)]
     cases hx : o.isRo with
     | true => exact (not_both how hx).elim
     | false =>
       cases hy : H[c].isRo with
       | true => exact (not_both e.symm hy).elim
       | false => rfl
   · exact isRo_set_ne hc
 have hmx : ∀ c,isMix (H.set b o) c = true→isMix H c = true := fun c hc => by
   by_cases hcb : c = b
   · subst hcb
     rw [isMix_of_get hget] at hc
     cases o <;> first | (cases hc; done) | (cases how; done)
   · rwa [isMix_set_ne hcb] at hc
 refine ⟨⟨fun c o' hc => ?_,fun c c' hc hc' he => R.inj c c' (by rwa [hw] at hc) (by rwa [hw] at hc') he,fun c c' hc hc' => R.sep c c' (by rwa [hr] at hc) (by rwa [hw] at hc'),fun c c' hc hc' => R.deep c c' (hmx c hc) (by rwa [hw] at hc'),fun c o' hc => ?_⟩,
   ⟨by simp,fun _ _ => ⟨rfl,rfl,rfl⟩,by omega,fun i _ hn => hold i (fun e => hn b hb e.symm),fun c hc => .inl (by rwa [hw] at hc),fun c hc => .inl (by rwa [hr] at hc),hmx,h1,h2,h3⟩⟩
 · by_cases hcb : c = b
   · subst hcb; rw [hget] at hc; cases hc; exact hnew
   · rw [List.getElem?_set_ne (Ne.symm hcb)] at hc
     refine (R.obj c o' hc).move (Agree.refl H.length ρ) (List.getElem?_eq_some_iff.1 hc).1 (R.scp c o' hc) ?_ (Below'.of (by omega) fun cs e k hk => hold k (by subst e; have := R.deep c b (by rw [isMix_of_get hc]; rfl) hb; omega))
     cases o' with
     | gone => exact .inl rfl
     | mix cs => exact .inr (hold _ (by have := R.deep c b (by rw [isMix_of_get hc]; rfl) hb; have := (R.obj c _ hc).1; omega))
     | ro cs => exact .inr (hold _ (R.sep c b (by rw [isRo_of_get hc]; rfl) hb))
     | rw cs r => exact .inr (hold _ (fun e => hcb (R.inj c b (by rw [wr_of_get hc]; rfl) hb e)))
     | map es k => exact .inr (hold _ (fun e => hcb (R.inj c b (by rw [wr_of_get hc]; rfl) hb e)))
     | iter m a b c => exact .inr (hold _ (fun e => hcb (R.inj _ _ (by rw [wr_of_get hc]; rfl) hb e)))
     | loop _ _ _ _ _ _ => exact .inr (hold _ (fun e => hcb (R.inj _ _ (by rw [wr_of_get hc]; rfl) hb e)))
 · by_cases hcb : c = b
   · subst hcb; rw [hget] at hc; cases hc; simpa using hs
   · rw [List.getElem?_set_ne (Ne.symm hcb)] at hc
     simpa using R.scp c o' hc
theorem Rel.forget {ρ : Ren} {H : Heap} {w : World} (R : Rel ρ H w) (b : Nat) : Rel ρ (H.set b .gone) w := by
 have hsub : ∀ (c : Nat) (o : AObj),(H.set b .gone)[c]? = some o→o = .gone∨H[c]? = some o := fun c o hc => by
   by_cases hcb : c = b
   · subst hcb
     have hl := (List.getElem?_eq_some_iff.1 hc).1
     simp at hl
     rw [get_set_self hl] at hc
     cases hc; exact .inl rfl
   · rw [List.getElem?_set_ne (Ne.symm hcb)] at hc; exact .inr hc
 have hw : ∀ c,wr (H.set b .gone) c = true→wr H c = true := fun c hc => by
   have hl := wr_lt hc
   rcases hsub c _ (List.getElem?_eq_getElem hl) with h | h
   · rw [wr_of_get (List.getElem?_eq_getElem hl),h] at hc; cases hc
   · rw [wr_of_get (List.getElem?_eq_getElem hl)] at hc; rw [wr_of_get h]; exact hc
 have hr : ∀ c,isRo (H.set b .gone) c = true→isRo H c = true := fun c hc => by
   have hl := isRo_lt hc
   rcases hsub c _ (List.getElem?_eq_getElem hl) with h | h
   · rw [isRo_of_get (List.getElem?_eq_getElem hl),h] at hc; cases hc
   · rw [isRo_of_get (List.getElem?_eq_getElem hl)] at hc; rw [isRo_of_get h]; exact hc
 have hmx : ∀ c,isMix (H.set b .gone) c = true→isMix H c = true := fun c hc => by
   obtain ⟨cs,h⟩ := getMix hc
   rcases hsub c _ h with h1 | h1
   · cases h1
   · rw [isMix_of_get h1]; rfl
 refine ⟨fun c o hc => ?_,fun c c' hc hc' => R.inj c c' (hw c hc) (hw c' hc'),fun c c' hc hc' => R.sep c c' (hr c hc) (hw c' hc'),fun c c' hc hc' => R.deep c c' (hmx c hc) (hw c' hc'),fun c o hc => ?_⟩
 · rcases hsub c o hc with h | h
   · subst h; trivial
   · exact R.obj c o h
 · rcases hsub c o hc with h | h
   · subst h; rfl
   · simpa using R.scp c o h
theorem wr_forget {H : Heap} {b c : Nat} (h : wr (H.set b .gone) c = true) : wr H c = true∧c ≠ b := by
 by_cases hcb : c = b
 · subst hcb
   have hl := wr_lt h
   simp at hl
   rw [wr_of_get (get_set_self hl)] at h
   cases h
 · exact ⟨by rwa [wr_set_ne hcb] at h,hcb⟩
theorem isRo_forget {H : Heap} {b c : Nat} (h : isRo (H.set b .gone) c = true) : isRo H c = true := by
 by_cases hcb : c = b
 · subst hcb
   have hl := isRo_lt h
   simp at hl
   rw [isRo_of_get (get_set_self hl)] at h
   cases h
 · rwa [isRo_set_ne hcb] at h
theorem isMix_forget {H : Heap} {b c : Nat} (h : isMix (H.set b .gone) c = true) : isMix H c = true := by
 by_cases hcb : c = b
 · subst hcb
   have hl := isMix_lt h
   simp at hl
   rw [isMix_of_get (get_set_self hl)] at h
   cases h
 · rwa [isMix_set_ne hcb] at h
theorem Rel.moved {ρ : Ren} {H : Heap} {w w' : World} (R : Rel ρ H w) {b : Nat} (hb : wr H b = true) (o : AObj) (k d : Nat) (how : o.wr = true)
   (hs : o.sc (H.length + 1) = true) (hsize : w'.heap.size = w.heap.size) (hold : ∀ i,i ≠ ρ.φ b→w'.heap[i]? = w.heap[i]?)
   (hnew : ObjOk (ρ.bind H.length (ρ.φ b) d k) H.length w' o) (h1 : w'.os = w.os) (h2 : w'.tape = w.tape) (h3 : w'.output = w.output) :
   Rel (ρ.bind H.length (ρ.φ b) d k) (H.set b .gone ++ [o]) w'∧Ext ρ H w (ρ.bind H.length (ρ.φ b) d k) (H.set b .gone ++ [o]) w' := by
 have R' := R.forget b
 have hL : (H.set b .gone).length = H.length := by simp
 have hag := Ren.bind_agree ρ H.length (ρ.φ b) d k
 have hφn : (ρ.bind H.length (ρ.φ b) d k).φ H.length = ρ.φ b := by simp [Ren.bind]
 have hφ : ∀ c,c < H.length→(ρ.bind H.length (ρ.φ b) d k).φ c = ρ.φ c := fun c hc => (hag c hc).1
 have hcase : ∀ c,wr (H.set b .gone ++ [o]) c = true→(c < H.length∧wr H c = true∧c ≠ b)∨c = H.length := fun c hc => by
   have := wr_lt hc
   simp at this
   rcases Nat.lt_or_ge c H.length with h | h
   · rw [wr_append_lt (by omega)] at hc
     exact .inl ⟨h,wr_forget hc⟩
   · exact .inr (by omega)
 have hcaser : ∀ c,isRo (H.set b .gone ++ [o]) c = true→c < H.length∧isRo H c = true := fun c hc => by
   have := isRo_lt hc
   simp at this
   rcases Nat.lt_or_ge c H.length with h | h
   · rw [isRo_append_lt (by omega)] at hc
     exact ⟨h,isRo_forget hc⟩
   · have : c = (H.set b .gone).length := by omega
     subst this
     rw [isRo_of_get (get_append_new _ o)] at hc
     exact (not_both how hc).elim
 have hmx : ∀ c,isMix (H.set b .gone ++ [o]) c = true→c < H.length∧isMix H c = true := fun c hc => by
   have := isMix_lt hc
   simp at this
   rcases Nat.lt_or_ge c H.length with h | h
   · rw [isMix_append_lt (by omega)] at hc
     exact ⟨h,isMix_forget hc⟩
   · have : c = (H.set b .gone).length := by omega
     subst this
     rw [isMix_of_get (get_append_new _ o)] at hc
     cases o <;> first | (cases hc; done) | (cases how; done)
 refine ⟨⟨fun c o' hc => ?_,fun c c' hc hc' he => ?_,fun c c' hc hc' => ?_,fun c c' hc hc' => ?_,fun c o' hc => ?_⟩,⟨by simp,fun c hc => ?_,by omega,fun i _ hn => hold i (fun e => hn b hb e.symm),fun c hc => ?_,fun c hc => .inl (hcaser c hc).2,fun c hc => (hmx c hc).2,h1,h2,h3⟩⟩
 · have hlt := (List.getElem?_eq_some_iff.1 hc).1
   simp at hlt
   rcases Nat.lt_or_ge c H.length with h | h
   · rw [List.getElem?_append_left (by omega)] at hc
     by_cases hcb : c = b
     · subst hcb; rw [get_set_self h] at hc; cases hc; trivial
     · rw [List.getElem?_set_ne (Ne.symm hcb)] at hc
       refine (R.obj c o' hc).move hag h (R.scp c o' hc) ?_ (Below'.of (by omega) fun cs e k hk => hold k (by subst e; have := R.deep c b (by rw [isMix_of_get hc]; rfl) hb; omega))
       cases o' with
       | gone => exact .inl rfl
       | mix cs => exact .inr (hold _ (by have := R.deep c b (by rw [isMix_of_get hc]; rfl) hb; have := (R.obj c _ hc).1; omega))
       | ro cs => exact .inr (hold _ (R.sep c b (by rw [isRo_of_get hc]; rfl) hb))
       | rw cs r => exact .inr (hold _ (fun e => hcb (R.inj c b (by rw [wr_of_get hc]; rfl) hb e)))
       | map es k => exact .inr (hold _ (fun e => hcb (R.inj c b (by rw [wr_of_get hc]; rfl) hb e)))
       | iter m a b c => exact .inr (hold _ (fun e => hcb (R.inj _ _ (by rw [wr_of_get hc]; rfl) hb e)))
       | loop _ _ _ _ _ _ => exact .inr (hold _ (fun e => hcb (R.inj _ _ (by rw [wr_of_get hc]; rfl) hb e)))
   · have : c = (H.set b .gone).length := by omega
     subst this
     rw [get_append_new] at hc
     cases hc
     rw [hL]; exact hnew
 · rcases hcase c hc with ⟨h,hw,hne⟩ | h <;> rcases hcase c' hc' with ⟨h',hw',hne'⟩ | h'
   · rw [hφ c h,hφ c' h'] at he; exact R.inj c c' hw hw' he
   · subst h'; rw [hφ c h,hφn] at he; exact absurd (R.inj c b hw hb he) hne
   · subst h; rw [hφ c' h',hφn] at he; exact absurd (R.inj c' b hw' hb he.symm) hne'
   · omega
 · obtain ⟨h,hr⟩ := hcaser c hc
   rcases hcase c' hc' with ⟨h',hw',_⟩ | h'
   · rw [hφ c h,hφ c' h']; exact R.sep c c' hr hw'
   · subst h'; rw [hφ c h,hφn]; exact R.sep c b hr hb
 · obtain ⟨h,hm⟩ := hmx c hc
   rw [(hag c h).2.2]
   rcases hcase c' hc' with ⟨h',hw',_⟩ | h'
   · rw [hφ c' h']; exact R.deep c c' hm hw'
   · subst h'; rw [hφn]; exact R.deep c b hm hb
 · have hlt := (List.getElem?_eq_some_iff.1 hc).1
   simp at hlt
   rcases Nat.lt_or_ge c H.length with h | h
   · rw [List.getElem?_append_left (by omega)] at hc
     exact AObj.sc_mono (by simp) (R'.scp c o' hc)
   · have : c = (H.set b .gone).length := by omega
     subst this
     rw [get_append_new] at hc
     cases hc
     simpa using hs
 · have : c ≠ H.length := by simp at hc; omega
   simp [Ren.bind,this]
 · rcases hcase c hc with ⟨h,hw,_⟩ | h
   · exact .inl hw
   · subst h; exact .inr ⟨Nat.le_refl _,.inr ⟨b,hb,hφn⟩⟩
theorem Rel.take {ρ : Ren} {H : Heap} {w : World} (R : Rel ρ H w) (n : Nat) (hs : ∀ (b : Nat) (o : AObj),(H.take n)[b]? = some o→o.sc (H.take n).length = true) : Rel ρ (H.take n) w := by
 have hsub : ∀ c o,(H.take n)[c]? = some o→H[c]? = some o := fun c o hc => by
   have hl := (List.getElem?_eq_some_iff.1 hc).1
   simp at hl
   rwa [List.getElem?_take_of_lt (by omega)] at hc
 have hw : ∀ c,wr (H.take n) c = true→wr H c = true := fun c hc => by
   have hl := wr_lt hc
   rw [wr_of_get (List.getElem?_eq_getElem hl)] at hc; rw [wr_of_get (hsub c _ (List.getElem?_eq_getElem hl))]; exact hc
 have hr : ∀ c,isRo (H.take n) c = true→isRo H c = true := fun c hc => by
   have hl := isRo_lt hc
   rw [isRo_of_get (List.getElem?_eq_getElem hl)] at hc; rw [isRo_of_get (hsub c _ (List.getElem?_eq_getElem hl))]; exact hc
 have hmx : ∀ c,isMix (H.take n) c = true→isMix H c = true := fun c hc => by
   obtain ⟨cs,h⟩ := getMix hc
   rw [isMix_of_get (hsub c _ h)]; rfl
 exact ⟨fun c o hc => R.obj c o (hsub c o hc),fun c c' hc hc' => R.inj c c' (hw c hc) (hw c' hc'),fun c c' hc hc' => R.sep c c' (hr c hc) (hw c' hc'),fun c c' hc hc' => R.deep c c' (hmx c hc) (hw c' hc'),hs⟩
theorem Rel.bindDeep {ρ : Ren} {H : Heap} {w : World} (R : Rel ρ H w) {o : AObj} {p off k : Nat} (ho : (o = .gone)∨∃ cs b0,o = .ro cs∧isMix H b0 = true∧p < ρ.κ b0) (hs : o.sc (H.length + 1) = true)
   (hn : ObjOk (ρ.bind H.length p off k) H.length w o) : Rel (ρ.bind H.length p off k) (H ++ [o]) w∧Ext ρ H w (ρ.bind H.length p off k) (H ++ [o]) w := by
 have hag := Ren.bind_agree ρ H.length p off k
 have hφn : (ρ.bind H.length p off k).φ H.length = p := by simp [Ren.bind]
 have hw0 : o.wr = false := by rcases ho with rfl | ⟨_,_,rfl,_⟩ <;> rfl
 have hm0 : o.isMix = false := by rcases ho with rfl | ⟨_,_,rfl,_⟩ <;> rfl
 have hwr : ∀ b,wr (H ++ [o]) b = true→b < H.length∧wr H b = true := fun b hb => by
   have := wr_lt hb
   simp at this
   rcases Nat.lt_or_ge b H.length with h | h
   · exact ⟨h,by rwa [wr_append_lt h] at hb⟩
   · have : b = H.length := by omega
     subst this
     rw [wr_of_get (get_append_new H o),hw0] at hb; cases hb
 have hmx : ∀ b,isMix (H ++ [o]) b = true→b < H.length∧isMix H b = true := fun b hb => by
   have := isMix_lt hb
   simp at this
   rcases Nat.lt_or_ge b H.length with h | h
   · exact ⟨h,by rwa [isMix_append_lt h] at hb⟩
   · have : b = H.length := by omega
     subst this
     rw [isMix_of_get (get_append_new H o),hm0] at hb; cases hb
 have hro : ∀ b,isRo (H ++ [o]) b = true→(b < H.length∧isRo H b = true)∨(b = H.length∧∃ b0,isMix H b0 = true∧p < ρ.κ b0) := fun b hb => by
   have := isRo_lt hb
   simp at this
   rcases Nat.lt_or_ge b H.length with h | h
   · exact .inl ⟨h,by rwa [isRo_append_lt h] at hb⟩
   · have hbn : b = H.length := by omega
     subst hbn
     rcases ho with rfl | ⟨cs,b0,rfl,h1,h2⟩
     · rw [isRo_of_get (get_append_new H _)] at hb; cases hb
     · exact .inr ⟨rfl,b0,h1,h2⟩
 refine ⟨⟨fun b o' hb => ?_,fun b b' hb hb' he => ?_,fun b b' hb hb' => ?_,fun b b' hb hb' => ?_,fun b o' hb => ?_⟩,⟨by simp,fun b hb => ?_,Nat.le_refl _,fun _ _ _ => rfl,fun b hb => .inl (hwr b hb).2,fun b hb => ?_,fun b hb => (hmx b hb).2,rfl,rfl,rfl⟩⟩
 · have hlt := (List.getElem?_eq_some_iff.1 hb).1
   simp at hlt
   rcases Nat.lt_or_ge b H.length with h | h
   · rw [List.getElem?_append_left h] at hb
     exact (R.obj b o' hb).move hag h (R.scp b o' hb) (.inr rfl) (Below'.refl _ _ _ _)
   · have : b = H.length := by omega
     subst this
     rw [get_append_new] at hb
     cases hb
     exact hn
 · obtain ⟨h1,h2⟩ := hwr b hb
   obtain ⟨h3,h4⟩ := hwr b' hb'
   rw [(hag b h1).1,(hag b' h3).1] at he
   exact R.inj b b' h2 h4 he
 · obtain ⟨h3,h4⟩ := hwr b' hb'
   rw [(hag b' h3).1]
   rcases hro b hb with ⟨h1,h2⟩ | ⟨rfl,b0,h1,h2⟩
   · rw [(hag b h1).1]; exact R.sep b b' h2 h4
   · rw [hφn]
     have := R.deep b0 b' h1 h4
     omega
 · obtain ⟨h1,h2⟩ := hmx b hb
   obtain ⟨h3,h4⟩ := hwr b' hb'
   rw [(hag b h1).2.2,(hag b' h3).1]
   exact R.deep b b' h2 h4
 · have hlt := (List.getElem?_eq_some_iff.1 hb).1
   simp at hlt
   rcases Nat.lt_or_ge b H.length with h | h
   · rw [List.getElem?_append_left h] at hb
     exact AObj.sc_mono (by simp) (R.scp b o' hb)
   · have : b = H.length := by omega
     subst this
     rw [get_append_new] at hb
     cases hb
     simpa using hs
 · have : b ≠ H.length := by simp at hb; omega
   simp [Ren.bind,this]
 · rcases hro b hb with ⟨_,h⟩ | ⟨rfl,b0,h1,h2⟩
   · exact .inl h
   · exact .inr ⟨Nat.le_refl _,b0,h1,by rw [hφn]; exact h2⟩
end Go.Pier
