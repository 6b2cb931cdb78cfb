import Derived.Test.YtmlnodejjhohbaaPierKC1
import Derived.Test.YtmlnodejjhohbaaPierZL
import Derived.Test.YtmlnodejjhohbaaPierW
set_option linter.unusedSimpArgs false
set_option linter.unusedVariables false
namespace Go.Pier
open Go
variable {P : Program} {ρ : Ren} {H H' : Heap} {w : World}
def Ct.none : Ct := fun _ _ _ => Option.none
theorem CtOk.none : CtOk P Ct.none := fun _ _ _ _ _ _ _ h => by cases h
def Ct.add (f : Nat) (g : List Value→Heap→Option (Option Prop × Value × Heap × List Nat)) (ct : Ct) : Ct := fun k args H => match Nat.beq k f with
 | true => g args H
 | false => ct k args H
theorem CtOk.add {f : Nat} {g : List Value→Heap→Option (Option Prop × Value × Heap × List Nat)} {ct : Ct} (h : CtOk P ct)
   (hg : ∀ args H φ v H' l,g args H = some (φ,v,H',l)→Asks φ→Call P f args H (fun v' H2 => v' = v∧H2 = H')∧Kept H H' l) : CtOk P (ct.add f g) := by
 intro k args H φ v H' l hk hφ
 unfold Ct.add at hk
 split at hk
 · rename_i hb
   rw [Nat.eq_of_beq_eq_true hb]
   exact hg _ _ _ _ _ _ hk hφ
 · exact h _ _ _ _ _ _ _ hk hφ
inductive PK where
 | int (k : IntKind)
 | bool
 | ints (k : IntKind)
variable {K : Type}
def newSlice (b m : Nat) : Value := .slice (some ⟨b,0,some 0⟩) m 0
end Go.Pier
namespace Go.Pier
open Go
variable {P : Program} {ρ : Ren} {H H' : Heap} {w : World}
def Arg.list : Arg→List Int
 | .ints _ l => l
 | _ => []
inductive Back where
 | plain (v : Value)
 | list (l : List Int)
 | both (l : List Int) (us : List Value)
def Back.val (b : Nat) : Back→Value
 | .plain v => v
 | .list l => newSlice b l.length
 | .both l us => .tuple (newSlice b l.length :: us).toArray
def Back.heap : Back→Heap
 | .plain _ => []
 | .list l => [.rw (l.map (.int .i64)) (some 1)]
 | .both l _ => [.rw (l.map (.int .i64)) (some 1)]
def Back.ok : Back→Bool
 | .plain v => sc 0 v
 | .list _ => true
 | .both _ us => us.all (sc2 0)
end Go.Pier
namespace Go.Pier
open Go
variable {P : Program} {ρ : Ren} {H H' : Heap} {w : World} {f : FuncId} {σ : Nat→Nat}
structure Held (ρ : Ren) (H : Heap) (w : World) (σ : Nat→Nat) (B : List Nat) (m : Nat) (ρE : Ren) (E : Heap) : Prop where
 rel : Rel ρE E w
 len : m≤E.length
 base : Agree m (ρ.comp σ) ρE
 own : ∀ c,wr E c = true→c < m∧wr H (σ c) = true∧σ c ∈ B
 mixed : ∀ c,isMix E c = true→c < m∧isMix H (σ c) = true
theorem Rel.held (R : Rel ρ H w) {E : Heap} (hobj : ∀ (b : Nat) (o : AObj),E[b]? = some o→o = .gone∨H[σ b]? = some (omap σ o)) (hinj : ∀ b b',b < E.length→b' < E.length→σ b = σ b'→b = b')
   (hscp : ∀ (b : Nat) (o : AObj),E[b]? = some o→o.sc E.length = true) {B : List Nat} (hB : ∀ b,b < E.length→σ b ∈ B) : ∃ ρE,Held ρ H w σ B E.length ρE E := by
 have hwr : ∀ b,wr E b = true→wr H (σ b) = true := fun b hb => by
   obtain ⟨o,ho,h1⟩ := getWr hb
   rcases hobj b o ho with rfl | h2
   · cases h1
   · rw [wr_of_get h2,omap_wr]; exact h1
 have hro : ∀ b,isRo E b = true→isRo H (σ b) = true := fun b hb => by
   obtain ⟨o,ho,h1⟩ := getRo hb
   rcases hobj b o ho with rfl | h2
   · cases h1
   · rw [isRo_of_get h2,omap_isRo]; exact h1
 have hmx : ∀ b,isMix E b = true→isMix H (σ b) = true := fun b hb => by
   obtain ⟨cs,ho⟩ := getMix hb
   rcases hobj b _ ho with h | h2
   · cases h
   · rw [isMix_of_get h2]; rfl
 refine ⟨ρ.comp σ,⟨fun b o hb => ?_,fun b b' hb hb' he => ?_,fun b b' hb hb' he => ?_,fun b b' hb hb' => ?_,hscp⟩,Nat.le_refl _,Agree.refl _ _,fun c hc => ⟨wr_lt hc,hwr c hc,hB c (wr_lt hc)⟩,fun c hc => ⟨isMix_lt hc,hmx c hc⟩⟩
 · rcases hobj b o hb with rfl | h1
   · trivial
   · exact (R.obj _ _ h1).comp
 · exact hinj b b' (wr_lt hb) (wr_lt hb') (R.inj _ _ (hwr b hb) (hwr b' hb') he)
 · exact R.sep _ _ (hro b hb) (hwr b' hb') he
 · exact R.deep _ _ (hmx b hb) (hwr b' hb')
variable {B : List Nat} {m : Nat} {ρE : Ren} {E : Heap}
theorem Held.bind (h : Held ρ H w σ B m ρE E) {o : AObj} {p off k : Nat} (ho : o.wr = false) (hm : o.isMix = false) (hs : o.sc (E.length + 1) = true) (hn : ObjOk (ρE.bind E.length p off k) E.length w o)
   (hap : o.isRo = true→∀ c,wr E c = true→ρE.φ c ≠ p) : Held ρ H w σ B m (ρE.bind E.length p off k) (E ++ [o]) := by
 have R := h.rel
 have hag := Ren.bind_agree ρE E.length p off k
 have hnew : (E ++ [o])[E.length]? = some o := get_append_new E o
 have hcls : ∀ b,b < (E ++ [o]).length→b < E.length∨b = E.length := fun b hb => by simp at hb; omega
 have hw : ∀ b,wr (E ++ [o]) b = true→b < E.length∧wr E b = true := fun b hb => by
   rcases hcls b (wr_lt hb) with h1 | rfl
   · exact ⟨h1,by rw [← wr_append_lt h1]; exact hb⟩
   · rw [wr_of_get hnew,ho] at hb; cases hb
 have hx : ∀ b,isMix (E ++ [o]) b = true→b < E.length∧isMix E b = true := fun b hb => by
   rcases hcls b (isMix_lt hb) with h1 | rfl
   · exact ⟨h1,by rw [← isMix_append_lt h1]; exact hb⟩
   · rw [isMix_of_get hnew,hm] at hb; cases hb
 have hr : ∀ b,isRo (E ++ [o]) b = true→(b < E.length∧isRo E b = true)∨(b = E.length∧o.isRo = true) := fun b hb => by
   rcases hcls b (isRo_lt hb) with h1 | rfl
   · exact .inl ⟨h1,by rw [← hb]; exact (isRo_congr (List.getElem?_append_left h1)).symm⟩
   · rw [isRo_of_get hnew] at hb; exact .inr ⟨rfl,hb⟩
 refine ⟨⟨fun b o' hb => ?_,fun b b' hb hb' he => ?_,fun b b' hb hb' he => ?_,fun b b' hb hb' => ?_,fun b o' hb => ?_⟩,by rw [List.length_append]; have := h.len; omega,h.base.trans (hag.mono h.len) (Nat.le_refl _),fun c hc => h.own c (hw c hc).2,fun c hc => h.mixed c (hx c hc).2⟩
 · rcases hcls b (List.getElem?_eq_some_iff.1 hb).1 with h1 | rfl
   · rw [List.getElem?_append_left h1] at hb
     exact (R.obj b o' hb).move hag h1 (R.scp b o' hb) (.inr rfl) (Below'.refl _ _ _ _)
   · rw [hnew] at hb; cases hb; exact hn
 · obtain ⟨h1,h2⟩ := hw b hb
   obtain ⟨h3,h4⟩ := hw b' hb'
   rw [(hag b h1).1,(hag b' h3).1] at he
   exact R.inj _ _ h2 h4 he
 · obtain ⟨h3,h4⟩ := hw b' hb'
   rw [(hag b' h3).1] at he
   rcases hr b hb with ⟨h1,h2⟩ | ⟨rfl,h2⟩
   · rw [(hag b h1).1] at he
     exact R.sep _ _ h2 h4 he
   · refine hap h2 b' h4 ?_
     rw [← he]; simp [Ren.bind]
 · obtain ⟨h1,h2⟩ := hx b hb
   obtain ⟨h3,h4⟩ := hw b' hb'
   rw [(hag b h1).2.2,(hag b' h3).1]
   exact R.deep _ _ h2 h4
 · rcases hcls b (List.getElem?_eq_some_iff.1 hb).1 with h1 | rfl
   · rw [List.getElem?_append_left h1] at hb
     exact AObj.sc_mono (by simp) (R.scp b o' hb)
   · rw [hnew] at hb; cases hb; simpa using hs
inductive Arg2 where
 | val (v : Value)
 | ints (k : IntKind) (l : List Int)
 | hole (s : Option Nat)
def canonA2 (caps : Nat→Nat) : Nat→List Arg2→List Value
 | _,[] => []
 | i,.val v :: r => v :: canonA2 caps i r
 | i,.ints _ l :: r => .slice (some ⟨i,0,none⟩) l.length (caps i) :: canonA2 caps (i + 1) r
 | i,.hole s :: r => .slice (some ⟨i,0,s⟩) 0 (caps i) :: canonA2 caps (i + 1) r
def canonH2 : List Arg2→Heap
 | [] => []
 | .val _ :: r => canonH2 r
 | .ints k l :: r => .ro (l.map (.int k)) :: canonH2 r
 | .hole _ :: r => .gone :: canonH2 r
def sliceBlock : Value→Option Nat
 | .slice (some a) _ _ => some a.block
 | _ => none
def ReadA2 (H : Heap) (σ : Nat→Nat) (B : List Nat) (m : Nat) : List Arg2→List Value→Prop
 | [],[] => True
 | .val u :: r,v :: vs => v = nmap σ u∧sc m u = true∧ReadA2 H σ B m r vs
 | .ints k l :: r,v :: vs => (∃ φ,sliceInts k H v = some (φ,l)∧φ)∧(∀ b,sliceBlock v = some b→b ∉ B)∧ReadA2 H σ B m r vs
 | .hole s :: r,v :: vs => (∃ b c,v = .slice (some ⟨b,0,s⟩) 0 c)∧ReadA2 H σ B m r vs
 | _,_ => False
theorem canonA2_congr {c c' : Nat→Nat} : ∀ (ags : List Arg2) (i : Nat),(∀ j,i≤j→c j = c' j)→canonA2 c i ags = canonA2 c' i ags
 | [],_,_ => rfl
 | .val v :: r,i,h => by rw [canonA2,canonA2,canonA2_congr r i h]
 | .ints k l :: r,i,h => by rw [canonA2,canonA2,canonA2_congr r (i + 1) fun j hj => h j (by omega),h i (Nat.le_refl _)]
 | .hole s :: r,i,h => by rw [canonA2,canonA2,canonA2_congr r (i + 1) fun j hj => h j (by omega),h i (Nat.le_refl _)]
theorem Held.ints (R : Rel ρ H w) (h : Held ρ H w σ B m ρE E) {k : IntKind} {v : Value} {φ : Prop} {l : List Int} (hi : sliceInts k H v = some (φ,l)) (hφ : φ) (hb : ∀ b,sliceBlock v = some b→b ∉ B) :
   ∃ (ρ1 : Ren) (c : Nat),Agree E.length ρE ρ1∧Held ρ H w σ B m ρ1 (E ++ [.ro (l.map (.int k))])∧ren ρ1 (.slice (some ⟨E.length,0,none⟩) l.length c) = ren ρ v := by
 unfold sliceInts at hi
 split at hi <;> try (cases hi; done)
 rename_i a n c
 split at hi <;> simp only [Option.some.injEq,Prod.mk.injEq,reduceCtorEq] at hi
 rename_i cs hc
 obtain ⟨rfl,rfl⟩ := hi
 obtain ⟨h1,h2,h3⟩ := hφ
 obtain ⟨k1,k2⟩ := cellsOf_at R hc
 have hlen : (((intsOf cs).drop a.off).take n).length = n := by
   rw [List.length_take,List.length_drop,intsOf,List.length_map]; omega
 have hcell : ∀ (i : Nat) (u : Value),((((intsOf cs).drop a.off).take n).map (Value.int k))[i]? = some u→w.cell? ⟨ρ.φ a.block,ρ.δ a.block + a.off + i,none⟩ = some (ren1 ρE u) := by
   intro i u hi
   have hu : ∃ m,u = .int k m := by
     rw [List.getElem?_map,Option.map_eq_some_iff] at hi
     obtain ⟨m,_,rfl⟩ := hi
     exact ⟨m,rfl⟩
   obtain ⟨m,rfl⟩ := hu
   rw [← h1,List.getElem?_take] at hi
   split at hi <;> try (cases hi; done)
   rw [List.getElem?_drop] at hi
   have := k2 _ _ hi
   rw [← Nat.add_assoc] at this
   exact this
 have hsc : ((((intsOf cs).drop a.off).take n).map (Value.int k)).all (sc1 (E.length + 1)) = true := by rw [List.all_map]; exact List.all_eq_true.2 fun _ _ => rfl
 refine ⟨ρE.bind E.length (ρ.φ a.block) (ρ.δ a.block + a.off),ρ.cap a c,Ren.bind_agree _ _ _ _ _,h.bind rfl rfl hsc ⟨by simpa [Ren.bind] using k1,fun i u hi => ?_⟩ fun _ d hd he => ?_,?_⟩
 · rw [ren1_agree (Ren.bind_agree ρE E.length (ρ.φ a.block) (ρ.δ a.block + a.off) 0) (n := E.length) (by
     rw [List.getElem?_map,Option.map_eq_some_iff] at hi
     obtain ⟨m,_,rfl⟩ := hi; rfl),← hcell i u hi]
   simp [Ren.bind]
 · obtain ⟨d1,d2,d3⟩ := h.own d hd
   rw [(h.base d d1).1] at he
   have he' : ρ.φ (σ d) = ρ.φ a.block := he
   unfold cellsOf at hc
   split at hc <;> cases hc
   · rename_i hro
     exact R.sep a.block (σ d) (by rw [isRo_of_get hro]; rfl) d2 he'.symm
   · rename_i r hrw
     have := R.inj _ _ d2 (by rw [wr_of_get hrw]; rfl) he'
     exact hb a.block rfl (this ▸ d3)
 · rw [hlen]
   have e1 : ren ρ (.slice (some a) n c) = .slice (some (ρ.addr a)) n (ρ.cap a c) := by
     show Value.slice (some (ρ.adr a c)) n (ρ.cap a c) = _
     rw [adr_std h3]
   rw [e1]
   show Value.slice (some ((ρE.bind E.length (ρ.φ a.block) (ρ.δ a.block + a.off)).adr ⟨E.length,0,none⟩ (ρ.cap a c))) n _ = _
   have e2 : (ρE.bind E.length (ρ.φ a.block) (ρ.δ a.block + a.off)).adr ⟨E.length,0,none⟩ (ρ.cap a c) = ρ.addr a := by
     rw [adr_std (std_none rfl),Ren.bind_addr]
     rfl
   rw [e2]
   rfl
theorem Held.hole (h : Held ρ H w σ B m ρE E) (b c : Nat) (s : Option Nat) :
   ∃ ρ1 : Ren,Agree E.length ρE ρ1∧Held ρ H w σ B m ρ1 (E ++ [.gone])∧ren ρ1 (.slice (some ⟨E.length,0,s⟩) 0 c) = ren ρ (.slice (some ⟨b,0,s⟩) 0 c) := by
 refine ⟨ρE.bind E.length (ρ.φ b) (ρ.δ b) (ρ.κ b),Ren.bind_agree _ _ _ _ _,h.bind rfl rfl rfl trivial (fun h => by cases h),?_⟩
 show Value.slice (some (Ren.adr _ _ _)) 0 (Ren.cap _ _ _) = Value.slice (some (Ren.adr _ _ _)) 0 (Ren.cap _ _ _)
 cases s with
 | none => simp [Ren.adr,Ren.cap,Ren.addr,Ren.bind]
 | some k => cases c <;> simp [Ren.adr,Ren.cap,Ren.addr,Ren.bind]
theorem Held.args (R : Rel ρ H w) : ∀ (ags : List Arg2) (vs : List Value) (ρE : Ren) (E : Heap),ReadA2 H σ B m ags vs→Held ρ H w σ B m ρE E →
   ∃ (ρ1 : Ren) (caps : Nat→Nat),Agree E.length ρE ρ1∧Held ρ H w σ B m ρ1 (E ++ canonH2 ags)∧(canonA2 caps E.length ags).map (ren ρ1) = vs.map (ren ρ)∧(canonA2 caps E.length ags).all (sc (E ++ canonH2 ags).length) = true
 | [],[],ρE,E,_,R0 => ⟨ρE,fun _ => 0,Agree.refl _ _,by simpa [canonH2] using R0,rfl,rfl⟩
 | [],_ :: _,_,_,h,_ => h.elim
 | .val u :: r,[],_,_,h,_ => h.elim
 | .ints k l :: r,[],_,_,h,_ => h.elim
 | .hole s :: r,[],_,_,h,_ => h.elim
 | .val u :: r,v :: vs,ρE,E,h,R0 => by
   obtain ⟨rfl,h1,h2⟩ := h
   obtain ⟨ρ1,caps,k1,k2,k4,k5⟩ := Held.args R r vs ρE E h2 R0
   refine ⟨ρ1,caps,k1,k2,?_,?_⟩
   · simp only [canonA2,List.map_cons,k4]
     rw [ren_agree k1 (sc_mono R0.len h1),ren_agree R0.base h1,ren_nmap]
   · simp only [canonA2,List.all_cons,Bool.and_eq_true]
     exact ⟨sc_mono (Nat.le_trans R0.len (by simp)) h1,k5⟩
 | .ints k l :: r,v :: vs,ρE,E,h,R0 => by
   obtain ⟨⟨φ,h1,hφ⟩,hB,h2⟩ := h
   obtain ⟨ρ1,c,a1,R1,e1⟩ := R0.ints R h1 hφ hB
   obtain ⟨ρ2,caps,a2,R2,e2,e3⟩ := Held.args R r vs ρ1 (E ++ [.ro (l.map (.int k))]) h2 R1
   have hlen : (E ++ [AObj.ro (l.map (Value.int k))]).length = E.length + 1 := by simp
   have happ : E ++ [AObj.ro (l.map (Value.int k))] ++ canonH2 r = E ++ canonH2 (.ints k l :: r) := by simp [canonH2]
   rw [happ] at R2 e3
   rw [hlen] at e2 e3 a2
   have hsc : sc (E.length + 1) (.slice (some ⟨E.length,0,none⟩) l.length c) = true := by
     show decide (E.length < E.length + 1) = true
     simp
   refine ⟨ρ2,fun j => if j = E.length then c else caps j,a1.trans a2 (by omega),R2,?_,?_⟩
   · simp only [canonA2,List.map_cons,if_true]
     rw [canonA2_congr (c' := caps) r _ fun j hj => if_neg (by omega),e2,ren_agree a2 hsc,e1]
   · simp only [canonA2,List.all_cons,Bool.and_eq_true,if_true]
     rw [canonA2_congr (c' := caps) r _ fun j hj => if_neg (by omega)]
     refine ⟨sc_mono ?_ hsc,e3⟩
     simp [canonH2]
 | .hole s :: r,v :: vs,ρE,E,h,R0 => by
   obtain ⟨⟨b,c,rfl⟩,h2⟩ := h
   obtain ⟨ρ1,a1,R1,e1⟩ := R0.hole b c s
   obtain ⟨ρ2,caps,a2,R2,e2,e3⟩ := Held.args R r vs ρ1 (E ++ [.gone]) h2 R1
   have hlen : (E ++ [AObj.gone]).length = E.length + 1 := by simp
   have happ : E ++ [AObj.gone] ++ canonH2 r = E ++ canonH2 (.hole s :: r) := by simp [canonH2]
   rw [happ] at R2 e3
   rw [hlen] at e2 e3 a2
   have hsc : sc (E.length + 1) (.slice (some ⟨E.length,0,s⟩) 0 c) = true := by
     show decide (E.length < E.length + 1) = true
     simp
   refine ⟨ρ2,fun j => if j = E.length then c else caps j,a1.trans a2 (by omega),R2,?_,?_⟩
   · simp only [canonA2,List.map_cons,if_true]
     rw [canonA2_congr (c' := caps) r _ fun j hj => if_neg (by omega),e2,ren_agree a2 hsc,e1]
   · simp only [canonA2,List.all_cons,Bool.and_eq_true,if_true]
     rw [canonA2_congr (c' := caps) r _ fun j hj => if_neg (by omega)]
     refine ⟨sc_mono ?_ hsc,e3⟩
     simp [canonH2]
theorem ObjOk.uncomp {b : Nat} {o : AObj} (h : ObjOk (ρ.comp σ) b w o) : ObjOk ρ (σ b) w (omap σ o) := by
 cases o with
 | gone => trivial
 | mix cs => exact h
 | ro cs =>
   refine ⟨h.1,fun i v hi => ?_⟩
   rw [List.getElem?_map,Option.map_eq_some_iff] at hi
   obtain ⟨u,hu,rfl⟩ := hi
   rw [← ren1_nmap]
   exact h.2 i u hu
 | rw cs r =>
   obtain ⟨h1,cs',t,h2,h3,h4⟩ := h
   refine ⟨h1,cs',t,h2,fun i v hi => ?_,?_⟩
   · rw [List.getElem?_map,Option.map_eq_some_iff] at hi
     obtain ⟨u,hu,rfl⟩ := hi
     rw [← ren1_nmap]
     exact h3 i u hu
   · cases r <;> simpa [Ren.comp] using h4
 | map es c =>
   have h' : w.heap[ρ.φ (σ b)]? = _ := h
   show w.heap[ρ.φ (σ b)]? = _
   rw [h',List.map_map]
   congr 3
   apply List.map_congr_left
   intro e _
   simp only [Function.comp,renE,ren2_nmap]
 | iter m a b' c => exact h
 | loop a b' t c d e =>
   obtain ⟨fn,df,tm,h,ht⟩ := h
   refine ⟨fn,df,tm,h,?_,fun k v hk hj => ?_⟩
   · rw [ht.1]; simp
   · rw [Array.getElem?_map,Option.map_eq_some_iff] at hk
     obtain ⟨u,hu,rfl⟩ := hk
     rw [← ren_nmap]
     exact ht.2 k u hu (by rw [← isJunk_nmap (σ := σ)]; exact hj)
section
variable {p : Nat→Bool} {n : Nat}
theorem nm0_both {v : Value} (h : nm0 p v = true) (k : sc0 n v = true) : nm0 (fun d => p d && decide (d < n)) v = true := by
 unfold sc0 at k
 split at k <;> simp_all [nm0]
theorem all_both {q r s : Value→Bool} (hq : ∀ v,q v = true→r v = true→s v = true) (a : Array Value) (h : a.all q = true) (k : a.all r = true) : a.all s = true :=
 Array.all_eq_true'.2 fun v hv => hq v (Array.all_eq_true'.1 h v hv) (Array.all_eq_true'.1 k v hv)
theorem nmA_plain {q : Nat→Bool} {v : Value} (k : sc0 n v = true) : nmA q v = nm0 q v := by
 unfold sc0 at k
 split at k <;> first | rfl | (cases k)
theorem nmA_both {v : Value} (h : nmA p v = true) (k : scA n v = true) : nmA (fun d => p d && decide (d < n)) v = true := by
 simp only [scA,Bool.or_eq_true] at k
 rcases k with k | k
 · rw [nmA_plain k] at h ⊢; exact nm0_both h k
 · cases v <;> simp only [aggAll,Bool.false_eq_true] at k
   exact all_both (fun _ => nm0_both) _ h k
theorem nm1_plain {q : Nat→Bool} {v : Value} (k : sc0 n v = true) : nm1 q v = nm0 q v := by
 unfold sc0 at k
 split at k <;> first | rfl | (cases k)
theorem nm2_plain {q : Nat→Bool} {v : Value} (k : sc1 n v = true) : nm2 q v = nm1 q v := by
 cases v <;> first | rfl | (simp [sc1,sc0] at k)
theorem nm_plain {q : Nat→Bool} {v : Value} (k : sc2 n v = true) : nm q v = nm2 q v := by
 cases v <;> first | rfl | (simp [sc2,sc1,sc0] at k)
theorem nm1_both {v : Value} (h : nm1 p v = true) (k : sc1 n v = true) : nm1 (fun d => p d && decide (d < n)) v = true := by
 unfold sc1 at k
 split at k
 · simp only [Bool.and_eq_true] at k
   simp only [nm1,Bool.and_eq_true] at h ⊢
   exact ⟨rfl,all_both (fun _ => nmA_both) _ h.2.1 k.1,all_both (fun _ => nm0_both) _ h.2.2 k.2⟩
 · simp only [Bool.and_eq_true,decide_eq_true_eq] at k
   simp only [nm1,nmFn,Bool.and_eq_true] at h ⊢
   exact ⟨⟨h.1,by simpa using k.1⟩,all_both (fun v a b => nmA_both a (scA_of_sc0 b)) _ h.2.1 k.2.1,all_both (fun _ => nm0_both) _ h.2.2 k.2.2⟩
 · rw [nm1_plain k] at h ⊢; exact nm0_both h k
theorem sc2_or {v : Value} (k : sc2 n v = true) : (∃ cs,v = .agg cs∧cs.all (sc1 n) = true)∨sc1 n v = true := by
 cases v <;> first | exact .inr k | exact .inl ⟨_,rfl,k⟩
theorem sc_or {v : Value} (k : sc n v = true) : (∃ cs,v = .tuple cs∧cs.all (sc2 n) = true)∨sc2 n v = true := by
 cases v <;> first | exact .inr k | exact .inl ⟨_,rfl,k⟩
theorem nm2_both {v : Value} (h : nm2 p v = true) (k : sc2 n v = true) : nm2 (fun d => p d && decide (d < n)) v = true := by
 rcases sc2_or k with ⟨cs,rfl,k⟩ | k
 · exact all_both (fun _ => nm1_both) cs h k
 · rw [nm2_plain k] at h ⊢; exact nm1_both h k
theorem nm_both {v : Value} (h : nm p v = true) (k : sc n v = true) : nm (fun d => p d && decide (d < n)) v = true := by
 rcases sc_or k with ⟨cs,rfl,k⟩ | k
 · exact all_both (fun _ => nm2_both) cs h k
 · rw [nm_plain k] at h ⊢; exact nm2_both h k
theorem AObj.nm_both {o : AObj} (h : o.nm p = true) (k : o.sc n = true) : o.nm (fun d => p d && decide (d < n)) = true := by
 cases o with
 | gone => rfl
 | mix cs => rfl
 | ro cs => exact List.all_eq_true.2 fun v hv => nm1_both (List.all_eq_true.1 h v hv) (List.all_eq_true.1 k v hv)
 | rw cs r => exact List.all_eq_true.2 fun v hv => nm1_both (List.all_eq_true.1 h v hv) (List.all_eq_true.1 k v hv)
 | map es c =>
   refine List.all_eq_true.2 fun e he => ?_
   have := List.all_eq_true.1 k e he
   simp only [Bool.and_eq_true] at this
   exact nm2_both (List.all_eq_true.1 h e he) this.2
 | iter m a b c =>
   simp only [AObj.nm,AObj.sc,decide_eq_true_eq,Bool.and_eq_true] at *
   exact ⟨h,k⟩
 | loop a b t c d e => exact all_both (fun _ => Pier.nm_both) t h k
end
structure Merged (H : Heap) (σ τ : Nat→Nat) (m : Nat) (E F H' : Heap) : Prop where
 len : H'.length = H.length + (F.length - E.length)
 lenF : E.length≤F.length
 low : ∀ c,c < m→σ c < H.length∧τ c = σ c
 new : ∀ j,τ (E.length + j) = H.length + j
 old : ∀ (b : Nat) (o : AObj),b < H.length→H'[b]? = some o→o = .gone∨(∃ c,c < m∧wr E c = true∧σ c = b∧∃ o',F[c]? = some o'∧o = omap τ o')∨(H[b]? = some o∧∀ c,wr E c = true→σ c ≠ b)
 fresh : ∀ (j : Nat) (o : AObj),H'[H.length + j]? = some o→o = .gone∨∃ o',F[E.length + j]? = some o'∧o = omap τ o'∧o'.isRo = false
 names : ∀ (c : Nat) (o : AObj),(wr E c = true∨E.length≤c)→F[c]? = some o→o.nm (fun d => decide (d < m) || decide (E.length≤d)) = true
 scp : ∀ (b : Nat) (o : AObj),H'[b]? = some o→H[b]? = some o∨o.sc H'.length = true
theorem Call.frame {E F : Heap} {ags : List Arg2} {vs : List Value} {v : Value} {τ : Nat→Nat} {C : (Nat→Nat)→Prop} (hm : m≤E.length)
   (hE : ∀ ρ w,Rel ρ H w→∃ ρE caps,Held ρ H w σ B m ρE E∧(canonA2 caps m ags).map (ren ρE) = vs.map (ren ρ)∧(canonA2 caps m ags).all (sc E.length) = true∧C caps)
   (h : ∀ caps,C caps→Call P f (canonA2 caps m ags) E fun v' F' => v' = v∧F' = F) (hM : Merged H σ τ m E F H')
   (hv : nm (fun d => decide (d < m) || decide (E.length≤d)) v = true) (hvs : sc H'.length (nmap τ v) = true) :
   Call P f vs H fun v' H2 => v' = nmap τ v∧H2 = H' := fun ρ w R hs => by
 obtain ⟨ρE,caps,hH,e,s0,hC⟩ := hE ρ w R
 have hcall := h caps hC ρE w hH.rel s0
 rw [e] at hcall
 refine hcall.mono ?_
 rintro e' w' ⟨ρ',v',F',rfl,⟨rfl,rfl⟩,R',X,s'⟩
 let n := H.length
 let k := F'.length - E.length
 have hlF : E.length + k = F'.length := by have := hM.lenF; omega
 have hlH : H'.length = n + k := hM.len
 let p : Nat→Bool := fun d => decide (d < m) || decide (E.length≤d)
 let ρ2 : Ren := ⟨fun b => if b < n then ρ.φ b else if b < n + k then ρ'.φ (E.length + (b - n)) else ρ.φ b,fun b => if b < n then ρ.δ b else if b < n + k then ρ'.δ (E.length + (b - n)) else ρ.δ b,
   fun b => if b < n then ρ.κ b else if b < n + k then ρ'.κ (E.length + (b - n)) else ρ.κ b⟩
 have ag : Agree n ρ ρ2 := fun b hb => by simp [ρ2,hb]
 have agF : ∀ c,c < m∨(E.length≤c∧c < F'.length)→(ρ2.comp τ).φ c = ρ'.φ c∧(ρ2.comp τ).δ c = ρ'.δ c∧(ρ2.comp τ).κ c = ρ'.κ c := fun c hc => by
   rcases hc with hc | ⟨hc,hc'⟩
   · obtain ⟨h1,h2⟩ := hM.low c hc
     obtain ⟨a1,a2,a3⟩ := hH.base c hc
     obtain ⟨b1,b2,b3⟩ := X.agree c (.inl (by omega))
     obtain ⟨c1,c2,c3⟩ := ag (σ c) h1
     simp only [Ren.comp] at a1 a2 a3 ⊢
     rw [h2,c1,c2,c3,b1,b2,b3,a1,a2,a3]
     exact ⟨rfl,rfl,rfl⟩
   · have h1 := hM.new (c - E.length)
     rw [show E.length + (c - E.length) = c by omega] at h1
     simp only [Ren.comp,h1]
     have h2 : ¬ (H.length + (c - E.length) < n) := by show ¬ (H.length + (c - E.length) < H.length); omega
     have h3 : H.length + (c - E.length) < n + k := by show H.length + (c - E.length) < H.length + (F'.length - E.length); omega
     have h4 : E.length + (H.length + (c - E.length) - n) = c := by show E.length + (H.length + (c - E.length) - H.length) = c; omega
     simp [ρ2,h2,h3,h4]
 have out : ∀ (c : Nat) (o : AObj),(c < m∨E.length≤c)→(wr E c = true∨E.length≤c)→F'[c]? = some o→ObjOk ρ2 (τ c) w' (omap τ o) := fun c o hc hc2 ho => by
   have hlt := (List.getElem?_eq_some_iff.1 ho).1
   have hsc := R'.scp c o ho
   refine ObjOk.uncomp ?_
   have hon : AgreeOn (fun d => p d && decide (d < F'.length)) ρ' (ρ2.comp τ) := fun d hd => by
     simp only [p,Bool.and_eq_true,Bool.or_eq_true,decide_eq_true_eq] at hd
     rcases hd with ⟨h1 | h1,h2⟩
     · exact agF d (.inl h1)
     · exact agF d (.inr ⟨h1,h2⟩)
   refine ObjOk.moveOn hon (p := fun d => p d && decide (d < F'.length)) ?_ ?_ (.inr rfl) (Below'.refl _ _ _ _) (R'.obj c o ho)
   · simp only [p,Bool.and_eq_true,Bool.or_eq_true,decide_eq_true_eq]
     exact ⟨hc,hlt⟩
   · exact AObj.nm_both (hM.names c o hc2 ho) hsc
 have fromF : ∀ c,wr F' c = true→wr E c = true∨(E.length≤c∧(w.heap.size≤ρ'.φ c∨∃ b0,wr E b0 = true∧ρ'.φ c = ρE.φ b0)) := fun c hc => X.wr c hc
 have φE : ∀ c,wr E c = true→ρE.φ c = ρ.φ (σ c) := fun c hc => (hH.base c (hH.own c hc).1).1
 have φE' : ∀ c,wr E c = true→ρ'.φ c = ρ.φ (σ c) := fun c hc => by
   rw [(X.agree c (.inl (wr_lt hc))).1,φE c hc]
 have cls : ∀ (b : Nat) (o : AObj), H'[b]? = some o → o = .gone ∨ (b < n ∧ H[b]? = some o ∧ (∀ c, wr E c = true → σ c ≠ b) ∧ ρ2.φ b = ρ.φ b ∧ ρ2.κ b = ρ.κ b) ∨
     (∃ c o',(c < m∨E.length≤c)∧(wr E c = true∨E.length≤c)∧F'[c]? = some o'∧o = omap τ o'∧b = τ c∧ρ2.φ b = ρ'.φ c∧o'.isRo = false) := fun b o ho => by
   have hlt := (List.getElem?_eq_some_iff.1 ho).1
   rcases Nat.lt_or_ge b n with hb | hb
   · rcases hM.old b o hb ho with h1 | ⟨c,hc,hcw,rfl,o',h2,rfl⟩ | ⟨h1,h2⟩
     · exact .inl h1
     · refine .inr (.inr ⟨c,o',.inl hc,.inl hcw,h2,rfl,(hM.low c hc).2.symm,?_,?_⟩)
       · rw [(ag _ hb).1,φE' c hcw]
       · cases hro : o'.isRo with
         | false => rfl
         | true =>
           have h3 : isRo F' c = true := by rw [isRo_of_get h2]; exact hro
           rcases X.ro c h3 with h4 | ⟨h4,_⟩
           · obtain ⟨oe,k1,k2⟩ := getWr hcw
             rw [isRo_of_get k1] at h4
             exact (not_both k2 h4).elim
           · omega
     · exact .inr (.inl ⟨hb,h1,h2,(ag b hb).1,(ag b hb).2.2⟩)
   · rw [show b = H.length + (b - n) by show b = H.length + (b - H.length); have : H.length≤b := hb; omega] at ho
     rcases hM.fresh _ o ho with h1 | ⟨o',h2,h3,h4⟩
     · exact .inl h1
     · have h5 : b < n + k := by omega
       refine .inr (.inr ⟨E.length + (b - n),o',.inr (by omega),.inr (by omega),h2,h3,?_,?_,h4⟩)
       · rw [hM.new]; show b = H.length + (b - H.length); have : H.length≤b := hb; omega
       · have h6 : ¬ b < n := by omega
         simp [ρ2,h6,h5]
 have wcls : ∀ b,wr H' b = true→(b < n∧wr H b = true∧(∀ c,wr E c = true→σ c ≠ b)∧ρ2.φ b = ρ.φ b)∨∃ c,wr F' c = true∧b = τ c∧ρ2.φ b = ρ'.φ c := fun b hb => by
   obtain ⟨o,ho,h1⟩ := getWr hb
   rcases cls b o ho with rfl | ⟨h2,h3,h4,h5,_⟩ | ⟨c,o',h2,_,h3,rfl,h5,h6,_⟩
   · cases h1
   · exact .inl ⟨h2,by rw [wr_of_get h3]; exact h1,h4,h5⟩
   · exact .inr ⟨c,by rw [wr_of_get h3,← omap_wr (σ := τ)]; exact h1,h5,h6⟩
 have rcls : ∀ b,isRo H' b = true→b < n∧isRo H b = true∧ρ2.φ b = ρ.φ b := fun b hb => by
   obtain ⟨o,ho,h1⟩ := getRo hb
   rcases cls b o ho with rfl | ⟨h2,h3,h4,h5,_⟩ | ⟨c,o',h2,_,h3,rfl,h5,h6,h7⟩
   · cases h1
   · exact ⟨h2,by rw [isRo_of_get h3]; exact h1,h5⟩
   · rw [omap_isRo,h7] at h1; cases h1
 have mcls : ∀ b,isMix H' b = true→b < n∧isMix H b = true∧ρ2.κ b = ρ.κ b := fun b hb => by
   obtain ⟨cs,ho⟩ := getMix hb
   rcases cls b _ ho with h1 | ⟨h2,h3,h4,_,h5⟩ | ⟨c,o',h2,hw2,h3,h4,h5,h6,h7⟩
   · cases h1
   · exact ⟨h2,by rw [isMix_of_get h3]; rfl,h5⟩
   · have h8 : isMix F' c = true := by rw [isMix_of_get h3,← omap_isMix (σ := τ),← h4]; rfl
     have h9 := X.mix c h8
     have h10 := isMix_lt h9
     rcases hw2 with hw2 | hw2
     · obtain ⟨oe,k1,k2⟩ := getWr hw2
       rw [isMix_of_get k1] at h9
       cases oe <;> first | (cases h9; done) | (cases k2; done)
     · omega
 have apart : ∀ b,b < n→(wr H b = true∨isRo H b = true)→(wr H b = true→∀ c,wr E c = true→σ c ≠ b)→∀ c,wr F' c = true→ρ.φ b ≠ ρ'.φ c := fun b hb hw hn c hc he => by
   have key : ∀ d,wr E d = true→ρ.φ b ≠ ρ.φ (σ d) := fun d hd he' => by
     have hd' := (hH.own d hd).2.1
     rcases hw with hw | hw
     · exact hn hw d hd (R.inj _ _ hw hd' he').symm
     · exact R.sep _ _ hw hd' he'
   rcases fromF c hc with h1 | ⟨_,h1 | ⟨d,h1,h2⟩⟩
   · exact key c h1 (by rw [he,φE' c h1])
   · have : ρ.φ b < w.heap.size := by
       rcases hw with hw | hw
       · exact R.phys_lt hw
       · exact R.ro_lt hw
     omega
   · exact key d h1 (by rw [he,h2,φE d h1])
 have hkeep : ∀ j,j < w.heap.size→(∀ c,wr E c = true→ρ.φ (σ c) ≠ j)→w'.heap[j]? = w.heap[j]? := fun j hj hn => X.keep j hj fun c hc => by rw [φE c hc]; exact hn c hc
 refine ⟨ρ2,nmap τ v',H',?_,⟨rfl,rfl⟩,⟨fun b o hb => ?_,fun b b' hb hb' he => ?_,fun b b' hb hb' => ?_,fun b b' hb hb' => ?_,fun b o hb => ?_⟩,⟨by omega,fun b hb => ?_,X.size,fun j hj hn => ?_,fun b hb => ?_,fun b hb => ?_,fun b hb => ?_,X.os,X.tape,X.output⟩,hvs⟩
 · have hon : AgreeOn (fun d => p d && decide (d < F'.length)) ρ' (ρ2.comp τ) := fun d hd => by
     simp only [p,Bool.and_eq_true,Bool.or_eq_true,decide_eq_true_eq] at hd
     rcases hd with ⟨h1 | h1,h2⟩
     · exact agF d (.inl h1)
     · exact agF d (.inr ⟨h1,h2⟩)
   rw [← ren_nmap,ren_on hon (nm_both hv s')]
 · rcases cls b o hb with rfl | ⟨h1,h2,h3,h4,_⟩ | ⟨c,o',h1,h1',h2,rfl,rfl,_,_⟩
   · trivial
   · by_cases hg : o = .gone
     · subst hg; trivial
     · have hk : ∀ j, (o.wr = true → ρ.φ b = j) → (o.isRo = true → ρ.φ b = j) → (∀ cs, o = .mix cs → j < ρ.κ b) → o.wr = true ∨ o.isRo = true ∨ o.isMix = true → j < w.heap.size → w'.heap[j]? = w.heap[j]? := fun j a1 a2 a3 a4 hj => by
         refine hkeep j hj fun c hc he => ?_
         have hc' := (hH.own c hc).2.1
         rcases a4 with a4 | a4 | a4
         · rw [← a1 a4] at he
           exact h3 c hc (R.inj _ _ hc' (by rw [wr_of_get h2]; exact a4) he)
         · rw [← a2 a4] at he
           exact R.sep _ _ (by rw [isRo_of_get h2]; exact a4) hc' he.symm
         · cases o <;> try (cases a4; done)
           have := R.deep b (σ c) (by rw [isMix_of_get h2]; rfl) hc'
           have := a3 _ rfl
           omega
       have hko : o.wr = true∨o.isRo = true∨o.isMix = true := by
         cases o <;> first | exact absurd rfl hg | exact .inl rfl | exact .inr (.inl rfl) | exact .inr (.inr rfl)
       refine (R.obj b o h2).move ag h1 (R.scp b o h2) (.inr ?_) (Below'.of X.size fun cs e j hj => ?_)
       · rcases hko with a | a | a
         · exact hk _ (fun _ => rfl) (fun _ => rfl) (fun cs e => by subst e; cases a) (.inl a) (R.phys_lt (by rw [wr_of_get h2]; exact a))
         · exact hk _ (fun _ => rfl) (fun _ => rfl) (fun cs e => by subst e; cases a) (.inr (.inl a)) (R.ro_lt (by rw [isRo_of_get h2]; exact a))
         · have hx := R.mix_lt (b := b) (by rw [isMix_of_get h2]; exact a)
           exact hk _ (fun h => by cases o <;> first | (cases a; done) | (cases h; done)) (fun h => by cases o <;> first | (cases a; done) | (cases h; done)) (fun _ _ => hx.1) (.inr (.inr a)) (Nat.lt_of_lt_of_le hx.1 hx.2)
       · subst e
         have hx := R.mix_lt (b := b) (by rw [isMix_of_get h2]; rfl)
         exact hk j (fun h => by cases h) (fun h => by cases h) (fun _ _ => hj) (.inr (.inr rfl)) (Nat.lt_of_lt_of_le hj hx.2)
   · exact out c o' h1 h1' h2
 · rcases wcls b hb with ⟨h1,h2,h3,h4⟩ | ⟨c,h1,h2,h3⟩ <;> rcases wcls b' hb' with ⟨g1,g2,g3,g4⟩ | ⟨c',g1,g2,g3⟩
   · rw [h4,g4] at he; exact R.inj _ _ h2 g2 he
   · rw [h4,g3] at he; exact absurd he (apart b h1 (.inl h2) (fun _ => h3) c' g1)
   · rw [h3,g4] at he; exact absurd he.symm (apart b' g1 (.inl g2) (fun _ => g3) c h1)
   · rw [h3,g3] at he
     have := R'.inj _ _ h1 g1 he
     rw [h2,g2,this]
 · obtain ⟨h1,h2,h3⟩ := rcls b hb
   rcases wcls b' hb' with ⟨g1,g2,g3,g4⟩ | ⟨c',g1,g2,g3⟩
   · rw [h3,g4]; exact R.sep _ _ h2 g2
   · rw [h3, g3]; exact apart b h1 (.inr h2) (fun hw => by
       obtain ⟨o1,k1,k2⟩ := getWr hw
       rw [isRo_of_get k1] at h2
       exact (not_both k2 h2).elim) c' g1
 · obtain ⟨h1,h2,h3⟩ := mcls b hb
   rw [h3]
   rcases wcls b' hb' with ⟨g1,g2,g3,g4⟩ | ⟨c',g1,g2,g3⟩
   · rw [g4]; exact R.deep _ _ h2 g2
   · rw [g3]
     rcases fromF c' g1 with k1 | ⟨_,k1 | ⟨d,k1,k2⟩⟩
     · rw [φE' c' k1]; exact R.deep _ _ h2 (hH.own c' k1).2.1
     · exact Nat.le_trans (R.mix_lt h2).2 k1
     · rw [k2,φE d k1]; exact R.deep _ _ h2 (hH.own d k1).2.1
 · rcases hM.scp b o hb with h1 | h1
   · exact AObj.sc_mono (by omega) (R.scp b o h1)
   · exact h1
 · rcases hb with hb | hb
   · exact ag b hb
   · have h1 : ¬ b < n := by omega
     have h2 : ¬ b < n + k := by omega
     simp [ρ2,h1,h2]
 · exact hkeep j hj fun c hc => hn _ (hH.own c hc).2.1
 · rcases wcls b hb with ⟨h1,h2,_⟩ | ⟨c,h1,h2,h3⟩
   · exact .inl h2
   · rcases fromF c h1 with k1 | ⟨k0,k1⟩
     · have hc := hH.own c k1
       left
       rw [h2,(hM.low c hc.1).2]; exact hc.2.1
     · refine .inr ⟨?_,?_⟩
       · have := hM.new (c - E.length)
         rw [show E.length + (c - E.length) = c by omega] at this
         rw [h2,this]; omega
       · rcases k1 with k1 | ⟨d,k1,k2⟩
         · exact .inl (by rw [h3]; exact k1)
         · exact .inr ⟨σ d,(hH.own d k1).2.1,by rw [h3,k2,φE d k1]⟩
 · exact .inl (rcls b hb).2.1
 · exact (mcls b hb).2.1
end Go.Pier
namespace Go.Pier
open Go
variable {P : Program} {H : Heap} {f : FuncId}
def setL : Heap→List Nat→Heap→Heap
 | H,b :: L,o :: r => setL (H.set b o) L r
 | H,_,_ => H
theorem setL_length : ∀ (L : List Nat) (r H : Heap),(setL H L r).length = H.length
 | [],r,H => by cases r <;> rfl
 | b :: L,[],H => rfl
 | b :: L,o :: r,H => by rw [setL,setL_length]; simp
theorem setL_get : ∀ (L : List Nat) (r H : Heap),L.length = r.length→L.Nodup→(∀ b ∈ L,b < H.length)→∀ b,(∀ (c : Nat),L[c]? = some b→(setL H L r)[b]? = r[c]?)∧(b ∉ L→(setL H L r)[b]? = H[b]?)
 | [],[],H,_,_,_,b => ⟨fun c hc => by simp at hc,fun _ => rfl⟩
 | [],o :: r,H,h,_,_,b => by cases h
 | a :: L,[],H,h,_,_,b => by cases h
 | a :: L,o :: r,H,h,hn,hl,b => by
   obtain ⟨n1,n2⟩ := List.nodup_cons.1 hn
   have hlen : L.length = r.length := by simpa using h
   have ih := setL_get L r (H.set a o) hlen n2 (fun b hb => by rw [List.length_set]; exact hl b (List.mem_cons_of_mem _ hb)) b
   rw [setL]
   refine ⟨fun c hc => ?_,fun hb => ?_⟩
   · cases c with
     | zero =>
       simp only [List.getElem?_cons_zero,Option.some.injEq] at hc
       subst hc
       rw [ih.2 n1,List.getElem?_set_self (hl _ List.mem_cons_self)]; rfl
     | succ c =>
       simp only [List.getElem?_cons_succ] at hc ⊢
       exact ih.1 c hc
   · rw [ih.2 (fun hm => hb (List.mem_cons_of_mem _ hm)),List.getElem?_set_ne (fun e => hb (by subst e; exact List.mem_cons_self))]
def nameL (L : List Nat) (e n : Nat) : Nat→Nat := fun c => if c < L.length then L.getD c 0 else n + (c - e)
theorem nameL_lt {L : List Nat} {e n c : Nat} (h : c < L.length) : nameL L e n c = L.getD c 0 := by
 unfold nameL; rw [if_pos h]
theorem nameL_ge {L : List Nat} {e n c : Nat} (h : L.length≤c) : nameL L e n c = n + (c - e) := by
 unfold nameL; rw [if_neg (by omega)]
def nodupB : List Nat→Bool
 | [] => true
 | a :: r => (!r.any (Nat.beq a)) && nodupB r
theorem nodupB_ok : ∀ {L : List Nat},nodupB L = true→L.Nodup
 | [],_ => List.nodup_nil
 | a :: r,h => by
   simp only [nodupB,Bool.and_eq_true,Bool.not_eq_true',List.any_eq_false] at h
   exact List.nodup_cons.2 ⟨fun hm => by have := h.1 a hm; simp [Nat.beq_refl] at this,nodupB_ok h.2⟩
def allB (p : Nat→Bool) : List Nat→Bool
 | [] => true
 | a :: r => p a && allB p r
theorem allB_ok {p : Nat→Bool} : ∀ {L : List Nat},allB p L = true→∀ b ∈ L,p b = true
 | [],_,b,hb => by cases hb
 | a :: r,h,b,hb => by
   simp only [allB,Bool.and_eq_true] at h
   rcases List.mem_cons.1 hb with rfl | hb
   · exact h.1
   · exact allB_ok h.2 b hb
theorem natD_of_get {L : List Nat} {c b : Nat} (h : L[c]? = some b) : L.getD c 0 = b := by rw [List.getD_eq_getElem?_getD,h]; rfl
theorem canonH2_ro : ∀ (ags : List Arg2) (b : Nat) (o : AObj),(canonH2 ags)[b]? = some o→o.wr = false∧∀ p,o.nm p = true
 | [],b,o,h => by simp [canonH2] at h
 | .val v :: r,b,o,h => canonH2_ro r b o h
 | .ints k l :: r,0,o,h => by
   simp only [canonH2,List.getElem?_cons_zero,Option.some.injEq] at h
   subst h; exact ⟨rfl,fun p => by simp [AObj.nm,nm1,nm0]⟩
 | .ints k l :: r,b + 1,o,h => canonH2_ro r b o (by simpa [canonH2] using h)
 | .hole s :: r,0,o,h => by
   simp only [canonH2,List.getElem?_cons_zero,Option.some.injEq] at h
   subst h; exact ⟨rfl,fun _ => rfl⟩
 | .hole s :: r,b + 1,o,h => canonH2_ro r b o (by simpa [canonH2] using h)
theorem Call.frameC {Et Ft N : Heap} {L : List Nat} {ags : List Arg2} {vs : List Value} {v : Value} (C : (Nat→Nat)→Prop)
   (hC : ∀ ρ w ρ1 caps,Rel ρ H w→(canonA2 caps Et.length ags).map (ren ρ1) = vs.map (ren ρ)→C caps) (hL : L.length = Et.length) (hF : Ft.length = Et.length) (hnd : L.Nodup) (hlt : ∀ b ∈ L,b < H.length)
   (hobj : ∀ (c : Nat) (o : AObj),Et[c]? = some o→H[L.getD c 0]? = some (omap (fun c => L.getD c 0) o)) (hsc : ∀ o ∈ Et,o.wr = true∧o.sc Et.length = true)
   (hargs : ReadA2 H (fun c => L.getD c 0) L Et.length ags vs)
   (h : ∀ caps,C caps→Call P f (canonA2 caps Et.length ags) (Et ++ canonH2 ags) fun v' F' => v' = v∧F' = Ft ++ canonH2 ags ++ N)
   (hnm : ∀ o ∈ Ft ++ N,o.nm (fun d => decide (d < Et.length) || decide ((Et ++ canonH2 ags).length≤d)) = true) (hro : ∀ o ∈ N,o.isRo = false)
   (hv : nm (fun d => decide (d < Et.length) || decide ((Et ++ canonH2 ags).length≤d)) v = true)
   (hscp : ∀ o ∈ Ft ++ N,(omap (nameL L (Et ++ canonH2 ags).length H.length) o).sc (H.length + N.length) = true)
   (hvs : sc (H.length + N.length) (nmap (nameL L (Et ++ canonH2 ags).length H.length) v) = true) :
   Call P f vs H (fun v' H2 => v' = nmap (nameL L (Et ++ canonH2 ags).length H.length) v∧H2 = setL H L (Ft.map (omap (nameL L (Et ++ canonH2 ags).length H.length))) ++ N.map (omap (nameL L (Et ++ canonH2 ags).length H.length))) ∧
   Kept H (setL H L (Ft.map (omap (nameL L (Et ++ canonH2 ags).length H.length))) ++ N.map (omap (nameL L (Et ++ canonH2 ags).length H.length))) L := by
 generalize hτ : nameL L (Et ++ canonH2 ags).length H.length = τ at *
 have hlen1 : (setL H L (Ft.map (omap τ))).length = H.length := setL_length _ _ _
 have hset := setL_get L (Ft.map (omap τ)) H (by rw [List.length_map,hL,hF]) hnd hlt
 have σlt : ∀ c,c < Et.length→∃ b,L[c]? = some b∧L.getD c 0 = b := fun c hc => ⟨_,List.getElem?_eq_getElem (by omega),natD_of_get (List.getElem?_eq_getElem (by omega))⟩
 have τlt : ∀ c,c < Et.length→τ c = L.getD c 0 := fun c hc => by rw [← hτ]; exact nameL_lt (by omega)
 constructor
 · refine Call.frame (σ := fun c => L.getD c 0) (B := L) (E := Et ++ canonH2 ags) (F := Ft ++ canonH2 ags ++ N) (m := Et.length) (τ := τ) (by simp) (fun ρ w R => ?_) h ?_ hv ?_
   · have hinj : ∀ b b', b < Et.length → b' < Et.length → L.getD b 0 = L.getD b' 0 → b = b' := fun b b' hb hb' he => by
       obtain ⟨x,h1,h2⟩ := σlt b hb
       obtain ⟨y,h3,h4⟩ := σlt b' hb'
       rw [h2,h4] at he
       rw [he] at h1
       exact (List.getElem?_inj (i := b) (j := b') (by omega) hnd).1 (by rw [h1,h3])
     have hB : ∀ b,b < Et.length→L.getD b 0 ∈ L := fun b hb => by
       obtain ⟨x,h1,h2⟩ := σlt b hb
       rw [h2]; exact List.mem_of_getElem? h1
     obtain ⟨ρE,hH⟩ := R.held (σ := fun c => L.getD c 0) (E := Et) (B := L) (fun b o hb => .inr (hobj b o hb)) hinj (fun b o hb => (hsc o (List.mem_of_getElem? hb)).2) hB
     obtain ⟨ρ1,caps,_,h2,h3,h4⟩ := Held.args R ags vs ρE Et hargs hH
     exact ⟨ρ1,caps,h2,h3,h4,hC ρ w ρ1 caps R h3⟩
   · refine ⟨?_,by simp; omega,fun c hc => ?_,fun j => ?_,fun b o hb ho => ?_,fun j o ho => ?_,fun c o hc ho => ?_,fun b o hb => ?_⟩
     · simp only [List.length_append,List.length_map,hlen1]; omega
     · obtain ⟨x,h1,h2⟩ := σlt c hc
       exact ⟨by show L.getD c 0 < _; rw [h2]; exact hlt _ (List.mem_of_getElem? h1),τlt c hc⟩
     · rw [← hτ,nameL_ge (by simp; omega)]; omega
     · rw [List.getElem?_append_left (by rw [hlen1]; exact hb)] at ho
       by_cases hm : b ∈ L
       · obtain ⟨c,hc⟩ := List.mem_iff_getElem?.1 hm
         have hcl : c < Et.length := by have := (List.getElem?_eq_some_iff.1 hc).1; omega
         rw [(hset b).1 c hc,List.getElem?_map,Option.map_eq_some_iff] at ho
         obtain ⟨o',h1,rfl⟩ := ho
         obtain ⟨oe,he⟩ : ∃ oe,Et[c]? = some oe := ⟨_,List.getElem?_eq_getElem hcl⟩
         have hw : wr (Et ++ canonH2 ags) c = true := by
           rw [wr_of_get (o := oe) (by rw [List.getElem?_append_left hcl]; exact he)]
           exact (hsc oe (List.mem_of_getElem? he)).1
         exact .inr (.inl ⟨c,hcl,hw,natD_of_get hc,o',by rw [List.append_assoc,List.getElem?_append_left (by omega)]; exact h1,rfl⟩)
       · rw [(hset b).2 hm] at ho
         refine .inr (.inr ⟨ho,fun c hc he => hm ?_⟩)
         have hc' : c < Et.length := by
           rcases Nat.lt_or_ge c Et.length with h1 | h1
           · exact h1
           · obtain ⟨o1,k1,k2⟩ := getWr hc
             rw [List.getElem?_append_right h1] at k1
             rw [(canonH2_ro ags _ _ k1).1] at k2; cases k2
         obtain ⟨x,h1,h2⟩ := σlt c hc'
         have he' : L.getD c 0 = b := he
         rw [← he',h2]; exact List.mem_of_getElem? h1
     · rw [List.getElem?_append_right (by rw [hlen1]; omega),hlen1,List.getElem?_map,Option.map_eq_some_iff] at ho
       obtain ⟨o',h1,rfl⟩ := ho
       rw [show H.length + j - H.length = j by omega] at h1
       refine .inr ⟨o',?_,rfl,hro o' (List.mem_of_getElem? h1)⟩
       rw [List.getElem?_append_right (by simp; omega)]
       rw [show (Et ++ canonH2 ags).length + j - (Ft ++ canonH2 ags).length = j by simp; omega]
       exact h1
     · rcases Nat.lt_or_ge c Ft.length with h1 | h1
       · rw [List.append_assoc,List.getElem?_append_left h1] at ho
         exact hnm o (List.mem_append_left _ (List.mem_of_getElem? ho))
       · rcases Nat.lt_or_ge c (Ft ++ canonH2 ags).length with h2 | h2
         · rw [List.getElem?_append_left h2,List.getElem?_append_right h1] at ho
           exact (canonH2_ro ags _ _ ho).2 _
         · rw [List.getElem?_append_right h2] at ho
           exact hnm o (List.mem_append_right _ (List.mem_of_getElem? ho))
     · have hl2 : (setL H L (Ft.map (omap τ)) ++ N.map (omap τ)).length = H.length + N.length := by simp [hlen1]
       rw [hl2]
       rcases Nat.lt_or_ge b H.length with h1 | h1
       · rw [List.getElem?_append_left (by rw [hlen1]; exact h1)] at hb
         by_cases hm : b ∈ L
         · obtain ⟨c,hc⟩ := List.mem_iff_getElem?.1 hm
           rw [(hset b).1 c hc,List.getElem?_map,Option.map_eq_some_iff] at hb
           obtain ⟨o',h2,rfl⟩ := hb
           exact .inr (hscp o' (List.mem_append_left _ (List.mem_of_getElem? h2)))
         · rw [(hset b).2 hm] at hb; exact .inl hb
       · rw [List.getElem?_append_right (by rw [hlen1]; exact h1),List.getElem?_map,Option.map_eq_some_iff] at hb
         obtain ⟨o',h2,rfl⟩ := hb
         exact .inr (hscp o' (List.mem_append_right _ (List.mem_of_getElem? h2)))
   · rw [show (setL H L (Ft.map (omap τ)) ++ N.map (omap τ)).length = H.length + N.length by simp [hlen1]]
     exact hvs
 · refine ⟨by simp [hlen1],fun b hb hn => ?_⟩
   rw [List.getElem?_append_left (by rw [hlen1]; exact hb),(hset b).2 hn]
theorem Call.frameL {Et Ft N : Heap} {L : List Nat} {ags : List Arg2} {vs : List Value} {v : Value} (hL : L.length = Et.length) (hF : Ft.length = Et.length) (hnd : L.Nodup) (hlt : ∀ b ∈ L,b < H.length)
   (hobj : ∀ (c : Nat) (o : AObj),Et[c]? = some o→H[L.getD c 0]? = some (omap (fun c => L.getD c 0) o)) (hsc : ∀ o ∈ Et,o.wr = true∧o.sc Et.length = true)
   (hargs : ReadA2 H (fun c => L.getD c 0) L Et.length ags vs)
   (h : ∀ caps,Call P f (canonA2 caps Et.length ags) (Et ++ canonH2 ags) fun v' F' => v' = v∧F' = Ft ++ canonH2 ags ++ N)
   (hnm : ∀ o ∈ Ft ++ N,o.nm (fun d => decide (d < Et.length) || decide ((Et ++ canonH2 ags).length≤d)) = true) (hro : ∀ o ∈ N,o.isRo = false)
   (hv : nm (fun d => decide (d < Et.length) || decide ((Et ++ canonH2 ags).length≤d)) v = true)
   (hscp : ∀ o ∈ Ft ++ N,(omap (nameL L (Et ++ canonH2 ags).length H.length) o).sc (H.length + N.length) = true)
   (hvs : sc (H.length + N.length) (nmap (nameL L (Et ++ canonH2 ags).length H.length) v) = true) :
   Call P f vs H (fun v' H2 => v' = nmap (nameL L (Et ++ canonH2 ags).length H.length) v∧H2 = setL H L (Ft.map (omap (nameL L (Et ++ canonH2 ags).length H.length))) ++ N.map (omap (nameL L (Et ++ canonH2 ags).length H.length))) ∧
   Kept H (setL H L (Ft.map (omap (nameL L (Et ++ canonH2 ags).length H.length))) ++ N.map (omap (nameL L (Et ++ canonH2 ags).length H.length))) L :=
 Call.frameC (fun _ => True) (fun _ _ _ _ _ _ => trivial) hL hF hnd hlt hobj hsc hargs (fun caps _ => h caps) hnm hro hv hscp hvs
end Go.Pier
namespace Go.Pier
open Go
variable {P : Program} {H H' : Heap}
end Go.Pier
namespace Go.Pier
open Go
variable {P : Program} {H : Heap} {f : FuncId}
def Arg.two : Arg→Arg2
 | .plain v => .val v
 | .ints k l => .ints k l
 | .hole s => .hole s
theorem canonA_two (caps : Nat→Nat) : ∀ (i : Nat) (r : List Arg),canonA2 caps i (r.map Arg.two) = canonA caps i r
 | _,[] => rfl
 | i,.plain v :: r => by rw [List.map_cons,Arg.two,canonA2,canonA,canonA_two caps i r]
 | i,.ints k l :: r => by rw [List.map_cons,Arg.two,canonA2,canonA,canonA_two caps (i + 1) r]
 | i,.hole s :: r => by rw [List.map_cons,Arg.two,canonA2,canonA,canonA_two caps (i + 1) r]
theorem canonH_two : ∀ (r : List Arg),canonH2 (r.map Arg.two) = canonH r
 | [] => rfl
 | .plain v :: r => by rw [List.map_cons,Arg.two,canonH2,canonH,canonH_two r]
 | .ints k l :: r => by rw [List.map_cons,Arg.two,canonH2,canonH,canonH_two r]
 | .hole s :: r => by rw [List.map_cons,Arg.two,canonH2,canonH,canonH_two r]
theorem nmap0_closed {σ : Nat→Nat} {v : Value} (h : sc0 0 v = true) : nmap0 σ v = v := by
 unfold sc0 at h
 split at h <;> simp_all [nmap0]
theorem nmapA_closed {σ : Nat→Nat} {v : Value} (h : scA 0 v = true) : nmapA σ v = v := by
 simp only [scA,Bool.or_eq_true] at h
 rcases h with h | h
 · have : nmapA σ v = nmap0 σ v := by cases v <;> first | rfl | (simp [sc0] at h)
   rw [this,nmap0_closed h]
 · cases v <;> simp only [aggAll,Bool.false_eq_true] at h
   simp only [nmapA]
   rw [map_id_all (fun _ => nmap0_closed) _ h]
theorem nmap1_closed {σ : Nat→Nat} {v : Value} (h : sc1 0 v = true) : nmap1 σ v = v := by
 unfold sc1 at h
 split at h
 · simp only [Bool.and_eq_true] at h
   simp only [nmap1,nmapFn]
   rw [map_id_all (fun _ => nmapA_closed) _ h.1,map_id_all (fun _ => nmap0_closed) _ h.2]
 · simp at h
 · have : nmap1 σ v = nmap0 σ v := by cases v <;> first | rfl | (simp [sc0] at h)
   rw [this,nmap0_closed h]
theorem nmap2_closed {σ : Nat→Nat} {v : Value} (h : sc2 0 v = true) : nmap2 σ v = v := by
 unfold sc2 at h
 split at h
 · simp only [nmap2]; rw [map_id_all (fun _ => nmap1_closed) _ h]
 · have : nmap2 σ v = nmap1 σ v := by cases v <;> first | rfl | (simp [sc1,sc0] at h) | (rename_i h1 _; exact absurd rfl (h1 _))
   rw [this,nmap1_closed h]
theorem nmap_closed {σ : Nat→Nat} {v : Value} (h : sc 0 v = true) : nmap σ v = v := by
 unfold sc at h
 split at h
 · simp only [nmap]; rw [map_id_all (fun _ => nmap2_closed) _ h]
 · have : nmap σ v = nmap2 σ v := by cases v <;> first | rfl | (simp [sc2,sc1,sc0] at h) | (rename_i h1; exact absurd rfl (h1 _))
   rw [this,nmap2_closed h]
theorem nm0_closed {p : Nat→Bool} {v : Value} (h : sc0 0 v = true) : nm0 p v = true := by
 unfold sc0 at h
 split at h <;> simp_all [nm0]
theorem nmA_closed {p : Nat→Bool} {v : Value} (h : scA 0 v = true) : nmA p v = true := by
 simp only [scA,Bool.or_eq_true] at h
 rcases h with h | h
 · have : nmA p v = nm0 p v := by cases v <;> first | rfl | (simp [sc0] at h)
   rw [this,nm0_closed h]
 · cases v <;> simp only [aggAll,Bool.false_eq_true] at h
   simp only [nmA]
   exact all_mono (fun _ => nm0_closed) _ h
theorem nm1_closed {p : Nat→Bool} {v : Value} (h : sc1 0 v = true) : nm1 p v = true := by
 unfold sc1 at h
 split at h
 · simp only [Bool.and_eq_true] at h
   simp only [nm1,Bool.and_eq_true]
   exact ⟨rfl,all_mono (fun u hu => nmA_closed hu) _ h.1,all_mono (fun _ => nm0_closed) _ h.2⟩
 · simp at h
 · have : nm1 p v = nm0 p v := by cases v <;> first | rfl | (simp [sc0] at h)
   rw [this,nm0_closed h]
theorem nm2_closed {p : Nat→Bool} {v : Value} (h : sc2 0 v = true) : nm2 p v = true := by
 unfold sc2 at h
 split at h
 · simp only [nm2]; exact all_mono (fun _ => nm1_closed) _ h
 · have : nm2 p v = nm1 p v := by cases v <;> first | rfl | (simp [sc1,sc0] at h) | (rename_i h1 _; exact absurd rfl (h1 _))
   rw [this,nm1_closed h]
theorem nm_closed {p : Nat→Bool} {v : Value} (h : sc 0 v = true) : nm p v = true := by
 unfold sc at h
 split at h
 · simp only [nm]; exact all_mono (fun _ => nm2_closed) _ h
 · have : nm p v = nm2 p v := by cases v <;> first | rfl | (simp [sc2,sc1,sc0] at h) | (rename_i h1; exact absurd rfl (h1 _))
   rw [this,nm2_closed h]
theorem read_two {B : List Nat} (hB : B = []) {σ : Nat→Nat} : ∀ {r : List Arg} {vs : List Value},ReadA H r vs→ReadA2 H σ B 0 (r.map Arg.two) vs
 | [],[],_ => trivial
 | .plain u :: r,v :: vs,h => ⟨by rw [h.1,nmap_closed h.2.1],by rw [h.1]; exact h.2.1,read_two hB h.2.2⟩
 | .ints k l :: r,v :: vs,h => ⟨h.1,fun b _ hm => (by rw [hB] at hm; cases hm),read_two hB h.2⟩
 | .hole s :: r,v :: vs,h => ⟨h.1,read_two hB h.2⟩
structure Fresh where
 ask : Prop
 val : Nat→Value
 new : Nat→Heap
structure Fresh.Good (s : Fresh) : Prop where
 val : ∀ e n,nmap (fun c => n + (c - e)) (s.val e) = s.val n
 new : ∀ e n,(s.new e).map (omap fun c => n + (c - e)) = s.new n
 ro : ∀ n,∀ o ∈ s.new n,o.isRo = false
 nmv : ∀ n,nm (fun d => decide (n≤d)) (s.val n) = true
 nmn : ∀ n,∀ o ∈ s.new n,o.nm (fun d => decide (n≤d)) = true
 scv : ∀ n,sc (n + (s.new n).length) (s.val n) = true
 scn : ∀ n,∀ o ∈ s.new n,o.sc (n + (s.new n).length) = true
theorem nm_weak {e : Nat} : (fun d => decide (d < 0) || decide (e≤d)) = fun d => decide (e≤d) := by
 funext d; simp
theorem nameL_nil {e n : Nat} : nameL [] e n = fun c => n + (c - e) := by
 funext c; unfold nameL; simp
theorem Fresh.call {s : Fresh} (g : s.Good) {r : List Arg} {args : List Value} (h4 : ∀ caps,Call P f (canonA caps 0 r) (canonH r) fun v H' => v = s.val (canonH r).length∧H' = canonH r ++ s.new (canonH r).length) (hR : ReadA H r args) :
   Call P f args H (fun v' H2 => v' = s.val H.length∧H2 = H ++ s.new H.length)∧Kept H (H ++ s.new H.length) [] := by
 refine ⟨?_,Kept.append _ _ _⟩
 have h5 : ∀ caps,Call P f (canonA2 caps 0 (r.map Arg.two)) ([] ++ canonH2 (r.map Arg.two)) fun v' F' => v' = s.val (canonH r).length∧F' = [] ++ canonH2 (r.map Arg.two) ++ s.new (canonH r).length := fun caps => by
   rw [canonA_two,canonH_two,List.nil_append]; exact h4 caps
 have := Call.frameL (P := P) (f := f) (H := H) (Et := []) (Ft := []) (N := s.new (canonH r).length) (L := []) (ags := r.map Arg.two) (vs := args) (v := s.val (canonH r).length) rfl rfl (by simp) (fun _ h => by cases h) (fun c o h => by simp at h) (fun _ h => by cases h)
   (read_two rfl hR) h5
   (by rw [List.nil_append,List.nil_append,canonH_two]; simp only [List.length_nil,nm_weak]; exact g.nmn _)
   (g.ro _)
   (by rw [List.nil_append,canonH_two]; simp only [List.length_nil,nm_weak]; exact g.nmv _)
   (by
     rw [List.nil_append,List.nil_append,canonH_two,nameL_nil]
     intro o ho
     have hm := List.mem_map_of_mem (f := omap fun c => H.length + (c - (canonH r).length)) ho
     rw [g.new] at hm
     have := g.scn H.length _ hm
     rw [show (s.new (canonH r).length).length = (s.new H.length).length by rw [← g.new (canonH r).length H.length,List.length_map]]
     exact this)
   (by
     rw [List.nil_append,canonH_two,nameL_nil,g.val]
     have := g.scv H.length
     rw [show (s.new (canonH r).length).length = (s.new H.length).length by rw [← g.new (canonH r).length H.length,List.length_map]]
     exact this)
 rw [List.nil_append,canonH_two,nameL_nil,g.val,g.new] at this
 exact this.1
end Go.Pier
namespace Go.Pier
open Go
variable {P : Program} {H : Heap}
structure MapC where
 f : FuncId
 args : List Value
 es : List MapEntry
 ck : Nat
 v : Value
 es2 : List MapEntry
 ck2 : Nat
def entB (es : List MapEntry) : Bool := es.all fun e => sc2 0 e.key && sc2 0 e.val
def MapC.plain (p : MapC) : Bool := p.args.all (sc 0) && (sc 0 p.v && (entB p.es && entB p.es2))
def MapC.Ok (P : Program) (p : MapC) : Prop := Call P p.f (.map (some 0) :: p.args) [.map p.es p.ck] (fun v' H2 => v' = p.v∧H2 = [.map p.es2 p.ck2])∧p.plain = true
theorem MapC.ok_ev {p : MapC} {tbl : Tbl} (ht : TblOk P tbl) {n : Nat} (h : (gcFun (evFunT P (evCT P tbl n none)) p.f (.map (some 0) :: p.args) [.map p.es p.ck]).map (fun r => (r.1,r.2.1)) = some (p.v,[.map p.es2 p.ck2])) (hp : p.plain = true) : p.Ok P := by
 rw [Option.map_eq_some_iff] at h
 obtain ⟨⟨v,H2,l⟩,h1,h2⟩ := h
 cases h2
 exact ⟨(ExactC.ok_ev (p := ⟨p.f,.map (some 0) :: p.args,[.map p.es p.ck],p.v,[.map p.es2 p.ck2],l⟩) ht h1).1,hp⟩
theorem canonA2_vals {caps : Nat→Nat} : ∀ {l : List Value} {i : Nat},canonA2 caps i (l.map Arg2.val) = l
 | [],_ => rfl
 | v :: l,i => by rw [List.map_cons,canonA2,canonA2_vals]
theorem canonH2_vals : ∀ {l : List Value},canonH2 (l.map Arg2.val) = []
 | [] => rfl
 | v :: l => by rw [List.map_cons,canonH2,canonH2_vals]
theorem read_vals {σ : Nat→Nat} {B : List Nat} {m : Nat} : ∀ {l : List Value},l.all (sc 0) = true→ReadA2 H σ B m (l.map Arg2.val) l
 | [],_ => trivial
 | v :: l,h => by
   rw [List.all_cons,Bool.and_eq_true] at h
   exact ⟨(nmap_closed h.1).symm,sc_mono (Nat.zero_le _) h.1,read_vals h.2⟩
theorem omap_ent {σ : Nat→Nat} {es : List MapEntry} {ck : Nat} (h : entB es = true) : omap σ (.map es ck) = .map es ck := by
 simp only [omap]
 have : (es.map fun e => { e with val := nmap2 σ e.val }) = es.map id := List.map_congr_left fun e he => by
   have := List.all_eq_true.1 h e he
   rw [Bool.and_eq_true] at this
   simp only [nmap2_closed this.2,id]
 rw [this,List.map_id]
theorem sc2_up {n : Nat} {v : Value} (h : sc2 0 v = true) : sc2 n v = true := sc2_mono (Nat.zero_le n) h
theorem sc_ent {n : Nat} {es : List MapEntry} {ck : Nat} (h : entB es = true) : AObj.sc n (.map es ck) = true := by
 simp only [AObj.sc]
 refine List.all_eq_true.2 fun e he => ?_
 have := List.all_eq_true.1 h e he
 rw [Bool.and_eq_true] at this ⊢
 exact ⟨this.1,sc2_up this.2⟩
theorem MapC.call {p : MapC} (h : p.Ok P) {r : Nat} (hr : H[r]? = some (.map p.es p.ck)) :
   Call P p.f (.map (some r) :: p.args) H (fun v' H2 => v' = p.v∧H2 = H.set r (.map p.es2 p.ck2))∧Kept H (H.set r (.map p.es2 p.ck2)) [r] := by
 obtain ⟨h,hp⟩ := h
 unfold MapC.plain at hp
 simp only [Bool.and_eq_true] at hp
 obtain ⟨h1,h2,h3,h4⟩ := hp
 have hlt := (List.getElem?_eq_some_iff.1 hr).1
 have := Call.frameL (P := P) (f := p.f) (H := H) (Et := [.map p.es p.ck]) (Ft := [.map p.es2 p.ck2]) (N := []) (L := [r]) (ags := .val (.map (some 0)) :: p.args.map Arg2.val) (vs := .map (some r) :: p.args) (v := p.v) rfl rfl (by simp)
   (fun b hb => by rw [List.mem_singleton.1 hb]; exact hlt)
   (fun c o hc => by
     cases c with
     | zero => cases hc; rw [omap_ent h3]; exact hr
     | succ c => simp at hc)
   (fun o ho => by rw [List.mem_singleton.1 ho]; exact ⟨rfl,sc_ent h3⟩)
   ⟨by simp [nmap,nmap2,nmap1,nmap0],by simp [sc,sc2,sc1,sc0],read_vals h1⟩
   (fun caps => by rw [canonA2,canonA2_vals,canonH2,canonH2_vals]; exact h)
   (fun o ho => by
     rw [List.append_nil] at ho
     rw [List.mem_singleton.1 ho]
     simp only [AObj.nm]
     refine List.all_eq_true.2 fun e he => ?_
     have := List.all_eq_true.1 h4 e he
     rw [Bool.and_eq_true] at this
     exact nm2_closed this.2)
   (fun o ho => by cases ho)
   (nm_closed h2)
   (fun o ho => by
     rw [List.append_nil] at ho
     rw [List.mem_singleton.1 ho,omap_ent h4]
     exact sc_ent h4)
   (by rw [nmap_closed h2]; exact sc_mono (Nat.zero_le _) h2)
 rw [nmap_closed h2,List.map_singleton,omap_ent h4,List.map_nil,List.append_nil] at this
 exact this
end Go.Pier
namespace Go.Pier
open Go
variable {P : Program} {H : Heap}
structure FrmC where
 f : FuncId
 args : List Value
 E : Heap
 v : Value
 F : Heap
 N : Heap
def tt' : Nat→Bool := fun _ => true
def FrmC.chk (p : FrmC) : Bool := Nat.beq p.F.length p.E.length && (p.E.all (fun o => o.wr && o.sc p.E.length) && (p.args.all (sc p.E.length) && ((p.F ++ p.N).all (fun o => o.nm tt') && (p.N.all (fun o => !o.isRo) && nm tt' p.v))))
def FrmC.Ok (P : Program) (p : FrmC) : Prop := Call P p.f p.args p.E (fun v' F' => v' = p.v∧F' = p.F ++ p.N)∧p.chk = true
theorem FrmC.ok_ev {p : FrmC} {tbl : Tbl} (ht : TblOk P tbl) {n : Nat} (h : (gcFun (evFunT P (evCT P tbl n none)) p.f p.args p.E).map (fun r => (r.1,r.2.1)) = some (p.v,p.F ++ p.N)) (hp : p.chk = true) : p.Ok P := by
 rw [Option.map_eq_some_iff] at h
 obtain ⟨⟨v,H2,l⟩,h1,h2⟩ := h
 cases h2
 exact ⟨(ExactC.ok_ev (p := ⟨p.f,p.args,p.E,p.v,p.F ++ p.N,l⟩) ht h1).1,hp⟩
def valNames : Value→List Nat
 | .slice (some a) _ _ => [a.block]
 | .pointer (some a) => [a.block]
 | .agg cs => cs.toList.flatMap fun | .slice (some a) _ _ => [a.block] | .pointer (some a) => [a.block] | _ => []
 | _ => []
def dedup : List Nat→List Nat→List Nat
 | acc,[] => acc.reverse
 | acc,b :: r => match acc.any (Nat.beq b) with
   | true => dedup acc r
   | false => dedup (b :: acc) r
def objsB (σ : Nat→Nat) (H : Heap) : List Nat→Heap→Bool
 | [],[] => true
 | b :: L,o :: E => (match H[b]? with | some o' => oeq o' (omap σ o) | none => false) && objsB σ H L E
 | _,_ => false
theorem objsB_ok {σ : Nat→Nat} : ∀ {L : List Nat} {E : Heap},objsB σ H L E = true→∀ (c : Nat) (o : AObj),E[c]? = some o→H[L.getD c 0]? = some (omap σ o)
 | [],[],_,c,o,h => by simp at h
 | [],_ :: _,h,_,_,_ => by cases h
 | _ :: _,[],h,_,_,_ => by cases h
 | b :: L,o' :: E,h,c,o,hc => by
   simp only [objsB,Bool.and_eq_true] at h
   cases c with
   | zero =>
     simp only [List.getElem?_cons_zero,Option.some.injEq] at hc
     subst hc
     have h1 := h.1
     split at h1
     · rename_i o2 ho; rw [show (b :: L).getD 0 0 = b from rfl,ho,oeq_eq h1]
     · cases h1
   | succ c =>
     simp only [List.getElem?_cons_succ] at hc
     exact objsB_ok h.2 c o hc
theorem any_nm {m e : Nat} (he : e = m) : (fun d => decide (d < m) || decide (e≤d)) = tt' := by
 subst he
 funext d
 simp only [tt',Bool.or_eq_true,decide_eq_true_eq]
 by_cases h : d < e
 · simp [h]
 · simp [h]; omega
theorem read_sc {σ : Nat→Nat} {B : List Nat} {m : Nat} : ∀ {l : List Value},l.all (sc m) = true→ReadA2 H σ B m (l.map Arg2.val) (l.map (nmap σ))
 | [],_ => trivial
 | v :: l,h => by
   rw [List.all_cons,Bool.and_eq_true] at h
   exact ⟨rfl,h.1,read_sc h.2⟩
end Go.Pier
namespace Go.Pier
open Go
variable {P : Program} {H : Heap}
def quickV : Value→Value→Bool
 | .int k n,v => veq (.int k n) v
 | .bool b,v => veq (.bool b) v
 | _,_ => true
def quickC : List Value→List Value→Bool
 | a :: l,b :: r => match quickV a b with
   | true => quickC l r
   | false => false
 | _,_ => true
def quick1 : Value→Value→Bool
 | .agg cs,.agg ds => quickC cs.toList ds.toList
 | a,b => quickV a b
def quickL : List Value→List Value→Bool
 | a :: l,b :: r => match quick1 a b with
   | true => quickL l r
   | false => false
 | _,_ => true
def cellNames (H : Heap) (b : Nat) : List Nat := match H[b]? with
 | some (AObj.rw cs _) => cs.flatMap fun (v : Value) => match v with | .map (some r) => [r] | v => valNames v
 | _ => []
def stepNames (H : Heap) (L : List Nat) : List Nat := dedup [] (L ++ L.flatMap (cellNames H))
def frmNamesD (args : List Value) (H : Heap) : List Nat := stepNames H (stepNames H (args.flatMap valNames))
def FrmC.goD (p : FrmC) (args : List Value) (H : Heap) : Option (Value × Heap × List Nat) :=
 match quickL p.args args with
 | false => none
 | true =>
 let L := frmNamesD args H
 let τ := nameL L p.E.length H.length
 match Nat.beq L.length p.E.length && (nodupB L && (allB (fun b => Nat.blt b H.length) L && (listB veq (p.args.map (nmap fun c => L.getD c 0)) args && (objsB (fun c => L.getD c 0) H L p.E &&
     (((p.F ++ p.N).all fun o => (omap τ o).sc (H.length + p.N.length)) && sc (H.length + p.N.length) (nmap τ p.v)))))) with
 | true => some (nmap τ p.v,setL H L (p.F.map (omap τ)) ++ p.N.map (omap τ),L)
 | false => none
theorem FrmC.goD_ok {p : FrmC} (h : p.Ok P) {args : List Value} {v : Value} {H' : Heap} {l : List Nat} (hg : p.goD args H = some (v,H',l)) : Call P p.f args H (fun v' H2 => v' = v∧H2 = H')∧Kept H H' l := by
 obtain ⟨hcall,hc⟩ := h
 unfold FrmC.chk at hc
 simp only [Bool.and_eq_true,List.all_eq_true,Bool.not_eq_true'] at hc
 obtain ⟨c1,c2,c3,c4,c5,c6⟩ := hc
 have c1 := Nat.eq_of_beq_eq_true c1
 unfold FrmC.goD at hg
 split at hg <;> try (cases hg; done)
 dsimp only at hg
 split at hg <;> cases hg
 rename_i hk
 simp only [Bool.and_eq_true,List.all_eq_true] at hk
 obtain ⟨k1,k2,k3,k4,k5,k6,k7⟩ := hk
 have k1 := Nat.eq_of_beq_eq_true k1
 have ka := listB_eq (fun _ _ => veq_eq) k4
 have e0 : canonH2 (p.args.map Arg2.val) = [] := canonH2_vals
 have := Call.frameL (P := P) (f := p.f) (H := H) (Et := p.E) (Ft := p.F) (N := p.N) (L := frmNamesD args H) (ags := p.args.map Arg2.val) (vs := args) (v := p.v) k1 c1 (nodupB_ok k2)
   (fun b hb => by have := allB_ok k3 b hb; rw [Nat.blt_eq] at this; exact this)
   (objsB_ok k5) (fun o ho => by have := c2 o ho; simpa using this)
   (by
     have := read_sc (H := H) (σ := fun c => (frmNamesD args H).getD c 0) (B := frmNamesD args H) (List.all_eq_true.2 c3)
     rw [ka] at this; exact this)
   (fun caps => by rw [canonA2_vals,e0,List.append_nil,List.append_nil]; exact hcall)
   (fun o ho => by rw [e0,List.append_nil,any_nm rfl]; exact c4 o ho)
   c5
   (by rw [e0,List.append_nil,any_nm rfl]; exact c6)
   (fun o ho => by rw [e0,List.append_nil]; exact k6 o ho)
   (by rw [e0,List.append_nil]; exact k7)
 rw [e0,List.append_nil] at this
 exact this
def frmFindD : List FrmC→FuncId→List Value→Heap→Option (Value × Heap × List Nat)
 | [],_,_,_ => none
 | p :: l,f,args,H => match Nat.beq p.f f with
   | true => match p.goD args H with
     | some q => some q
     | none => frmFindD l f args H
   | false => frmFindD l f args H
theorem frmFindD_ok {f : FuncId} {args : List Value} {v : Value} {H' : Heap} {lg : List Nat} : ∀ {l : List FrmC},(∀ p ∈ l,p.Ok P)→frmFindD l f args H = some (v,H',lg)→Call P f args H (fun v' H2 => v' = v∧H2 = H')∧Kept H H' lg
 | [],_,h => by cases h
 | p :: l,hl,h => by
   unfold frmFindD at h
   split at h
   · rename_i hf
     obtain rfl := Nat.eq_of_beq_eq_true hf
     split at h
     · rename_i hq
       cases h
       exact FrmC.goD_ok (hl p List.mem_cons_self) hq
     · exact frmFindD_ok (fun q hq => hl q (List.mem_cons_of_mem _ hq)) h
   · exact frmFindD_ok (fun q hq => hl q (List.mem_cons_of_mem _ hq)) h
def frmTblD (l : List FrmC) (tbl : Tbl) : Tbl := fun f => match (l.any fun p => Nat.beq p.f f) with
 | true => some fun args H => match frmFindD l f args H with
   | some q => some q
   | none => match tbl f with
     | some g => g args H
     | none => none
 | false => tbl f
theorem frmTblD_ok {l : List FrmC} {tbl : Tbl} (hl : ∀ p ∈ l,p.Ok P) (ht : TblOk P tbl) : TblOk P (frmTblD l tbl) := by
 intro f g hg args H v H' lg h
 unfold frmTblD at hg
 split at hg
 · cases hg
   simp only at h
   split at h
   · rename_i hq
     cases h
     exact frmFindD_ok hl hq
   · split at h <;> try (cases h; done)
     rename_i g hg
     exact ht f g hg args H v H' lg h
 · exact ht f g hg args H v H' lg h
theorem frms_nil : ∀ p ∈ ([] : List FrmC),p.Ok P := fun _ h => by cases h
theorem frms_cons {p : FrmC} {l : List FrmC} (h : p.Ok P) (hl : ∀ q ∈ l,q.Ok P) : ∀ q ∈ p :: l,q.Ok P := List.forall_mem_cons.2 ⟨h,hl⟩
end Go.Pier
namespace Go.Pier
open Go
variable {P : Program} {ρ : Ren} {H H' : Heap} {w : World} {f : FuncId}
def Flat (cs : List Value) : Prop := cs.all (sc1 0) = true
inductive Leaf where
 | plain (v : Value)
 | view (cs : List Value) (n : Nat) (r : Bool)
 | hole (s : Option Nat)
 | deep (cs : List MCell) (n : Nat)
inductive Arg3 where
 | one (l : Leaf)
 | agg (ls : List Leaf)
theorem Rel.nil (R : Rel ρ H w) : Rel ρ [] w := ⟨fun b o hb => by simp at hb,fun b b' hb => by simp [wr] at hb,fun b b' hb => by simp [isRo] at hb,fun b b' hb => by simp [isMix] at hb,fun b o hb => by simp at hb⟩
end Go.Pier
namespace Go.Pier
open Go
variable {P : Program} {ρ : Ren} {H H' : Heap} {w : World} {f : FuncId} {K : Type}
inductive CK where
 | i (k : IntKind)
 | b
inductive DK where
 | c (k : CK)
 | rows (ks : List CK)
inductive LK where
 | int (k : IntKind)
 | bool
 | rows (ks : List CK) (r : Bool)
 | deep (ks : List DK)
inductive K3 where
 | one (l : LK)
 | agg (ls : List LK)
def CK.at : CK→List Value→Nat→Prop
 | .i k,cs,x => IntAt k cs x∧(Lit.int k (getI cs x)).wf = true
 | .b,cs,x => BoolAt cs x
def CK.val : CK→List Value→Nat→Value
 | .i k,cs,x => .int k (getI cs x)
 | .b,cs,x => .bool (getB cs x)
def CK.ask : CK→List Value→Nat→Prop
 | .i k,cs,x => IntAt k cs x
 | .b,cs,x => BoolAt cs x
structure RowsOk (ks : List CK) (cs : List Value) (n : Nat) : Prop where
 pos : 0 < n
 max : n≤maxLen
 len : cs.length = n * ks.length
 flat : Flat cs
 at_ : ∀ i,i < n→∀ (j : Nat) (c : CK),ks[j]? = some c→c.at cs (i * ks.length + j)
def DK.at : DK→List MCell→Nat→Prop
 | .c (.i k),cs,x => ∃ n,cs[x]? = some (.val (.int k n))∧(Lit.int k n).wf = true
 | .c .b,cs,x => ∃ b,cs[x]? = some (.val (.bool b))
 | .rows ks,cs,x => cs[x]? = some .null∨cs[x]? = some .spot∨(∃ c,cs[x]? = some (.void c))∨∃ r n c,cs[x]? = some (.row r n c)∧RowsOk ks r n∧n≤c
structure Born where
 ask : Prop
 val : Nat→Value
 N : Heap
structure Born.Good (s : Born) : Prop where
 plain : plainNew s.N
 alike : ∀ ρ b ρ' c,Alike s.N.length ρ b ρ' c→ren ρ (s.val b) = ren ρ' (s.val c)
 scp : ∀ n,sc (n + s.N.length) (s.val n) = true
end Go.Pier
namespace Go.Pier
open Go
variable {P : Program} {H : Heap} {f : FuncId}
end Go.Pier
namespace Go.Pier
open Go
variable {P : Program} {H H' : Heap} {K : Type} [DecidableEq K] {g : K→Prop} {kv : K→Value}
omit [DecidableEq K] in
theorem erase_mapG {α β : Type} (f : α→β) : ∀ (l : List α) (i : Nat),(l.map f).eraseIdx i = (l.eraseIdx i).map f
 | [],_ => rfl
 | _ :: _,0 => rfl
 | a :: l,i + 1 => by simp only [List.map_cons,List.eraseIdx_cons_succ,erase_mapG f l i]
structure KeyOk (P : Program) (kt : TypeId) (g : K→Prop) (kv : K→Value) : Prop where
 eq : ∀ a b,g a→g b→pureRun P (Op.equal kt (kv a) (kv b)) = some (decide (a = b))
 now : ∃ d,P.underlying kt = some d∧∀ a b,g a→g b→Instr.sameNow d (kv a) (kv b) = none
 chk : ∀ e a,g a→pureRun P (Instr.checkKey e 10000 kt (kv a)) = some ()
 bits : ∀ a,g a→Instr.sameBits 10000 (kv a) (kv a) = true
 sc : ∀ a,g a→sc2 0 (kv a) = true
abbrev Ent (K : Type) := K × Int × Nat
def mkE (kv : K→Value) (x : Ent K) : MapEntry := { key := kv x.1,val := .int .i64 x.2.1,born := x.2.2 }
def ent (kv : K→Value) (L : List (Ent K)) : List MapEntry := L.map (mkE kv)
def unE (uk : Value→K) (e : MapEntry) : Ent K := (uk e.key,intOf e.val,e.born)
def un (uk : Value→K) (es : List MapEntry) : List (Ent K) := es.map (unE uk)
omit [DecidableEq K] in
theorem un_ent {uk : Value→K} {L : List (Ent K)} (h : ∀ x ∈ L,uk (kv x.1) = x.1) : un uk (ent kv L) = L := by
 unfold un ent
 rw [List.map_map]
 have : L.map (unE uk ∘ mkE kv) = L.map id := List.map_congr_left fun x hx => by
   simp only [Function.comp,unE,mkE,h x hx,intOf,id]
 rw [this,List.map_id]
structure WF (g : K→Prop) (L : List (Ent K)) (c : Nat) : Prop where
 good : ∀ x ∈ L,g x.1
 keys : L.Pairwise fun a b => a.1 ≠ b.1
 borns : L.Pairwise fun a b => a.2.2 ≠ b.2.2
 old : ∀ x ∈ L,x.2.2 < c
omit [DecidableEq K] in
theorem WF.sub {L M : List (Ent K)} {c : Nat} (h : WF g L c) (hs : M.Sublist L) : WF g M c :=
 ⟨fun x hx => h.good x (hs.subset hx),h.keys.sublist hs,h.borns.sublist hs,fun x hx => h.old x (hs.subset hx)⟩
omit [DecidableEq K] in
def storeL (L : List (Ent K)) (n : Nat) (v : Int) : List (Ent K) := L.map fun x => if x.2.2 = n then (x.1,v,x.2.2) else x
theorem inj_of {α β : Type} {f : α→β} {L : List α} (h : L.Pairwise fun a b => f a ≠ f b) {x y : α} (hx : x ∈ L) (hy : y ∈ L) (e : f x = f y) : x = y := by
 induction L with
 | nil => cases hx
 | cons a l ih =>
   rw [List.pairwise_cons] at h
   rcases List.mem_cons.1 hx with rfl | h1 <;> rcases List.mem_cons.1 hy with rfl | h2
   · rfl
   · exact absurd e (h.1 _ h2)
   · exact absurd e.symm (h.1 _ h1)
   · exact ih h.2 h1 h2
theorem inj_idx {α β : Type} {f : α→β} : ∀ {L : List α} {i j : Nat} {x y : α},L.Pairwise (fun a b => f a ≠ f b)→L[i]? = some x→L[j]? = some y→f x = f y→i = j
 | [],_,_,_,_,_,h,_,_ => by simp at h
 | a :: l,0,0,_,_,_,_,_,_ => rfl
 | a :: l,0,j + 1,x,y,h,hx,hy,e => by
   simp only [List.getElem?_cons_zero,Option.some.injEq] at hx
   subst hx
   exact absurd e ((List.pairwise_cons.1 h).1 y (List.mem_of_getElem? (by simpa using hy)))
 | a :: l,i + 1,0,x,y,h,hx,hy,e => by
   simp only [List.getElem?_cons_zero,Option.some.injEq] at hy
   subst hy
   exact absurd e.symm ((List.pairwise_cons.1 h).1 x (List.mem_of_getElem? (by simpa using hx)))
 | a :: l,i + 1,j + 1,x,y,h,hx,hy,e => by
   have := inj_idx (f := f) (i := i) (j := j) (List.pairwise_cons.1 h).2 (by simpa using hx) (by simpa using hy) e
   rw [this]
section
variable {kt et t : TypeId} (hK : KeyOk P kt g kv) {m c : Nat} {L : List (Ent K)} (hu : P.underlying t = some (.map kt et)) (hw : WF g L c)
include hK hu hw
end
omit [DecidableEq K] in
theorem store_ok {m c n : Nat} {L : List (Ent K)} {v : Int} (hb : L.Pairwise fun a b => a.2.2 ≠ b.2.2) (hm : H[m]? = some (.map (ent kv L) c)) (hn : ∃ x ∈ L,x.2.2 = n) :
   aEntryStore H (.map (some m)) (goInt n) (.int .i64 v) = some (H.set m (.map (ent kv (storeL L n v)) c)) := by
 unfold aEntryStore goInt
 simp only [hm]
 rw [if_pos (show sc2 H.length (.int .i64 v) = true from rfl)]
 have hf : ∃ i x,(ent kv L).findIdx? (fun e => (e.born : Int) == (n : Int)) = some i∧L[i]? = some x∧x.2.2 = n := by
   obtain ⟨x,hx,hxn⟩ := hn
   cases h : (ent kv L).findIdx? (fun e => (e.born : Int) == (n : Int)) with
   | none =>
     rw [List.findIdx?_eq_none_iff] at h
     have := h (mkE kv x) (List.mem_map_of_mem hx)
     simp [mkE,hxn] at this
   | some i =>
     rw [List.findIdx?_eq_some_iff_getElem] at h
     obtain ⟨h1,h2,_⟩ := h
     have hlt : i < L.length := by simpa [ent] using h1
     refine ⟨i,L[i],rfl,List.getElem?_eq_getElem hlt,?_⟩
     simp [ent,mkE] at h2
     omega
 obtain ⟨i,x,h1,h2,h3⟩ := hf
 rw [h1]
 simp only
 congr 2
 congr 1
 apply List.ext_getElem?
 intro j
 unfold ent storeL
 rw [List.getElem?_modify,List.getElem?_map,List.getElem?_map,List.getElem?_map]
 by_cases e : i = j
 · subst e; rw [h2]; simp [mkE,h3]
 · cases hj : L[j]? with
   | none => simp
   | some y =>
     have hne : y.2.2 ≠ n := fun hy => by
       have h4 := inj_idx (f := fun x : Ent K => x.2.2) hb h2 hj (h3.trans hy.symm)
       exact e h4
     simp [e,hne]
end Go.Pier
namespace Go.Pier
open Go
variable {P : Program} {H H' : Heap} {K : Type} [DecidableEq K] {g : K→Prop} {kv : K→Value} {uk : Value→K}
def doneS (H : Heap) (L : List (Ent K)) (sl : List Nat) : NShape := ⟨Unit,fun _ => ∀ x ∈ L,x.2.2 ∈ sl,fun _ => .tuple #[.bool false],fun _ => H,some false⟩
def moreS (kv : K→Value) (H : Heap) (a m s : Nat) (L : List (Ent K)) (sl : List Nat) (c : Nat) : NShape :=
 ⟨Ent K,fun x => x ∈ L∧x.2.2 ∉ sl,fun x => .tuple #[.bool true,kv x.1,.int .i64 x.2.1],fun x => H.set a (.iter m s (sl ++ [x.2.2]).toArray c),some true⟩
omit [DecidableEq K] in
theorem next_ok {a m c : Nat} {sl : List Nat} {L : List (Ent K)} (hw : WF g L c) (hi : H[a]? = some (.iter m c sl.toArray c)) (hm : H[m]? = some (.map (ent kv L) c)) :
   NextOk H (.pointer (some ⟨a,0,none⟩)) [doneS H L sl,moreS kv H a m c L sl c] := by
 unfold NextOk aNext
 simp only [if_true,hi,hm]
 rw [if_neg]
 · refine ⟨_,rfl,fun p hp => ?_⟩
   obtain ⟨q,hq,rfl⟩ := List.mem_map.1 hp
   unfold candList at hq
   simp only at hq
   rcases List.mem_append.1 hq with h | h
   · split at h
     · rename_i he
       rw [List.mem_singleton.1 h]
       refine ⟨doneS H L sl,List.mem_cons_self,(),fun x hx => ?_,rfl⟩
       rw [List.isEmpty_iff,List.filter_eq_nil_iff] at he
       have h1 := hw.old x hx
       have h2 := he (mkE kv x)
       by_cases hs : x.2.2 ∈ sl
       · exact hs
       · exact absurd (decide_eq_true (p := (mkE kv x).born < c) h1) (h2 (List.mem_filter.2 ⟨List.mem_map_of_mem hx,by simp [mkE,hs]⟩))
     · cases h
   · obtain ⟨e,he,rfl⟩ := List.mem_map.1 h
     have he' : e ∈ (ent kv L).filter fun e => !sl.toArray.contains e.born := by
       rcases List.mem_append.1 he with h1 | h1
       · exact (List.mem_filter.1 h1).1
       · exact (List.mem_filter.1 h1).1
     obtain ⟨h1,h2⟩ := List.mem_filter.1 he'
     obtain ⟨x,hx,rfl⟩ := List.mem_map.1 h1
     refine ⟨moreS kv H a m c L sl c,List.mem_cons_of_mem _ List.mem_cons_self,x,⟨hx,by simpa [mkE] using h2⟩,?_⟩
     simp [moreS,mkE]
 · simp only [Bool.and_eq_true,not_and,Bool.not_eq_true]
   intro ⟨_,hne⟩
   cases L with
   | nil => simp [ent] at hne
   | cons x l =>
     have := hw.old x List.mem_cons_self
     simp [ent,mkE]; intro hx; omega
omit [DecidableEq K] in
theorem ent_ok {a m c : Nat} {sl : List Nat} {L : List (Ent K)} {x : Ent K} (hb : L.Pairwise fun a b => a.2.2 ≠ b.2.2) (hx : x ∈ L) (hi : H[a]? = some (.iter m c (sl ++ [x.2.2]).toArray c)) (hm : H[m]? = some (.map (ent kv L) c)) :
   aEntry H (.pointer (some ⟨a,0,none⟩)) = some (.tuple #[kv x.1,.int .i64 x.2.1]) := by
 unfold aEntry
 have h1 : ((sl ++ [x.2.2]).toArray).back? = some x.2.2 := by simp
 simp only [if_true,hi,hm,h1]
 have hf : (ent kv L).find? (fun e => e.born == x.2.2) = some (mkE kv x) := by
   cases h : (ent kv L).find? (fun e => e.born == x.2.2) with
   | none =>
     have := List.find?_eq_none.1 h (mkE kv x) (List.mem_map_of_mem hx)
     simp [mkE] at this
   | some y =>
     have h2 := List.mem_of_find?_eq_some h
     have h3 := List.find?_some h
     obtain ⟨z,hz,rfl⟩ := List.mem_map.1 h2
     have := inj_of (f := fun x : Ent K => x.2.2) hb hz hx (by simpa [mkE] using h3)
     rw [this]
 rw [hf]; rfl
end Go.Pier
namespace Go.Pier
open Go
variable {P : Program}
abbrev vi (n : Int) : Value := .int .i64 n
theorem RowsOk.ints {k : IntKind} {m : Nat} {cs : List Value} {n : Nat} (h : RowsOk (List.replicate m (.i k)) cs n) : ∃ l : List Int,cs = l.map (.int k)∧l.length = n * m∧∀ x ∈ l,(Lit.int k x).wf = true := by
 have hl := h.len
 rw [List.length_replicate] at hl
 have hcell : ∀ x,x < cs.length→IntAt k cs x∧(Lit.int k (getI cs x)).wf = true := fun x hx => by
   rw [hl] at hx
   have hm : 0 < m := by
     rcases Nat.eq_zero_or_pos m with h0 | h0
     · rw [h0,Nat.mul_zero] at hx; omega
     · exact h0
   have hq : x / m < n := Nat.div_lt_of_lt_mul (by rw [Nat.mul_comm]; exact hx)
   have hr := Nat.mod_lt x hm
   have := h.at_ (x / m) hq (x % m) (.i k) (by rw [List.getElem?_replicate,if_pos hr])
   rw [List.length_replicate,Nat.div_add_mod' x m] at this
   exact this
 refine ⟨intsOf cs,?_,by rw [intsOf,List.length_map,hl],fun x hx => ?_⟩
 · refine List.ext_getElem? fun i => ?_
   rw [List.getElem?_map,intsOf,List.getElem?_map]
   by_cases hi : i < cs.length
   · have := (hcell i hi).1
     unfold IntAt at this
     rw [this]; rfl
   · rw [List.getElem?_eq_none (by omega)]; rfl
 · obtain ⟨i,hi,rfl⟩ := List.getElem_of_mem hx
   rw [intsOf,List.length_map] at hi
   obtain ⟨h1,h2⟩ := hcell i hi
   have : (intsOf cs)[i]'(by rw [intsOf,List.length_map]; exact hi) = getI cs i := by
     unfold IntAt at h1
     have e := List.getElem?_eq_getElem hi
     rw [e] at h1
     simp only [intsOf,List.getElem_map]
     rw [Option.some.inj h1]; rfl
   rw [this]; exact h2
end Go.Pier
namespace Go.Pier
open Go
variable {P : Program}
theorem undl {t : TypeId} {d : TypeDesc} (h : P.underlying t = some d) : pureRun P (Go.underlying t) = some d := by
 show pureRun P (match P.underlying t with | some d => (Sem.pure d : Sem TypeDesc) | none => stuck "no such type") = _
 rw [h]; rfl
theorem eqNum {t : TypeId} {k : IntKind} (d : Nat) (h : P.underlying t = some (.int k)) (a b : Int) : pureRun P (Op.equalIn (d + 1) t (.int k a) (.int k b)) = some (a == b) := by
 unfold Op.equalIn
 rw [pureRun_bind (undl h)]
 simp
 rfl
theorem loop_all {α : Type} {f : α→Option Bool × Unit→Sem (ForInStep (Option Bool × Unit))} {e : α→Bool} : ∀ (l : List α),(∀ i ∈ l,∀ s,pureRun P (f i s) = some (if e i = true then .yield (none,()) else .done (some false,()))) →
   pureRun P (forIn l ((none,()) : Option Bool × Unit) f) = some (if l.all e = true then (none,()) else (some false,()))
 | [],_ => rfl
 | a :: l,h => by
   rw [List.forIn_cons,pureRun_bind (h a List.mem_cons_self _)]
   cases he : e a with
   | true =>
     simp only [if_true,List.all_cons,he,Bool.true_and]
     exact loop_all l fun i hi s => h i (List.mem_cons_of_mem _ hi) s
   | false => simp [he]; rfl
structure TwoNums (P : Program) (t : TypeId) (g0 g1 : Field) : Prop where
 ud : ∃ fs,P.underlying t = some (.struct fs)∧fs.toList = [g0,g1]
 st : P.stoodInHeld t = false
 n0 : g0.name ≠ "_"
 n1 : g1.name ≠ "_"
 o0 : (g0.offset == 0) = true
 o1 : (g1.offset == 0) = false
 t0 : P.underlying g0.type = some (.int .i64)
 t1 : P.underlying g1.type = some (.int .i64)
 p0 : ∀ a b : Int,pureRun P (part g0.type #[vi a,vi b] g0.offset) = some (vi a)
 p1 : ∀ a b : Int,pureRun P (part g1.type #[vi a,vi b] g1.offset) = some (vi b)
 gd : P.eqGuardType P.depth t = false
theorem TwoNums.eq {t : TypeId} {g0 g1 : Field} (T : TwoNums P t g0 g1) (d : Nat) (a b x y : Int) : pureRun P (Op.equalIn (d + 2) t (.agg #[vi a,vi b]) (.agg #[vi x,vi y])) = some ((a == x) && (b == y)) := by
 obtain ⟨fs,hu,hl⟩ := T.ud
 unfold Op.equalIn
 rw [pureRun_bind (undl hu)]
 simp only []
 rw [pureRun_bind (show pureRun P program = some P from rfl)]
 rw [if_neg (show ¬ Program.stoodInHeld P t = true by rw [T.st]; exact Bool.false_ne_true)]
 rw [← Array.forIn_toList,hl]
 rw [pureRun_bind (loop_all (e := fun f : Field => if (f.offset == 0) = true then a == x else b == y) _ fun f hf s => ?_)]
 · simp only [List.all_cons,List.all_nil,T.o0,T.o1,if_true,Bool.false_eq_true,if_false,Bool.and_true]
   cases (a == x) <;> cases (b == y) <;> rfl
 · rcases List.mem_cons.1 hf with rfl | hf
   · rw [if_pos T.n0,pureRun_bind (T.p0 a b),pureRun_bind (T.p0 x y),pureRun_bind (eqNum _ T.t0 _ _),T.o0]
     simp only [if_true]
     cases (a == x) <;> rfl
   · rw [List.mem_singleton.1 hf]
     rw [if_pos T.n1,pureRun_bind (T.p1 a b),pureRun_bind (T.p1 x y),pureRun_bind (eqNum _ T.t1 _ _),T.o1]
     simp only [Bool.false_eq_true,if_false]
     cases (b == y) <;> rfl
end Go.Pier
namespace Go.Pier
open Go
variable {P : Program} {H : Heap} {f : FuncId}
end Go.Pier
namespace Go.Pier
open Go
variable {P : Program} {N : Nat} {H : Heap}
theorem Call.hole {f : FuncId} {args : List Value} {A : Value→Prop} (hs : args.all (sc H.length) = true) (h : Call P f args (H ++ [.gone]) (fun v _ => A v)) : Call P f args H (fun v _ => A v) := fun ρ w R hs' => by
 obtain ⟨R1,X1⟩ := R.bindDeep (o := .gone) (p := 0) (off := 0) (k := 0) (.inl rfl) rfl trivial
 have e : args.map (ren (ρ.bind H.length 0 0 0)) = args.map (ren ρ) := List.map_congr_left fun v hv => ren_agree X1.agreeN (List.all_eq_true.1 hs v hv)
 have := h _ w R1 (List.all_eq_true.2 fun v hv => sc_mono (by simp) (List.all_eq_true.1 hs v hv))
 rw [e] at this
 exact this.mono fun _ _ ⟨ρ',v,H',h1,h2,h3,h4,h5⟩ => ⟨ρ',v,H',h1,h2,h3,X1.trans h4,h5⟩
end Go.Pier
