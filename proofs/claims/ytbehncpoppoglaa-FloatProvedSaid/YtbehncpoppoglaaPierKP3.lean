import Derived.Test.YtbehncpoppoglaaPierKP2
import Derived.Test.YtbehncpoppoglaaPierKP1
import Derived.Test.YtbehncpoppoglaaProg
import Derived.KernelRfl
set_option linter.unusedSimpArgs false
set_option linter.unusedVariables false
namespace Go.Pier
open Go
variable {P : Program} {H : Heap} {f : FuncId}
def setG : Heap→Heap→List Nat→Heap→Heap
 | H,e :: E,b :: L,o :: r => match e.wr with
   | true => setG (H.set b o) E L r
   | false => setG H E L r
 | H,_,_,_ => H
theorem setG_length : ∀ (E : Heap) (L : List Nat) (r H : Heap),(setG H E L r).length = H.length
 | [],L,r,H => by cases L <;> cases r <;> rfl
 | e :: E,[],r,H => by cases r <;> rfl
 | e :: E,b :: L,[],H => rfl
 | e :: E,b :: L,o :: r,H => by
   unfold setG
   split
   · rw [setG_length]; simp
   · exact setG_length E L r H
theorem setG_get : ∀ (E : Heap) (L : List Nat) (r H : Heap),L.length = E.length→L.length = r.length→L.Nodup→(∀ b ∈ L,b < H.length) →
   ∀ b,(∀ (c : Nat),L[c]? = some b→(∀ e,E[c]? = some e→e.wr = true)→(setG H E L r)[b]? = r[c]?)∧((∀ (c : Nat),L[c]? = some b→∀ e,E[c]? = some e→e.wr = false)→(setG H E L r)[b]? = H[b]?)
 | [],L,r,H,h0,_,_,_,b => by
   obtain rfl : L = [] := List.eq_nil_of_length_eq_zero h0
   exact ⟨fun c hc => by simp at hc,fun _ => by cases r <;> rfl⟩
 | e :: E,[],r,H,h0,_,_,_,b => by cases h0
 | e :: E,a :: L,[],H,_,h,_,_,b => by cases h
 | e :: E,a :: L,o :: r,H,h0,h,hn,hl,b => by
   obtain ⟨n1,n2⟩ := List.nodup_cons.1 hn
   have hlen : L.length = r.length := by simpa using h
   have hlen0 : L.length = E.length := by simpa using h0
   unfold setG
   split
   · rename_i hw
     have ih := setG_get E L r (H.set a o) hlen0 hlen n2 (fun b hb => by rw [List.length_set]; exact hl b (List.mem_cons_of_mem _ hb)) b
     refine ⟨fun c hc he => ?_,fun hb => ?_⟩
     · cases c with
       | zero =>
         simp only [List.getElem?_cons_zero,Option.some.injEq] at hc
         subst hc
         rw [ih.2 (fun c hc => absurd (List.mem_of_getElem? hc) n1),List.getElem?_set_self (hl _ List.mem_cons_self)]; rfl
       | succ c =>
         simp only [List.getElem?_cons_succ] at hc he ⊢
         exact ih.1 c hc he
     · have hne : a ≠ b := fun e' => by
         have := hb 0 (by rw [e']; rfl) e rfl
         rw [hw] at this; cases this
       rw [ih.2 (fun c hc e' he' => hb (c + 1) hc e' he'),List.getElem?_set_ne hne]
   · rename_i hw
     have ih := setG_get E L r H hlen0 hlen n2 (fun b hb => hl b (List.mem_cons_of_mem _ hb)) b
     refine ⟨fun c hc he => ?_,fun hb => ?_⟩
     · cases c with
       | zero => have := he e rfl; rw [hw] at this; cases this
       | succ c =>
         simp only [List.getElem?_cons_succ] at hc he ⊢
         exact ih.1 c hc he
     · exact ih.2 fun c hc e' he' => hb (c + 1) hc e' he'
theorem Call.frameG {Et Ft N : Heap} {L : List Nat} {args vs : List Value} {v : Value} (hL : L.length = Et.length) (hF : Ft.length = Et.length) (hnd : L.Nodup) (hlt : ∀ b ∈ L,b < H.length)
   (hobj : ∀ (c : Nat) (o : AObj),Et[c]? = some o→o = .gone∨H[L.getD c 0]? = some (omap (fun c => L.getD c 0) o)) (hsc : ∀ o ∈ Et,o.sc Et.length = true)
   (hargs : vs = args.map (nmap fun c => L.getD c 0)) (hsa : args.all (sc Et.length) = true)
   (h : Call P f args Et fun v' F' => v' = v∧F' = Ft ++ N)
   (hnm : ∀ o ∈ Ft ++ N,o.nm (fun d => decide (d < Et.length) || decide (Et.length≤d)) = true) (hro : ∀ o ∈ N,o.isRo = false)
   (hv : nm (fun d => decide (d < Et.length) || decide (Et.length≤d)) v = true)
   (hscp : ∀ o ∈ Ft ++ N,(omap (nameL L Et.length H.length) o).sc (H.length + N.length) = true)
   (hvs : sc (H.length + N.length) (nmap (nameL L Et.length H.length) v) = true) :
   Call P f vs H (fun v' H2 => v' = nmap (nameL L Et.length H.length) v∧H2 = setG H Et L (Ft.map (omap (nameL L Et.length H.length))) ++ N.map (omap (nameL L Et.length H.length))) ∧
   Kept H (setG H Et L (Ft.map (omap (nameL L Et.length H.length))) ++ N.map (omap (nameL L Et.length H.length))) L := by
 generalize hτ : nameL L Et.length H.length = τ at *
 have hlen1 : (setG H Et L (Ft.map (omap τ))).length = H.length := setG_length _ _ _ _
 have hset := setG_get Et L (Ft.map (omap τ)) H hL (by rw [List.length_map,hL,hF]) hnd hlt
 have σlt : ∀ c,c < Et.length→∃ b,L[c]? = some b∧L.getD c 0 = b := fun c hc => ⟨_,List.getElem?_eq_getElem (by omega),natD_of_get (List.getElem?_eq_getElem (by omega))⟩
 have τlt : ∀ c,c < Et.length→τ c = L.getD c 0 := fun c hc => by rw [← hτ]; exact nameL_lt (by omega)
 have hinj : ∀ b b',b < Et.length→b' < Et.length→L.getD b 0 = L.getD b' 0→b = b' := fun b b' hb hb' he => by
   obtain ⟨x,h1,h2⟩ := σlt b hb
   obtain ⟨y,h3,h4⟩ := σlt b' hb'
   rw [h2,h4] at he
   rw [he] at h1
   exact (List.getElem?_inj (i := b) (j := b') (by omega) hnd).1 (by rw [h1,h3])
 constructor
 · refine Call.frame (σ := fun c => L.getD c 0) (B := L) (E := Et) (F := Ft ++ N) (m := Et.length) (τ := τ) (ags := args.map Arg2.val) (C := fun _ => True) (Nat.le_refl _) (fun ρ w R => ?_) (fun caps _ => by rw [canonA2_vals]; exact h) ?_ hv ?_
   · have hB : ∀ b, b < Et.length → L.getD b 0 ∈ L := fun b hb => by
       obtain ⟨x,h1,h2⟩ := σlt b hb
       rw [h2]; exact List.mem_of_getElem? h1
     obtain ⟨ρE,hH⟩ := R.held (σ := fun c => L.getD c 0) (E := Et) (B := L) hobj hinj (fun b o hb => hsc o (List.mem_of_getElem? hb)) hB
     refine ⟨ρE,fun _ => 0,hH,?_,by rw [canonA2_vals]; exact hsa,trivial⟩
     rw [canonA2_vals,hargs,List.map_map]
     refine List.map_congr_left fun u hu => ?_
     have hb := List.all_eq_true.1 hsa u hu
     show ren ρE u = ren ρ (nmap _ u)
     rw [← ren_nmap,ren_agree hH.base hb]
   · refine ⟨?_,by simp; omega,fun c hc => ?_,fun j => ?_,fun b o hb ho => ?_,fun j o ho => ?_,fun c o hc ho => ?_,fun b o hb => ?_⟩
     · simp only [List.length_append,List.length_map,hlen1]; omega
     · obtain ⟨x,h1,h2⟩ := σlt c hc
       exact ⟨by show L.getD c 0 < _; rw [h2]; exact hlt _ (List.mem_of_getElem? h1),τlt c hc⟩
     · rw [← hτ,nameL_ge (by omega)]; omega
     · rw [List.getElem?_append_left (by rw [hlen1]; exact hb)] at ho
       by_cases hm : ∃ c : Nat,L[c]? = some b∧∃ e : AObj,Et[c]? = some e∧e.wr = true
       · obtain ⟨c,hc,oe,he,hw⟩ := hm
         have hcl : c < Et.length := (List.getElem?_eq_some_iff.1 he).1
         rw [(hset b).1 c hc (fun e h1 => by rw [he] at h1; cases h1; exact hw),List.getElem?_map,Option.map_eq_some_iff] at ho
         obtain ⟨o',h1,rfl⟩ := ho
         exact .inr (.inl ⟨c,hcl,by rw [wr_of_get he]; exact hw,natD_of_get hc,o',by rw [List.getElem?_append_left (by omega)]; exact h1,rfl⟩)
       · rw [(hset b).2 (fun c hc e he => by
           cases hw : e.wr with
           | false => rfl
           | true => exact absurd ⟨c,hc,e,he,hw⟩ hm)] at ho
         refine .inr (.inr ⟨ho,fun c hc he => hm ?_⟩)
         obtain ⟨oe,h1,h2⟩ := getWr hc
         have hcl : c < Et.length := (List.getElem?_eq_some_iff.1 h1).1
         obtain ⟨x,h3,h4⟩ := σlt c hcl
         have he' : L.getD c 0 = b := he
         exact ⟨c,by rw [h3,← h4,he'],oe,h1,h2⟩
     · rw [List.getElem?_append_right (by rw [hlen1]; omega),hlen1,List.getElem?_map,Option.map_eq_some_iff] at ho
       obtain ⟨o',h1,rfl⟩ := ho
       rw [show H.length + j - H.length = j by omega] at h1
       refine .inr ⟨o',?_,rfl,hro o' (List.mem_of_getElem? h1)⟩
       rw [List.getElem?_append_right (by omega)]
       rw [show Et.length + j - Ft.length = j by omega]
       exact h1
     · exact hnm o (List.mem_of_getElem? ho)
     · have hl2 : (setG H Et L (Ft.map (omap τ)) ++ N.map (omap τ)).length = H.length + N.length := by simp [hlen1]
       rw [hl2]
       rcases Nat.lt_or_ge b H.length with h1 | h1
       · rw [List.getElem?_append_left (by rw [hlen1]; exact h1)] at hb
         by_cases hm : ∃ c : Nat,L[c]? = some b∧∃ e : AObj,Et[c]? = some e∧e.wr = true
         · obtain ⟨c,hc,oe,he,hw⟩ := hm
           rw [(hset b).1 c hc (fun e h1 => by rw [he] at h1; cases h1; exact hw),List.getElem?_map,Option.map_eq_some_iff] at hb
           obtain ⟨o',h2,rfl⟩ := hb
           exact .inr (hscp o' (List.mem_append_left _ (List.mem_of_getElem? h2)))
         · rw [(hset b).2 (fun c hc e he => by
             cases hw : e.wr with
             | false => rfl
             | true => exact absurd ⟨c,hc,e,he,hw⟩ hm)] at hb
           exact .inl hb
       · rw [List.getElem?_append_right (by rw [hlen1]; exact h1),List.getElem?_map,Option.map_eq_some_iff] at hb
         obtain ⟨o',h2,rfl⟩ := hb
         exact .inr (hscp o' (List.mem_append_right _ (List.mem_of_getElem? h2)))
   · rw [show (setG H Et L (Ft.map (omap τ)) ++ N.map (omap τ)).length = H.length + N.length by simp [hlen1]]
     exact hvs
 · refine ⟨by simp [hlen1],fun b hb hn => ?_⟩
   rw [List.getElem?_append_left (by rw [hlen1]; exact hb),(hset b).2 fun c hc => absurd (List.mem_of_getElem? hc) hn]
theorem setG_same : ∀ (E : Heap) (L : List Nat) (r H : Heap),(∀ (c b : Nat) (e o : AObj),E[c]? = some e→e.wr = true→L[c]? = some b→r[c]? = some o→H[b]? = some o)→setG H E L r = H
 | [],L,r,H,_ => by cases L <;> cases r <;> rfl
 | e :: E,[],r,H,_ => by cases r <;> rfl
 | e :: E,b :: L,[],H,_ => rfl
 | e :: E,b :: L,o :: r,H,h => by
   unfold setG
   have hr : setG H E L r = H := setG_same E L r H fun c b e o h1 h2 h3 h4 => h (c + 1) b e o h1 h2 h3 h4
   split
   · rename_i hw
     have h0 := h 0 b e o rfl hw rfl rfl
     have : H.set b o = H := by
       apply List.ext_getElem?
       intro j
       rw [List.getElem?_set]
       split
       · rename_i e1; subst e1
         rw [if_pos (List.getElem?_eq_some_iff.1 h0).1,h0]
       · rfl
     rw [this,hr]
   · exact hr
theorem Call.frameP {Et : Heap} {L : List Nat} {args vs : List Value} {v : Value} (hL : L.length = Et.length) (hnd : L.Nodup) (hlt : ∀ b ∈ L,b < H.length)
   (hobj : ∀ (c : Nat) (o : AObj),Et[c]? = some o→o = .gone∨H[L.getD c 0]? = some (omap (fun c => L.getD c 0) o)) (hsc : ∀ o ∈ Et,o.sc Et.length = true)
   (hτ : ∀ (c : Nat) (o : AObj),Et[c]? = some o→o.sc (H.length) = true→omap (nameL L Et.length H.length) o = omap (fun c => L.getD c 0) o∧(omap (nameL L Et.length H.length) o).sc H.length = true)
   (hscH : ∀ o ∈ Et,o.sc H.length = true)
   (hargs : vs = args.map (nmap fun c => L.getD c 0)) (hsa : args.all (sc Et.length) = true)
   (h : Call P f args Et fun v' F' => v' = v∧F' = Et)
   (hnm : ∀ o ∈ Et,o.nm (fun d => decide (d < Et.length) || decide (Et.length≤d)) = true)
   (hv : nm (fun d => decide (d < Et.length) || decide (Et.length≤d)) v = true)
   (hvs : sc H.length (nmap (nameL L Et.length H.length) v) = true) :
   Call P f vs H fun v' H2 => v' = nmap (nameL L Et.length H.length) v∧H2 = H := by
 have := (Call.frameG (P := P) (f := f) (H := H) (Et := Et) (Ft := Et) (N := []) (L := L) (args := args) (vs := vs) (v := v) hL rfl hnd hlt hobj hsc hargs hsa (h.mono fun v' F' hh => ⟨hh.1,by rw [hh.2,List.append_nil]⟩)
   (fun o ho => hnm o (by rwa [List.append_nil] at ho)) (fun o ho => by cases ho) hv
   (fun o ho => by
     rw [List.append_nil] at ho
     obtain ⟨c,hc⟩ := List.mem_iff_getElem?.1 ho
     exact (hτ c o hc (hscH o ho)).2) hvs).1
 refine this.mono fun v' H2 hh => ⟨hh.1,?_⟩
 rw [hh.2,List.map_nil,List.append_nil]
 refine setG_same _ _ _ _ fun c b e o h1 h2 h3 h4 => ?_
 rw [List.getElem?_map,h1,Option.map_some,Option.some.injEq] at h4
 subst h4
 rw [(hτ c e h1 (hscH e (List.mem_of_getElem? h1))).1]
 rcases hobj c e h1 with rfl | h5
 · cases h2
 · rw [natD_of_get h3] at h5; exact h5
end Go.Pier
namespace Go.Pier
open Go
variable {P : Program} {N : Nat} {H : Heap}
def splitC : Nat→Code→Option (Code × Code)
 | 0,.seq a b => some (a,b)
 | k + 1,.seq a b => match splitC k b with
   | some (x,y) => some (.seq a x,y)
   | none => none
 | _,_ => none
def headC (k : Nat) (c : Code) : Code := match splitC k c with | some q => q.1 | none => .skip
def tailC (k : Nat) (c : Code) : Code := match splitC k c with | some q => q.2 | none => .skip
def isSplit (k : Nat) (c : Code) : Bool := match splitC k c with | some _ => true | none => false
theorem split_of {k : Nat} {c : Code} (h : isSplit k c = true) : splitC k c = some (headC k c,tailC k c) := by
 unfold isSplit at h
 unfold headC tailC
 split at h
 · rename_i q hq; rw [hq]
 · cases h
theorem Call.ofVW {f : FuncId} {fn : Func} {c : Code} {args : List Value} {R : Value→Heap→Prop} (hf : P.funcs[f]? = some fn) (hb : fn.body = some c)
   (h : VW H.length (args.length + (fn.ntmps - args.length)) none P c H (argFr 0 args) (fun e F H => ∃ D,retK P fn R e D F H)) : Call P f args H R := fun ρ w RR hs => by
 refine (callsIn_wide (n := 0)).1 (callsIn_of_wp_marks hf hb trivial ?_)
 have hsz : (args.map (ren ρ)).toArray.size = args.length := by simp
 let a : Act := { tmps := (args.map (ren ρ)).toArray ++ Array.replicate (fn.ntmps - (args.map (ren ρ)).toArray.size) undef,defers := [] }
 have hFr : FrOk (args.length + (fn.ntmps - args.length)) H.length ρ (argFr 0 args) a := by
   refine ⟨by simp [a],fun k v hk => ?_⟩
   obtain ⟨_,h2⟩ := argFr_get args 0 k v hk
   rw [Nat.sub_zero] at h2
   have hlt := (List.getElem?_eq_some_iff.1 h2).1
   refine ⟨?_,List.all_eq_true.1 hs v (List.mem_of_getElem? h2)⟩
   rw [Array.getD_eq_getD_getElem?,Array.getElem?_append_left (by simpa using hlt)]
   simp [h2]
 have hA : At (args.length + (fn.ntmps - args.length)) w.heap.size ρ H w H (argFr 0 args) a w := ⟨ρ,RR,Ext.refl _ _ _,hFr,⟨Nat.le_refl _,List.Pairwise.nil,by simp [a]⟩⟩
 refine wpIn_mono (F := Fence.wide) (n := 0) (h w.heap.size ρ H w a w rfl hA) ?_
 rintro e a' w' ⟨x,F',H',rfl,⟨D,hk⟩,hA'⟩
 have key : (∃ φ v,fresults P fn F' H' = some (φ,v)∧AskAll φ∧R v H')→LeavesInM Fence.wide 0 P fn a'.tmps (fun e w' => ∃ ρ' v H',e = .returned (ren ρ' v)∧R v H'∧Rel ρ' H' w'∧Ext ρ H w ρ' H' w'∧sc H'.length v = true) a'.defers .returning w' := by
   rintro ⟨φ,v,h1,h2,h3⟩
   obtain ⟨ρ',R',X',hF',M'⟩ := hA'.ex
   refine leaves (fun w2 R2 X2 => ?_) a'.defers w' R' X' M'
   obtain ⟨r1,r2⟩ := fresults_sound (P := P) (w := w2) R2 hF' h1 h2
   exact ⟨_,r1,ρ',v,H',rfl,h3,R2,X2,r2⟩
 have hr' : (x = .normal∨x = .ret)∧(match fresults P fn F' H' with | some (φ,v) => AskAll φ∧Ob (R v H') | none => False) := by
   cases x with
   | normal => exact ⟨.inl rfl,hk⟩
   | ret => exact ⟨.inr rfl,hk⟩
   | exit id => exact hk.elim
 have hr : ∃ φ v,fresults P fn F' H' = some (φ,v)∧AskAll φ∧R v H' := by
   have hr2 := hr'.2
   split at hr2
   · rename_i φ v he; exact ⟨φ,v,he,hr2.1,hr2.2.out⟩
   · exact hr2.elim
 cases x with
 | normal => exact key hr
 | ret => exact key hr
 | exit id => rcases hr'.1 with hx | hx <;> cases hx
end Go.Pier
namespace Go.Pier.Fl
open Go Go.Pier Go.Proofs
theorem mixed : Try.prog.follows .mixedOrders = true := by kernel_rfl
theorem E0_ok : VOk Try.prog {} := VOk.ofCt CtOk.none
theorem inl_one {f : Nat} {fn : Func} {inv : List Value→Heap→Nat→Option LInv} (h : Try.prog.funcs[f]? = some fn) : ∀ e ∈ ([⟨f,fn,inv⟩] : List InlE),Try.prog.funcs[e.f]? = some e.fn := fun e he => by
 rw [List.mem_singleton.1 he]; exact h
theorem all_snoc {p : Nat→Prop} {x : Nat} (h : ∀ j,j < x→p j) (hx : p x) : ∀ j,j < x + 1→p j := fun j hj => by
 by_cases e : j = x
 · subst e; exact hx
 · exact h j (by omega)
theorem all_none {p : Nat→Prop} : ∀ j,j < 0→p j := fun j hj => by omega
theorem wrap_succ {x n : Nat} (h : x < n) (hn : n≤1000000) : IntKind.i64.wrap ((x : Int) + 1) = ((x + 1 : Nat) : Int) := by rw [wrap_in (by omega) (by omega)]; push_cast; rfl
theorem wrap_pred {x n : Nat} (h0 : 0 < x) (h : x < n) (hn : n≤1000000) : IntKind.i64.wrap ((x : Int) - 1) = ((x - 1 : Nat) : Int) := by rw [wrap_in (by omega) (by omega)]; omega
theorem nmap1_all {σ : Nat→Nat} : ∀ {cs : List Value},cs.all (sc1 0) = true→cs.map (nmap1 σ) = cs
 | [],_ => rfl
 | v :: r,h => by
   rw [List.all_cons,Bool.and_eq_true] at h
   rw [List.map_cons,nmap1_closed h.1,nmap1_all h.2]
def wiF (a b : Int) (l : List Int) : Bool := decide (∀ x ∈ l,a≤x∧x≤b)
theorem wiF_false {a b : Int} {l : List Int} (h : wiF a b l = false) : ¬ ∀ x ∈ l,a≤x∧x≤b := by rw [wiF,decide_eq_false_iff_not] at h; exact h
theorem wiF_true {a b : Int} {l : List Int} (h : wiF a b l = true) : ∀ x ∈ l,a≤x∧x≤b := by rw [wiF,decide_eq_true_eq] at h; exact h
theorem wiF_one {a b p : Int} : wiF a b [p] = decide (a≤p∧p≤b) := by simp [wiF]
def incF (l : List Int) : Bool := decide (∀ j,j < l.length→0 < j→l.getD (j - 1) 0 < l.getD j 0)
theorem incF_true {l : List Int} (h : incF l = true) : ∀ j,j < l.length→0 < j→l.getD (j - 1) 0 < l.getD j 0 := by rw [incF,decide_eq_true_eq] at h; exact h
def errC (l : List Int) : Int := if l.length < 1∨5 < l.length then 6 else if wiF 1 50 l = false then 3 else if incF l = false then 2 else 0
structure Coins (l : List Int) : Prop where
 pos : 1≤l.length
 few : l.length≤5
 rng : ∀ x ∈ l,1≤x∧x≤50
 inc : ∀ j,j < l.length→0 < j→l.getD (j - 1) 0 < l.getD j 0
theorem errC_ok {l : List Int} : errC l = 0 ↔ Coins l := by
 unfold errC
 constructor
 · intro h
   split at h
   · cases h
   split at h
   · cases h
   split at h
   · cases h
   rename_i h1 h2 h3
   exact ⟨by omega,by omega,wiF_true (by simpa using h2),incF_true (by simpa using h3)⟩
 · intro ⟨h1,h2,h3,h4⟩
   rw [if_neg (by omega),if_neg (by rw [show wiF 1 50 l = true from decide_eq_true h3]; exact Bool.noConfusion),if_neg (by rw [show incF l = true from decide_eq_true h4]; exact Bool.noConfusion)]
def empI : Nat→Int := fun _ => 0
def I5 (f : Nat→Int) (r : List Value) : List Value := vi (f 0) :: vi (f 1) :: vi (f 2) :: vi (f 3) :: vi (f 4) :: r
def C5 (f : Nat→Int) : Value := .agg #[vi (f 0),vi (f 1),vi (f 2),vi (f 3),vi (f 4)]
def z5 : Nat→Int := fun _ => 0
def m5 (f : Nat→Int) : Int := f 0 + f 1 + f 2 + f 3 + f 4
def L5 (f : Nat→Int) : List Int := [f 0,f 1,f 2,f 3,f 4]
theorem I5_get {f : Nat→Int} {a : Nat} (h : a < 5) : (I5 f [])[a]? = some (vi (f a)) := by
 rcases a with _ | _ | _ | _ | _ | a <;> first | rfl | omega
theorem I5_getI {f : Nat→Int} {a : Nat} (h : a < 5) : getI (I5 f []) a = f a := by unfold getI; rw [I5_get h]
theorem I5_at {f : Nat→Int} {a : Nat} (h : a < 5) : IntAt .i64 (I5 f []) a := by unfold IntAt; rw [I5_getI h,I5_get h]
def smallP (f : Nat→Int) : Prop := (0≤f 0∧f 0≤100000)∧(0≤f 1∧f 1≤100000)∧(0≤f 2∧f 2≤100000)∧(0≤f 3∧f 3≤100000)∧0≤f 4∧f 4≤100000
theorem smallP.at {f : Nat→Int} (h : smallP f) {a : Nat} (ha : a < 5) : 0≤f a∧f a≤100000 := by
 obtain ⟨h0,h1,h2,h3,h4⟩ := h
 rcases a with _ | _ | _ | _ | _ | a <;> first | assumption | omega
end Go.Pier.Fl
set_option maxRecDepth 100000
namespace Go.Pier.Fl
open Go Go.Pier Go.Proofs
noncomputable def wiB : Code := Try.f61.body.getD .skip
def wiI (a b : Int) (l : List Int) (ad : Option Addr) (c : Nat) (H : Heap) : Nat→Option LInv := invOf 0 (LInv.one Nat (fun i => i≤l.length∧∀ j,j < i→a≤l.getD j 0∧l.getD j 0≤b) (fun i => [(0,vi a),(1,vi b),(9,.slice ad l.length c),(10,vi l.length),(11,vi i)]) (fun _ => H) (fun i => l.length - i))
noncomputable def wiV0 (l:List Int) := (List.map (Value.int IntKind.i64) l)
noncomputable def wiV1  (x:Nat) := (0+(x:Int).toNat * 1)
noncomputable def wiV :=
fun (a b:Int) (l:List Int) (c:Nat)↦(∃ (y:Nat),Ob (y≤l.length∧∀ (j:Nat),j<y→a≤l.getD j (0:Int)∧l.getD j (0:Int)≤b)∧(Ob (AObj.ro (wiV0 l)=AObj.ro (List.map (nmap1 fun (bq:Nat)↦bq) (wiV0 l))∧AObj.sc 1 (AObj.ro (wiV0 l))=true)∧True)∧Ob (a=a)∧Ob (b=b)∧Ob (Value.slice (some (ad0 0)) l.length c=Value.slice (some (ad0 0)) l.length c)∧Ob ((l.length:Int)=(l.length:Int))∧Ob ((0:Int)=(y:Int))∧True)∧∀ (x:Nat),Ob (x≤l.length∧∀ (j:Nat),j<x→a≤l.getD j (0:Int)∧l.getD j (0:Int)≤b)→(decide ((x:Int)<(l.length:Int))=true→Ob ((0:Int)≤(x:Int)∧(x:Int)<(l.length:Int)∧true=true)∧Ob (IntAt IntKind.i64 (wiV0 l) (wiV1 x))∧(decide (getI (wiV0 l) (wiV1 x)<a)=false→(decide (b<getI (wiV0 l) (wiV1 x))=true→True∧Ob (Value.bool false=Value.bool (wiF a b l)))∧(decide (b<getI (wiV0 l) (wiV1 x))=false→∃ (y:Nat),Ob (y≤l.length∧∀ (j:Nat),j<y→a≤l.getD j (0:Int)∧l.getD j (0:Int)≤b)∧Ob (l.length-y<l.length-x)∧(Ob (AObj.ro (wiV0 l)=AObj.ro (List.map (nmap1 fun (bqq:Nat)↦bqq) (wiV0 l))∧AObj.sc 1 (AObj.ro (wiV0 l))=true)∧True)∧Ob (a=a)∧Ob (b=b)∧Ob (Value.slice (some (ad0 0)) l.length c=Value.slice (some (ad0 0)) l.length c)∧Ob ((l.length:Int)=(l.length:Int))∧Ob (IntKind.i64.wrap ((x:Int)+(1:Int))=(y:Int))∧True))∧(decide (getI (wiV0 l) (wiV1 x)<a)=true→True∧Ob (Value.bool false=Value.bool (wiF a b l))))∧(decide ((x:Int)<(l.length:Int))=false→True∧Ob (Value.bool true=Value.bool (wiF a b l)))
theorem wiV_eq : wiV = fun (a b : Int) (l : List Int) (c : Nat) => vc Try.prog {} 1 24 true (wiI a b l (some ⟨0,0,none⟩) c [ros l]) wiB [] (argFr 0 [vi a,vi b,.slice (some ⟨0,0,none⟩) l.length c]) [ros l] (retK Try.prog Try.f61 (fun v _ => v = .bool (wiF a b l))) := by kernel_rfl
noncomputable def wiN :=
fun (a b:Int)↦(∃ (y:Nat),Ob (y≤0∧∀ (j:Nat),j<y→a≤([]:List Int).getD j (0:Int)∧([]:List Int).getD j (0:Int)≤b)∧True∧Ob (a=a)∧Ob (b=b)∧Ob (Value.slice none 0 0=Value.slice none 0 0)∧Ob ((↑(0:Nat):Int)=(↑(0:Nat):Int))∧Ob ((0:Int)=(y:Int))∧True)∧∀ (x:Nat),Ob (x≤0∧∀ (j:Nat),j<x→a≤([]:List Int).getD j (0:Int)∧([]:List Int).getD j (0:Int)≤b)→(decide ((x:Int)<(↑(0:Nat):Int))=true→False)∧(decide ((x:Int)<(↑(0:Nat):Int))=false→True∧Ob (Value.bool true=Value.bool true))
theorem wiN_eq : wiN = fun (a b : Int) => vc Try.prog {} 0 24 true (wiI a b [] none 0 []) wiB [] (argFr 0 [vi a,vi b,.slice none 0 0]) [] (retK Try.prog Try.f61 (fun v _ => v = .bool true)) := by kernel_rfl
noncomputable def wiH :=
fun (a b:Int) (s:Option Nat) (c:Nat)↦(∃ (y:Nat),Ob (y≤0∧∀ (j:Nat),j<y→a≤([]:List Int).getD j (0:Int)∧([]:List Int).getD j (0:Int)≤b)∧True∧Ob (a=a)∧Ob (b=b)∧Ob (Value.slice (some ⟨0,0,s⟩) 0 c=Value.slice (some ⟨0,0,s⟩) 0 c)∧Ob ((↑(0:Nat):Int)=(↑(0:Nat):Int))∧Ob ((0:Int)=(y:Int))∧True)∧∀ (x:Nat),Ob (x≤0∧∀ (j:Nat),j<x→a≤([]:List Int).getD j (0:Int)∧([]:List Int).getD j (0:Int)≤b)→(decide ((x:Int)<(↑(0:Nat):Int))=true→Ob ((0:Int)≤(x:Int)∧(x:Int)<(↑(0:Nat):Int)∧std ⟨0,0,s⟩ c=true)∧False)∧(decide ((x:Int)<(↑(0:Nat):Int))=false→True∧Ob (Value.bool true=Value.bool true))
theorem wiH_eq : wiH = fun (a b : Int) (s : Option Nat) (c : Nat) => vc Try.prog {} 1 24 true (wiI a b [] (some ⟨0,0,s⟩) c [.gone]) wiB [] (argFr 0 [vi a,vi b,.slice (some ⟨0,0,s⟩) 0 c]) [.gone] (retK Try.prog Try.f61 (fun v _ => v = .bool true)) := by kernel_rfl
noncomputable def aiB : Code := Try.f65.body.getD .skip
def aiI (l : List Int) (ad : Option Addr) (c : Nat) (H : Heap) : Nat→Option LInv := invOf 0 (LInv.one Nat (fun i => i≤l.length∧∀ j,j < i→0 < j→l.getD (j - 1) 0 < l.getD j 0) (fun i => [(0,.slice ad l.length c),(5,.slice ad l.length c),(6,vi l.length),(7,vi i)]) (fun _ => H) (fun i => l.length - i))
noncomputable def aiV0 (l:List Int) := (List.map (Value.int IntKind.i64) l)
noncomputable def aiV1 (l:List Int) (c:Nat):Prop := (Value.slice (some (ad0 0)) l.length c=Value.slice (some (ad0 0)) l.length c)
noncomputable def aiV2  (x:Nat) := (0+(IntKind.i64.wrap ((x:Int)-(1:Int))).toNat * 1)
noncomputable def aiV3  (x:Nat) := (0+(x:Int).toNat * 1)
noncomputable def aiV :=
fun (l:List Int) (c:Nat)↦(∃ (y:Nat),Ob (y≤l.length∧∀ (j:Nat),j<y→0<j→l.getD (j-1) (0:Int)<l.getD j (0:Int))∧(Ob (AObj.ro (aiV0 l)=AObj.ro (List.map (nmap1 fun (b:Nat)↦b) (aiV0 l))∧AObj.sc 1 (AObj.ro (aiV0 l))=true)∧True)∧Ob (aiV1 l c)∧Ob (aiV1 l c)∧Ob ((l.length:Int)=(l.length:Int))∧Ob ((0:Int)=(y:Int))∧True)∧∀ (x:Nat),Ob (x≤l.length∧∀ (j:Nat),j<x→0<j→l.getD (j-1) (0:Int)<l.getD j (0:Int))→(decide ((x:Int)<(l.length:Int))=true→Ob ((0:Int)≤(x:Int)∧(x:Int)<(l.length:Int)∧true=true)∧Ob (IntAt IntKind.i64 (aiV0 l) (aiV3 x))∧(decide ((0:Int)<(x:Int))=true→Ob ((0:Int)≤IntKind.i64.wrap ((x:Int)-(1:Int))∧IntKind.i64.wrap ((x:Int)-(1:Int))<(l.length:Int)∧true=true)∧Ob (IntAt IntKind.i64 (aiV0 l) (aiV2 x))∧(decide (getI (aiV0 l) (aiV3 x)≤getI (aiV0 l) (aiV2 x))=true→True∧Ob (Value.bool false=Value.bool (incF l)))∧(decide (getI (aiV0 l) (aiV3 x)≤getI (aiV0 l) (aiV2 x))=false→∃ (y:Nat),Ob (y≤l.length∧∀ (j:Nat),j<y→0<j→l.getD (j-1) (0:Int)<l.getD j (0:Int))∧Ob (l.length-y<l.length-x)∧(Ob (AObj.ro (aiV0 l)=AObj.ro (List.map (nmap1 fun (b:Nat)↦b) (aiV0 l))∧AObj.sc 1 (AObj.ro (aiV0 l))=true)∧True)∧Ob (aiV1 l c)∧Ob (aiV1 l c)∧Ob ((l.length:Int)=(l.length:Int))∧Ob (IntKind.i64.wrap ((x:Int)+(1:Int))=(y:Int))∧True))∧(decide ((0:Int)<(x:Int))=false→∃ (y:Nat),Ob (y≤l.length∧∀ (j:Nat),j<y→0<j→l.getD (j-1) (0:Int)<l.getD j (0:Int))∧Ob (l.length-y<l.length-x)∧(Ob (AObj.ro (aiV0 l)=AObj.ro (List.map (nmap1 fun (b:Nat)↦b) (aiV0 l))∧AObj.sc 1 (AObj.ro (aiV0 l))=true)∧True)∧Ob (aiV1 l c)∧Ob (aiV1 l c)∧Ob ((l.length:Int)=(l.length:Int))∧Ob (IntKind.i64.wrap ((x:Int)+(1:Int))=(y:Int))∧True))∧(decide ((x:Int)<(l.length:Int))=false→True∧Ob (Value.bool true=Value.bool (incF l)))
theorem aiV_eq : aiV = fun (l : List Int) (c : Nat) => vc Try.prog {} 1 24 true (aiI l (some ⟨0,0,none⟩) c [ros l]) aiB [] (argFr 0 [.slice (some ⟨0,0,none⟩) l.length c]) [ros l] (retK Try.prog Try.f65 (fun v _ => v = .bool (incF l))) := by kernel_rfl
noncomputable def aiN0  : Prop := (Value.slice none (0 : Nat) (0 : Nat) = Value.slice none (0 : Nat) (0 : Nat))
noncomputable def aiN :=
fun (x:Unit)↦(∃ (y:Nat),Ob (y≤0∧∀ (j:Nat),j<y→0<j→([]:List Int).getD (j-1) (0:Int)<([]:List Int).getD j (0:Int))∧True∧Ob aiN0∧Ob aiN0∧Ob ((↑(0:Nat):Int)=(↑(0:Nat):Int))∧Ob ((0:Int)=(y:Int))∧True)∧∀ (xq:Nat),Ob (xq≤0∧∀ (j:Nat),j<xq→0<j→([]:List Int).getD (j-1) (0:Int)<([]:List Int).getD j (0:Int))→(decide ((xq:Int)<(↑(0:Nat):Int))=true→False)∧(decide ((xq:Int)<(↑(0:Nat):Int))=false→True∧Ob (Value.bool true=Value.bool true))
theorem aiN_eq : aiN = fun (_ : Unit) => vc Try.prog {} 0 24 true (aiI [] none 0 []) aiB [] (argFr 0 [.slice none 0 0]) [] (retK Try.prog Try.f65 (fun v _ => v = .bool true)) := by kernel_rfl
noncomputable def aiH0 (s:Option Nat) (c:Nat):Prop := (Value.slice (some ⟨0,0,s⟩) 0 c=Value.slice (some ⟨0,0,s⟩) 0 c)
noncomputable def aiH :=
fun (s:Option Nat) (c:Nat)↦(∃ (y:Nat),Ob (y≤0∧∀ (j:Nat),j<y→0<j→([]:List Int).getD (j-1) (0:Int)<([]:List Int).getD j (0:Int))∧True∧Ob (aiH0 s c)∧Ob (aiH0 s c)∧Ob ((↑(0:Nat):Int)=(↑(0:Nat):Int))∧Ob ((0:Int)=(y:Int))∧True)∧∀ (x:Nat),Ob (x≤0∧∀ (j:Nat),j<x→0<j→([]:List Int).getD (j-1) (0:Int)<([]:List Int).getD j (0:Int))→(decide ((x:Int)<(↑(0:Nat):Int))=true→Ob ((0:Int)≤(x:Int)∧(x:Int)<(↑(0:Nat):Int)∧std ⟨0,0,s⟩ c=true)∧False)∧(decide ((x:Int)<(↑(0:Nat):Int))=false→True∧Ob (Value.bool true=Value.bool true))
theorem aiH_eq : aiH = fun (s : Option Nat) (c : Nat) => vc Try.prog {} 1 24 true (aiI [] (some ⟨0,0,s⟩) c [.gone]) aiB [] (argFr 0 [.slice (some ⟨0,0,s⟩) 0 c]) [.gone] (retK Try.prog Try.f65 (fun v _ => v = .bool true)) := by kernel_rfl
theorem wiV_ok (a b : Int) (l : List Int) (c : Nat) (hl : l.length≤1000000) : wiV a b l c := by
 unfold wiV wiV1 wiV0
 simp only [SS,reduceCtorEq,Arg.list,Arg.num,Arg.flag,intOf,andP,Nat.reduceLeDiff,Nat.reduceAdd,Nat.reduceMul,Nat.reduceLT]
 refine ⟨⟨0,⟨by omega,fun j hj => by omega⟩,rfl⟩,fun x ⟨hx,hj⟩ => ⟨fun h1 => ⟨by omega,by omega,fun h2 => ⟨fun h3 => ?_,fun h3 => ⟨x + 1,⟨by omega,fun j h4 => ?_⟩,by omega,?_⟩⟩,fun h2 => ?_⟩,fun h1 => ?_⟩⟩
 · symm; rw [wiF,decide_eq_false_iff_not]; intro h4; have := h4 _ (ints_mem (l := l) (i := x) (by omega)); omega
 · by_cases e : j = x
   · subst e; omega
   · exact hj j (by omega)
 · rw [wrap_in (by omega) (by omega)]; rfl
 · symm; rw [wiF,decide_eq_false_iff_not]; intro h4; have := h4 _ (ints_mem (l := l) (i := x) (by omega)); omega
 · symm; rw [wiF,decide_eq_true_eq]; exact ints_all (by omega) hj
theorem wiN_ok (a b : Int) : wiN a b := by
 unfold wiN
 simp only [SS,reduceCtorEq,Arg.list,Arg.num,Arg.flag,intOf,andP,Nat.reduceLeDiff,Nat.reduceAdd,Nat.reduceMul,Nat.reduceLT]
 exact ⟨⟨0,⟨by omega,fun j hj => by omega⟩,rfl⟩,fun x _ => fun h => by omega⟩
theorem wiH_ok (a b : Int) (s : Option Nat) (c : Nat) : wiH a b s c := by
 unfold wiH
 simp only [SS,reduceCtorEq,Arg.list,Arg.num,Arg.flag,intOf,andP,Nat.reduceLeDiff,Nat.reduceAdd,Nat.reduceMul,Nat.reduceLT]
 exact ⟨⟨0,⟨by omega,fun j hj => by omega⟩,rfl⟩,fun x _ => fun h => by omega⟩
def wiS (r : List Arg) : Prop × Value := match r with
 | [a,b,l] => (l.list.length≤1000000,.bool (wiF a.num b.num l.list))
 | _ => (False,undef)
theorem wiG_ok : ∀ args H φ v H' l,pureG [.int .i64,.int .i64,.ints .i64] wiS args H = some (φ,v,H',l)→Asks φ→Call Try.prog 61 args H (fun v' H2 => v' = v∧H2 = H')∧Kept H H' l :=
 pureG_ok fun r hk hs => match r,hk with
   | [_,_,_],⟨⟨a,rfl⟩,⟨b,rfl⟩,hl,_⟩ => ⟨rfl,fun caps => by
     rcases hl with rfl | ⟨s,rfl⟩ | ⟨l,rfl⟩
     · exact Call.ofVc (VOk.ofCt CtOk.none) mixed (c := wiB) Try.func61 (by kernel_rfl) (cast (congrFun (congrFun wiN_eq a) b) (wiN_ok a b))
     · exact Call.ofVc (VOk.ofCt CtOk.none) mixed (c := wiB) Try.func61 (by kernel_rfl) (cast (congrFun (congrFun (congrFun (congrFun wiH_eq a) b) s) _) (wiH_ok a b s _))
     · exact Call.ofVc (VOk.ofCt CtOk.none) mixed (c := wiB) Try.func61 (by kernel_rfl) (cast (congrFun (congrFun (congrFun (congrFun wiV_eq a) b) l) _) (wiV_ok a b l _ hs))⟩
theorem aiV_ok (l : List Int) (c : Nat) (hl : l.length≤1000000) : aiV l c := by
 unfold aiV aiV3 aiV2 aiV1 aiV0
 simp only [SS,reduceCtorEq,Arg.list,Arg.num,Arg.flag,intOf,andP,Nat.reduceLeDiff,Nat.reduceAdd,Nat.reduceMul,Nat.reduceLT]
 have yes : ∀ x,x < l.length→(∀ j,j < x→0 < j→l.getD (j - 1) 0 < l.getD j 0)→(0 < x→l.getD (x - 1) 0 < l.getD x 0)→∃ y : Nat,(y≤l.length∧∀ j,j < y→0 < j→l.getD (j - 1) 0 < l.getD j 0)∧l.length - y < l.length - x∧IntKind.i64.wrap ((x : Int) + 1) = (y : Int) :=
   fun x hx hj h => ⟨x + 1,⟨by omega,all_snoc hj h⟩,by omega,wrap_succ hx hl⟩
 refine ⟨⟨0,⟨by omega,fun j hj => by omega⟩,rfl⟩,fun x ⟨hx,hj⟩ => ⟨fun h1 => ⟨by omega,by omega,fun h2 => ?_,fun h2 => yes x (by omega) hj fun h3 => by omega⟩,fun h1 => ?_⟩⟩
 · have wp : IntKind.i64.wrap ((x : Int) - 1) = ((x - 1 : Nat) : Int) := wrap_pred (n := l.length) (by omega) (by omega) hl
   rw [wp,Int.toNat_natCast]
   refine ⟨by omega,by omega,fun h3 => ?_,fun h3 => yes x (by omega) hj fun _ => by omega⟩
   symm; rw [incF,decide_eq_false_iff_not]; intro h4; have := h4 x (by omega) (by omega); omega
 · symm; rw [incF,decide_eq_true_eq]; exact fun j h => hj j (by omega)
theorem aiN_ok (u : Unit) : aiN u := by
 unfold aiN aiN0
 simp only [SS,reduceCtorEq,Arg.list,Arg.num,Arg.flag,intOf,andP,Nat.reduceLeDiff,Nat.reduceAdd,Nat.reduceMul,Nat.reduceLT]
 exact ⟨⟨0,⟨by omega,fun j hj => by omega⟩,rfl⟩,fun x _ => fun h => by omega⟩
theorem aiH_ok (s : Option Nat) (c : Nat) : aiH s c := by
 unfold aiH aiH0
 simp only [SS,reduceCtorEq,Arg.list,Arg.num,Arg.flag,intOf,andP,Nat.reduceLeDiff,Nat.reduceAdd,Nat.reduceMul,Nat.reduceLT]
 exact ⟨⟨0,⟨by omega,fun j hj => by omega⟩,rfl⟩,fun x _ => fun h => by omega⟩
def aiS (r : List Arg) : Prop × Value := match r with
 | [l] => (l.list.length≤1000000,.bool (incF l.list))
 | _ => (False,undef)
theorem aiG_ok : ∀ args H φ v H' l,pureG [.ints .i64] aiS args H = some (φ,v,H',l)→Asks φ→Call Try.prog 65 args H (fun v' H2 => v' = v∧H2 = H')∧Kept H H' l :=
 pureG_ok fun r hk hs => match r,hk with
   | [_],⟨hl,_⟩ => ⟨rfl,fun caps => by
     rcases hl with rfl | ⟨s,rfl⟩ | ⟨l,rfl⟩
     · exact Call.ofVc (VOk.ofCt CtOk.none) mixed (c := aiB) Try.func65 (by kernel_rfl) (cast (congrFun aiN_eq ()) (aiN_ok ()))
     · exact Call.ofVc (VOk.ofCt CtOk.none) mixed (c := aiB) Try.func65 (by kernel_rfl) (cast (congrFun (congrFun aiH_eq s) _) (aiH_ok s _))
     · exact Call.ofVc (VOk.ofCt CtOk.none) mixed (c := aiB) Try.func65 (by kernel_rfl) (cast (congrFun (congrFun aiV_eq l) _) (aiV_ok l _ hs))⟩
end Go.Pier.Fl
namespace Go.Pier.Fl
open Go Go.Pier Go.Proofs
noncomputable def ciB : Code := Try.f22.body.getD .skip
noncomputable def ciE : VEnv := { ct := (Ct.none.add 61 (pureG [.int .i64,.int .i64,.ints .i64] wiS)).add 65 (pureG [.ints .i64] aiS) }
noncomputable def ciV0 (l:List Int) := (List.take l.length (List.drop 0 (intsOf (List.map (Value.int IntKind.i64) l))))
noncomputable def ciV1 (l:List Int):Prop := ((List.take l.length (List.drop 0 (List.map (Value.int IntKind.i64) l))=List.map (Value.int IntKind.i64) (ciV0 l)∧0+l.length≤(List.map (Value.int IntKind.i64) l).length∧true=true)∧(Arg.ints IntKind.i64 (ciV0 l)).list.length≤1000000)
noncomputable def ciV2 (l:List Int) := (!wiF (Arg.plain (vi (1:Int))).num (Arg.plain (vi (50:Int))).num (Arg.ints IntKind.i64 (ciV0 l)).list)
noncomputable def ciV :=
fun (l:List Int) (c:Nat)↦(decide ((l.length:Int)<(1:Int))=false→(decide ((5:Int)<(l.length:Int))=true→True∧Ob (vi (6:Int)=vi (errC l)))∧(decide ((5:Int)<(l.length:Int))=false→Ob (ciV1 l)∧((ciV2 l)=true→True∧Ob (vi (3:Int)=vi (errC l)))∧((ciV2 l)=false→Ob (ciV1 l)∧((!incF (Arg.ints IntKind.i64 (ciV0 l)).list)=true→True∧Ob (vi (2:Int)=vi (errC l)))∧((!incF (Arg.ints IntKind.i64 (ciV0 l)).list)=false→True∧Ob (vi (0:Int)=vi (errC l))))))∧(decide ((l.length:Int)<(1:Int))=true→True∧Ob (vi (6:Int)=vi (errC l)))
theorem ciV_eq : ciV = fun (l : List Int) (c : Nat) => vc Try.prog ciE 1 17 true (fun _ => none) ciB [] (argFr 0 [.slice (some ⟨0,0,none⟩) l.length c]) [ros l] (retK Try.prog Try.f22 (fun v _ => v = vi (errC l))) := by kernel_rfl
noncomputable def ciN :=
fun (x:Unit)↦(true=false→(false=true→True∧Ob (vi (6:Int)=vi (6:Int)))∧(false=false→Ob (0≤1000000)∧(false=true→True∧Ob (vi (3:Int)=vi (6:Int)))∧(false=false→Ob (0≤1000000)∧(false=true→True∧Ob (vi (2:Int)=vi (6:Int)))∧(false=false→True∧Ob (vi (0:Int)=vi (6:Int))))))∧(true=true→True∧Ob (vi (6:Int)=vi (6:Int)))
theorem ciN_eq : ciN = fun (_ : Unit) => vc Try.prog ciE 0 17 true (fun _ => none) ciB [] (argFr 0 [.slice none 0 0]) [] (retK Try.prog Try.f22 (fun v _ => v = vi 6)) := by kernel_rfl
noncomputable def ciH :=
fun (s:Option Nat) (c:Nat)↦(true=false→(false=true→True∧Ob (vi (6:Int)=vi (6:Int)))∧(false=false→Ob (0≤1000000)∧((!true)=true→True∧Ob (vi (3:Int)=vi (6:Int)))∧((!true)=false→Ob (0≤1000000)∧((!true)=true→True∧Ob (vi (2:Int)=vi (6:Int)))∧((!true)=false→True∧Ob (vi (0:Int)=vi (6:Int))))))∧(true=true→True∧Ob (vi (6:Int)=vi (6:Int)))
theorem ciH_eq : ciH = fun (s : Option Nat) (c : Nat) => vc Try.prog ciE 1 17 true (fun _ => none) ciB [] (argFr 0 [.slice (some ⟨0,0,s⟩) 0 c]) [.gone] (retK Try.prog Try.f22 (fun v _ => v = vi 6)) := by kernel_rfl
noncomputable def maB : Code := Try.f64.body.getD .skip
def pf (f : Nat→Int) : Nat→Int
 | 0 => 0
 | i + 1 => pf f i + f i
noncomputable def maE : VEnv := { orc := orcIx Try.prog }
def maI (f : Nat→Int) : Nat→Option LInv := invOf 0 (LInv.one Nat (fun i => i≤5) (fun i => [(3,vi (pf f i)),(6,C5 f),(7,vi i)]) (fun _ => [.rw (I5 f []) none]) (fun i => 5 - i))
noncomputable def maV0 (f:Nat→Int):List Value := [vi (f 0),vi (f 1),vi (f 2),vi (f 3),vi (f 4)]
noncomputable def maV :=
fun (f:Nat→Int)↦(∃ (y:Nat),Ob (y≤5)∧(Ob (AObj.rw (maV0 f) none=AObj.rw (maV0 f) none∧true=true)∧True)∧Ob ((0:Int)=pf f y)∧Ob (Value.agg { toList := (maV0 f) }=Value.agg { toList := (maV0 f) })∧Ob ((0:Int)=(y:Int))∧True)∧∀ (x:Nat),Ob (x≤5)→(decide ((x:Int)<(5:Int))=true→Ob (aIndex Try.prog 71 (Value.agg { toList := (maV0 f) }) (vi (x:Int))=some (vi (getI (maV0 f) (x:Int).toNat)))∧∃ (y:Nat),Ob (y≤5)∧Ob (5-y<5-x)∧(Ob (AObj.rw (maV0 f) none=AObj.rw (maV0 f) none∧true=true)∧True)∧Ob (IntKind.i64.wrap (pf f x+getI (maV0 f) (x:Int).toNat)=pf f y)∧Ob (Value.agg { toList := (maV0 f) }=Value.agg { toList := (maV0 f) })∧Ob (IntKind.i64.wrap ((x:Int)+(1:Int))=(y:Int))∧True)∧(decide ((x:Int)<(5:Int))=false→True∧Ob (vi (pf f x)=vi (m5 f)))
theorem maV_eq : maV = fun (f : Nat→Int) => vc Try.prog maE 0 15 true (maI f) maB [] (argFr 0 [C5 f]) [] (retK Try.prog Try.f64 (fun v _ => v = vi (m5 f))) := by kernel_rfl
noncomputable def coB : Code := Try.f103.body.getD .skip
noncomputable def coE1 : VEnv := { cc := ccIn Try.prog {} [⟨112,Try.f112,fun _ _ _ => none⟩] }
noncomputable def coE : VEnv := { cc := ccIn Try.prog coE1 [⟨108,Try.f108,fun _ _ _ => none⟩] }
def sameTo (l m : List Int) (i : Nat) : Prop := ∀ j,j < i→l.getD j 0 = m.getD j 0
def cmpF : List Int→List Int→Int
 | a :: l,b :: m => if a < b then -1 else if b < a then 1 else cmpF l m
 | _,_ => 0
def coI (l m : List Int) (c d : Nat) : Nat→Option LInv := invOf 0 (LInv.one Nat (fun i => i≤l.length∧sameTo l m i) (fun i => [(0,.slice (some ⟨0,0,none⟩) l.length c),(1,.slice (some ⟨1,0,none⟩) m.length d),(9,.slice (some ⟨0,0,none⟩) l.length c),(10,vi l.length),(11,vi i)]) (fun _ => [ros l,ros m]) (fun i => l.length - i))
noncomputable def coV0  := (Value.int IntKind.i64)
noncomputable def coV1 (l:List Int) (c:Nat):Prop := (Value.slice (some (ad0 0)) l.length c=Value.slice (some (ad0 0)) l.length c)
noncomputable def coV2  (x:Nat) := (0+(x:Int).toNat * 1)
noncomputable def coV3 (m:List Int) (d:Nat):Prop := (Value.slice (some (ad0 1)) m.length d=Value.slice (some (ad0 1)) m.length d)
noncomputable def coV4  (x:Nat) (y:Nat):Prop := (IntKind.i64.wrap ((x:Int)+(1:Int))=(y:Int))
noncomputable def coV5 (m:List Int) (x:Nat):Bool := (getI (List.map coV0 m) (coV2 x) !=getI (List.map coV0 m) (coV2 x))
noncomputable def coV6 (l:List Int):Prop := ((l.length:Int)=(l.length:Int))
noncomputable def coV7 (l:List Int) := (AObj.ro (List.map coV0 l))
noncomputable def coV8 (m:List Int) := (AObj.ro (List.map coV0 m))
noncomputable def coV9 (l:List Int) (x:Nat) (y:Nat):Prop := (l.length-y<l.length-x)
noncomputable def coV10 (l:List Int) (m:List Int) (y:Nat):Prop := (y≤l.length∧sameTo l m y)
noncomputable def coV :=
fun (l m:List Int) (c d:Nat)↦(∃ (y:Nat),Ob (coV10 l m y)∧(Ob (AObj.ro (List.map coV0 l)=AObj.ro (List.map (nmap1 fun (b:Nat)↦b) (List.map coV0 l))∧AObj.sc 2 (coV7 l)=true)∧Ob (AObj.ro (List.map coV0 m)=AObj.ro (List.map (nmap1 fun (b:Nat)↦b) (List.map coV0 m))∧AObj.sc 2 (coV8 m)=true)∧True)∧Ob (coV1 l c)∧Ob (coV3 m d)∧Ob (coV1 l c)∧Ob (coV6 l)∧Ob ((0:Int)=(y:Int))∧True)∧∀ (x:Nat),Ob (x≤l.length∧sameTo l m x)→(decide ((x:Int)<(l.length:Int))=true→Ob ((0:Int)≤(x:Int)∧(x:Int)<(l.length:Int)∧true=true)∧Ob (IntAt IntKind.i64 (List.map coV0 l) (coV2 x))∧(decide ((m.length:Int)≤(x:Int))=true→True∧Ob (vi (1:Int)=vi (cmpF l m)))∧(decide ((m.length:Int)≤(x:Int))=false→Ob ((0:Int)≤(x:Int)∧(x:Int)<(m.length:Int)∧true=true)∧Ob (IntAt IntKind.i64 (List.map coV0 m) (coV2 x))∧((getI (List.map coV0 l) (coV2 x) !=getI (List.map coV0 l) (coV2 x))=true→((coV5 m x)=true→(false=true→True∧Ob (vi (0:Int)=vi (cmpF l m)))∧(false=false→∃ (y:Nat),Ob (coV10 l m y)∧Ob (coV9 l x y)∧(Ob (AObj.ro (List.map coV0 l)=AObj.ro (List.map (nmap1 fun (b:Nat)↦b) (List.map coV0 l))∧AObj.sc 2 (coV7 l)=true)∧Ob (AObj.ro (List.map coV0 m)=AObj.ro (List.map (nmap1 fun (b:Nat)↦b) (List.map coV0 m))∧AObj.sc 2 (coV8 m)=true)∧True)∧Ob (coV1 l c)∧Ob (coV3 m d)∧Ob (coV1 l c)∧Ob (coV6 l)∧Ob (coV4 x y)∧True))∧((coV5 m x)=false→(true=true→True∧Ob (vi (-1:Int)=vi (cmpF l m)))∧(true=false→∃ (y:Nat),Ob (coV10 l m y)∧Ob (coV9 l x y)∧(Ob (AObj.ro (List.map coV0 l)=AObj.ro (List.map (nmap1 fun (b:Nat)↦b) (List.map coV0 l))∧AObj.sc 2 (coV7 l)=true)∧Ob (AObj.ro (List.map coV0 m)=AObj.ro (List.map (nmap1 fun (b:Nat)↦b) (List.map coV0 m))∧AObj.sc 2 (coV8 m)=true)∧True)∧Ob (coV1 l c)∧Ob (coV3 m d)∧Ob (coV1 l c)∧Ob (coV6 l)∧Ob (coV4 x y)∧True)))∧((getI (List.map coV0 l) (coV2 x) !=getI (List.map coV0 l) (coV2 x))=false→((coV5 m x)=true→(true=true→True∧Ob (vi (1:Int)=vi (cmpF l m)))∧(true=false→∃ (y:Nat),Ob (coV10 l m y)∧Ob (coV9 l x y)∧(Ob (AObj.ro (List.map coV0 l)=AObj.ro (List.map (nmap1 fun (b:Nat)↦b) (List.map coV0 l))∧AObj.sc 2 (coV7 l)=true)∧Ob (AObj.ro (List.map coV0 m)=AObj.ro (List.map (nmap1 fun (b:Nat)↦b) (List.map coV0 m))∧AObj.sc 2 (coV8 m)=true)∧True)∧Ob (coV1 l c)∧Ob (coV3 m d)∧Ob (coV1 l c)∧Ob (coV6 l)∧Ob (coV4 x y)∧True))∧((coV5 m x)=false→(decide (getI (List.map coV0 l) (coV2 x)<getI (List.map coV0 m) (coV2 x))=true→(true=true→True∧Ob (vi (-1:Int)=vi (cmpF l m)))∧(true=false→∃ (y:Nat),Ob (coV10 l m y)∧Ob (coV9 l x y)∧(Ob (AObj.ro (List.map coV0 l)=AObj.ro (List.map (nmap1 fun (b:Nat)↦b) (List.map coV0 l))∧AObj.sc 2 (coV7 l)=true)∧Ob (AObj.ro (List.map coV0 m)=AObj.ro (List.map (nmap1 fun (b:Nat)↦b) (List.map coV0 m))∧AObj.sc 2 (coV8 m)=true)∧True)∧Ob (coV1 l c)∧Ob (coV3 m d)∧Ob (coV1 l c)∧Ob (coV6 l)∧Ob (coV4 x y)∧True))∧(decide (getI (List.map coV0 l) (coV2 x)<getI (List.map coV0 m) (coV2 x))=false→(decide (getI (List.map coV0 m) (coV2 x)<getI (List.map coV0 l) (coV2 x))=true→(true=true→True∧Ob (vi (1:Int)=vi (cmpF l m)))∧(true=false→∃ (y:Nat),Ob (coV10 l m y)∧Ob (coV9 l x y)∧(Ob (AObj.ro (List.map coV0 l)=AObj.ro (List.map (nmap1 fun (b:Nat)↦b) (List.map coV0 l))∧AObj.sc 2 (coV7 l)=true)∧Ob (AObj.ro (List.map coV0 m)=AObj.ro (List.map (nmap1 fun (b:Nat)↦b) (List.map coV0 m))∧AObj.sc 2 (coV8 m)=true)∧True)∧Ob (coV1 l c)∧Ob (coV3 m d)∧Ob (coV1 l c)∧Ob (coV6 l)∧Ob (coV4 x y)∧True))∧(decide (getI (List.map coV0 m) (coV2 x)<getI (List.map coV0 l) (coV2 x))=false→(false=true→True∧Ob (vi (0:Int)=vi (cmpF l m)))∧(false=false→∃ (y:Nat),Ob (coV10 l m y)∧Ob (coV9 l x y)∧(Ob (AObj.ro (List.map coV0 l)=AObj.ro (List.map (nmap1 fun (b:Nat)↦b) (List.map coV0 l))∧AObj.sc 2 (coV7 l)=true)∧Ob (AObj.ro (List.map coV0 m)=AObj.ro (List.map (nmap1 fun (b:Nat)↦b) (List.map coV0 m))∧AObj.sc 2 (coV8 m)=true)∧True)∧Ob (coV1 l c)∧Ob (coV3 m d)∧Ob (coV1 l c)∧Ob (coV6 l)∧Ob (coV4 x y)∧True)))))))∧(decide ((x:Int)<(l.length:Int))=false→(decide ((l.length:Int)<(m.length:Int))=true→True∧Ob (vi (-1:Int)=vi (cmpF l m)))∧(decide ((l.length:Int)<(m.length:Int))=false→True∧Ob (vi (0:Int)=vi (cmpF l m))))
theorem coV_eq : coV = fun (l m : List Int) (c d : Nat) => vc Try.prog coE 2 36 true (coI l m c d) coB [] (argFr 0 [.slice (some ⟨0,0,none⟩) l.length c,.slice (some ⟨1,0,none⟩) m.length d]) [ros l,ros m] (retK Try.prog Try.f103 (fun v _ => v = vi (cmpF l m))) := by kernel_rfl
theorem ciV_ok (l : List Int) (c : Nat) (hl : l.length≤1000000) : ciV l c := by
 unfold ciV ciV2 ciV1 ciV0
 simp only [SS,reduceCtorEq,Arg.list,Arg.num,Arg.flag,intOf,andP,Nat.reduceLeDiff,Nat.reduceAdd,Nat.reduceMul,Nat.reduceLT]
 refine ⟨fun h1 => ⟨fun h2 => ?_,fun h2 => ⟨by omega,fun h3 => ?_,fun h3 => ⟨by omega,fun h4 => ?_,fun h4 => ?_⟩⟩⟩,fun h1 => ?_⟩
 · rw [errC,if_pos (by omega)]
 · rw [errC,if_neg (by omega),if_pos h3]
 · rw [errC,if_neg (by omega),if_neg (by rw [h3]; exact Bool.noConfusion),if_pos h4]
 · rw [errC,if_neg (by omega),if_neg (by rw [h3]; exact Bool.noConfusion),if_neg (by rw [h4]; exact Bool.noConfusion)]
 · rw [errC,if_pos (by omega)]
theorem ciN_ok (u : Unit) : ciN u := by
 unfold ciN
 simp only [SS,reduceCtorEq,Arg.list,Arg.num,Arg.flag,intOf,andP,Nat.reduceLeDiff,Nat.reduceAdd,Nat.reduceMul,Nat.reduceLT]
theorem ciH_ok (s : Option Nat) (c : Nat) : ciH s c := by
 unfold ciH
 simp only [SS,reduceCtorEq,Arg.list,Arg.num,Arg.flag,intOf,andP,Nat.reduceLeDiff,Nat.reduceAdd,Nat.reduceMul,Nat.reduceLT]
theorem ciE_ok : VOk Try.prog ciE := VOk.ofCt ((CtOk.none.add wiG_ok).add aiG_ok)
def ciS (r : List Arg) : Prop × Value := match r with
 | [.ints _ l] => (l.length≤1000000,vi (errC l))
 | [_] => (True,vi 6)
 | _ => (False,undef)
theorem ciG_ok : ∀ args H φ v H' l,pureG [.ints .i64] ciS args H = some (φ,v,H',l)→Asks φ→Call Try.prog 22 args H (fun v' H2 => v' = v∧H2 = H')∧Kept H H' l :=
 pureG_ok fun r hk hs => match r,hk with
   | [_],⟨hl,_⟩ => by
     rcases hl with rfl | ⟨s,rfl⟩ | ⟨l,rfl⟩
     · exact ⟨rfl,fun caps => Call.ofVc ciE_ok mixed (c := ciB) Try.func22 (by kernel_rfl) (cast (congrFun ciN_eq ()) (ciN_ok ()))⟩
     · exact ⟨rfl,fun caps => Call.ofVc ciE_ok mixed (c := ciB) Try.func22 (by kernel_rfl) (cast (congrFun (congrFun ciH_eq s) _) (ciH_ok s _))⟩
     · exact ⟨rfl,fun caps => Call.ofVc ciE_ok mixed (c := ciB) Try.func22 (by kernel_rfl) (cast (congrFun (congrFun ciV_eq l) _) (ciV_ok l _ hs))⟩
theorem ix5 {f : Nat→Int} {x : Nat} (h : x < 5) : aIndex Try.prog 71 (.agg ⟨[vi (f 0),vi (f 1),vi (f 2),vi (f 3),vi (f 4)]⟩) (vi (x : Int)) = some (vi (f x)) := by
 rcases x with _ | _ | _ | _ | _ | x <;> first | omega | kernel_rfl
theorem gi5 {f : Nat→Int} {x : Nat} (h : x < 5) : getI [vi (f 0),vi (f 1),vi (f 2),vi (f 3),vi (f 4)] x = f x := I5_getI h
theorem pf_le {f : Nat→Int} (h : smallP f) : ∀ i,i≤5→0≤pf f i∧pf f i≤100000 * i
 | 0,_ => by simp [pf]
 | i + 1,hi => by
   have := pf_le h i (by omega)
   have := h.at (a := i) (by omega)
   rw [pf]; omega
theorem maV_ok (f : Nat→Int) (h : smallP f) : maV f := by
 unfold maV maV0
 simp only [SS,reduceCtorEq,Arg.list,Arg.num,Arg.flag,intOf,andP,Nat.reduceLeDiff,Nat.reduceAdd,Nat.reduceMul,Nat.reduceLT]
 refine ⟨⟨0,by omega,rfl,rfl⟩,fun x hx => ⟨fun h1 => ?_,fun h1 => ?_⟩⟩
 · have hx5 : x < 5 := by omega
   have h2 := pf_le h x (by omega)
   have h3 := h.at hx5
   rw [gi5 hx5]
   exact ⟨ix5 hx5,x + 1,by omega,by omega,by rw [wrap_in (by omega) (by omega)]; rfl,wrap_succ (n := 5) hx5 (by omega)⟩
 · rw [show x = 5 by omega]
   simp [pf,m5]
theorem maE_ok : VOk Try.prog maE := ⟨CtOk.none,E0_ok.cc,E0_ok.yc,orcIx_ok⟩
theorem ma_call (f : Nat→Int) (h : smallP f) : Call Try.prog 64 [C5 f] [] fun v _ => v = vi (m5 f) :=
 Call.ofVc maE_ok mixed (c := maB) Try.func64 (by kernel_rfl) (cast (congrFun maV_eq f) (maV_ok f h))
theorem cmp_at : ∀ {l m : List Int} {i : Nat},sameTo l m i→i < l.length→i < m.length→l.getD i 0 ≠ m.getD i 0→cmpF l m = if l.getD i 0 < m.getD i 0 then -1 else 1
 | a :: l,b :: m,0,_,_,_,h => by
   simp only [List.getD_cons_zero] at h ⊢
   unfold cmpF
   split
   · rfl
   · rw [if_pos (by omega)]
 | a :: l,b :: m,i + 1,hs,hl,hm,h => by
   have h0 := hs 0 (by omega)
   simp only [List.getD_cons_zero] at h0
   simp only [List.getD_cons_succ] at h ⊢
   unfold cmpF
   rw [if_neg (by omega),if_neg (by omega)]
   exact cmp_at (fun j hj => by have := hs (j + 1) (by omega); simpa only [List.getD_cons_succ] using this) (by simpa using hl) (by simpa using hm) h
 | [],_,_,_,h,_,_ => by simp at h
 | _ :: _,[],_,_,_,h,_ => by simp at h
theorem cmp_same : ∀ {l m : List Int},l.length = m.length→sameTo l m l.length→cmpF l m = 0
 | [],[],_,_ => rfl
 | a :: l,b :: m,hl,hs => by
   have h0 := hs 0 (by simp)
   simp only [List.getD_cons_zero] at h0
   unfold cmpF
   rw [if_neg (by omega),if_neg (by omega)]
   exact cmp_same (by simpa using hl) (fun j hj => by have := hs (j + 1) (by simpa using hj); simpa only [List.getD_cons_succ] using this)
 | [],_ :: _,h,_ => by simp at h
 | _ :: _,[],h,_ => by simp at h
theorem coV_ok (l m : List Int) (c d : Nat) (h : l.length = m.length) (hl : l.length≤1000000) : coV l m c d := by
 unfold coV coV10 coV9 coV8 coV7 coV6 coV5 coV4 coV3 coV2 coV1 coV0
 simp only [SS,reduceCtorEq,Arg.list,Arg.num,Arg.flag,intOf,andP,Nat.reduceLeDiff,Nat.reduceAdd,Nat.reduceMul,Nat.reduceLT]
 refine ⟨⟨0,⟨by omega,all_none⟩,rfl⟩,fun x ⟨hx,hs⟩ => ⟨fun h1 => ⟨by omega,by omega,fun h2 => by omega,fun h2 => ⟨by omega,by omega,fun h3 => ?_,fun h3 => ?_⟩⟩,fun h1 => ⟨fun h2 => by omega,fun h2 => (cmp_same h (by rw [show l.length = x by omega]; exact hs)).symm⟩⟩⟩
 · rw [cmp_at hs (by omega) (by omega) (by omega),if_pos h3]
 · refine ⟨fun h4 => ?_,fun h4 => ⟨x + 1,⟨by omega,all_snoc hs (by omega)⟩,by omega,wrap_succ (n := l.length) (by omega) hl⟩⟩
   rw [cmp_at hs (by omega) (by omega) (by omega),if_neg (by omega)]
theorem coE1_ok : VOk Try.prog coE1 := ⟨CtOk.none,ccIn_ok E0_ok mixed (inl_one Try.func112),E0_ok.yc,E0_ok.orc⟩
theorem coE_ok : VOk Try.prog coE := ⟨CtOk.none,ccIn_ok coE1_ok mixed (inl_one Try.func108),E0_ok.yc,E0_ok.orc⟩
def coS (r : List Arg) : Prop × Value := match r with
 | [.ints _ l,.ints _ m] => (l.length = m.length∧l.length≤1000000,vi (cmpF l m))
 | _ => (False,undef)
theorem coG_ok : ∀ args H φ v H' l,pureG [.ints .i64,.ints .i64] coS args H = some (φ,v,H',l)→Asks φ→Call Try.prog 103 args H (fun v' H2 => v' = v∧H2 = H')∧Kept H H' l :=
 pureG_ok fun r hk hs => match r,hk with
   | [_,_],⟨hl,hm,_⟩ => by
     rcases hl with rfl | ⟨s,rfl⟩ | ⟨l,rfl⟩
     · exact hs.elim
     · exact hs.elim
     · rcases hm with rfl | ⟨s,rfl⟩ | ⟨m,rfl⟩
       · exact hs.elim
       · exact hs.elim
       · exact ⟨rfl,fun caps => Call.ofVc coE_ok mixed (c := coB) Try.func103 (by kernel_rfl) (cast (congrFun (congrFun (congrFun (congrFun coV_eq l) m) _) _) (coV_ok l m _ _ hs.1 hs.2))⟩
end Go.Pier.Fl
namespace Go.Pier.Fl
open Go Go.Pier Go.Proofs
abbrev kA (a : Int) : Value := .agg #[vi a]
def uA : Value→Int
 | .agg ⟨[.int .i64 n]⟩ => n
 | _ => 0
noncomputable def fs115 : Array Field := match Try.prog.underlying 115 with | some (.struct f) => f | _ => #[]
noncomputable def fd115 : Field := fs115.toList.getD 0 default
theorem one115 : OneNum Try.prog 115 fd115 where
 ud := ⟨fs115,by kernel_rfl,by kernel_rfl⟩
 st := by kernel_rfl
 n0 := of_decide_eq_true (by kernel_rfl)
 t0 := by kernel_rfl
 p0 := fun a => by kernel_rfl
theorem key115 : KeyOk Try.prog 115 (fun _ : Int => True) kA where
 eq := fun a b _ _ => by
   show pureRun Try.prog (Op.equalIn (9998 + 2) 115 _ _) = _
   rw [one115.eq]; rfl
 now := ⟨.struct fs115,by kernel_rfl,fun _ _ _ _ => rfl⟩
 chk := fun e a _ => by cases e <;> kernel_rfl
 bits := fun a _ => by simp [Instr.sameBits]
 sc := fun a _ => by simp [sc2,sc1,sc0]
theorem u112 : Try.prog.underlying 112 = some (.map 115 71) := by kernel_rfl
theorem z71 : zeroT Try.prog 71 = some (C5 z5) := by kernel_rfl
theorem u71 : Try.prog.underlying 71 = some (.array 5 2) := by kernel_rfl
theorem u2 : Try.prog.underlying 2 = some (.int .i64) := by kernel_rfl
theorem part5 {f : Nat→Int} {i : Nat} (h : i < 5) : pureRun Try.prog (part 2 #[vi (f 0),vi (f 1),vi (f 2),vi (f 3),vi (f 4)] (i * 1)) = some (vi (f i)) := by
 rcases i with _ | _ | _ | _ | _ | i <;> first | omega | kernel_rfl
theorem eq5 (d : Nat) (f g : Nat→Int) : pureRun Try.prog (Op.equalIn (d + 2) 71 (C5 f) (C5 g)) = some ((List.range' 0 5).all fun i => f i == g i) := by
 unfold Op.equalIn C5
 rw [pureRun_bind (undl u71)]
 simp only []
 rw [pureRun_bind (show pureRun Try.prog (sizeOf 2) = some 1 by kernel_rfl)]
 simp only [Std.Legacy.Range.forIn_eq_forIn_range']
 rw [pureRun_bind (loop_all (e := fun i => f i == g i) _ fun i hi s => ?_)]
 · have e8 : List.range' 0 ([:5] : Std.Legacy.Range).size = List.range' 0 5 := rfl
   rw [e8]
   cases (List.range' 0 5).all fun i => f i == g i <;> rfl
 · have hi5 : i < 5 := by
     have : i ∈ List.range' 0 5 := hi
     simp [List.mem_range'] at this
     omega
   rw [pureRun_bind (part5 hi5),pureRun_bind (part5 hi5),pureRun_bind (eqNum _ u2 _ _)]
   cases f i == g i <;> rfl
def same5 (f g : Nat→Int) : Bool := (f 0 == g 0) && ((f 1 == g 1) && ((f 2 == g 2) && ((f 3 == g 3) && (f 4 == g 4))))
theorem ev5 {x y : Operand} {f g : Nat→Int} : evBin Try.prog .eql 71 x y (C5 f) (C5 g) = some (.bool (same5 f g)) := by
 have hsc : ∀ f,sc 0 (C5 f) = true := fun f => by simp [C5,sc,sc2,sc1,sc0]
 have hg : pureRun Try.prog (eqGuard .eql 71 x y (C5 f) (C5 g)) = some () := by
   have hp : pureRun Try.prog program = some Try.prog := rfl
   have hgd : Program.eqGuardType Try.prog Try.prog.depth 71 = false := by kernel_rfl
   unfold eqGuard C5
   simp only [Bool.not_true,Bool.false_eq_true,if_false]
   rw [pureRun_bind hp,pureRun_bind hp,hgd]
   rfl
 unfold evBin
 rw [if_pos ⟨hsc f,hsc g⟩,pureRun_bind hg]
 have : pureRun Try.prog (binOp .eql 71 (C5 f) (C5 g)) = some (.bool (same5 f g)) := by
   show pureRun Try.prog (Op.equalIn (9998 + 2) 71 (C5 f) (C5 g) >>= fun r => (pure (Value.bool r) : Sem Value)) = _
   rw [pureRun_bind (eq5 9998 f g)]
   simp only [same5,List.range',List.all_cons,List.all_nil,Bool.and_true,Nat.reduceAdd]
   rfl
 rw [this]; rfl
noncomputable def orcEq5 : Orc := fun env H o => match o.op with
 | .binOp op t x y _ => match Nat.beq t 71 with
   | true => match env x,env y with
     | some (.agg ⟨[.int .i64 a0,.int .i64 a1,.int .i64 a2,.int .i64 a3,.int .i64 a4]⟩),some (.agg ⟨[.int .i64 b0,.int .i64 b1,.int .i64 b2,.int .i64 b3,.int .i64 b4]⟩) => match op with
       | .eql => some (True,some (.bool ((a0 == b0) && ((a1 == b1) && ((a2 == b2) && ((a3 == b3) && (a4 == b4)))))),H)
       | _ => none
     | _,_ => none
   | false => none
 | _ => none
def l5 (a0 a1 a2 a3 a4 : Int) : Nat→Int
 | 0 => a0 | 1 => a1 | 2 => a2 | 3 => a3 | 4 => a4 | _ => 0
theorem orcEq5_ok : OrcOk Try.prog orcEq5 := fun env H o φ v H' h hφ => by
 unfold orcEq5 at h
 split at h <;> try (cases h; done)
 rename_i op t x y yt hop
 split at h <;> try (cases h; done)
 rename_i ht
 obtain rfl := Nat.eq_of_beq_eq_true ht
 split at h <;> try (cases h; done)
 rename_i a0 a1 a2 a3 a4 b0 b1 b2 b3 b4 ha hb
 split at h <;> cases h
 unfold evOp
 rw [hop]
 have := ev5 (x := x) (y := y) (f := l5 a0 a1 a2 a3 a4) (g := l5 b0 b1 b2 b3 b4)
 simp only [ha,hb,show evBin Try.prog .eql 71 x y (.agg ⟨[vi a0,vi a1,vi a2,vi a3,vi a4]⟩) (.agg ⟨[vi b0,vi b1,vi b2,vi b3,vi b4]⟩) = _ from this,Option.map_some,outOf]
 rfl
end Go.Pier.Fl
namespace Go.Pier.Fl
open Go Go.Pier Go.Proofs
def maS : List Arg3→Option (Prop × Value)
 | [.agg [.plain (.int .i64 a0),.plain (.int .i64 a1),.plain (.int .i64 a2),.plain (.int .i64 a3),.plain (.int .i64 a4)]] => some (smallP (l5 a0 a1 a2 a3 a4),vi (m5 (l5 a0 a1 a2 a3 a4)))
 | _ => none
abbrev ps5 : K3 := .agg [.int .i64,.int .i64,.int .i64,.int .i64,.int .i64]
noncomputable def btE : VEnv := { ct := (Ct.none.add 64 (pure3 [ps5] maS)).add 103 (pureG [.ints .i64,.ints .i64] coS),orc := orcSh Try.prog }
noncomputable def btB : Code := Try.f90.body.getD .skip
def tillO (n c : Nat) (zl : List Int) : AObj := .rw (.slice (some ⟨0,0,none⟩) n c :: zl.map (.int .i64)) none
def btrV (n : Nat) (f g : Nat→Int) : Bool := bif m5 f == m5 g then decide (cmpF ((L5 f).take n) ((L5 g).take n) < 0) else decide (m5 f < m5 g)
noncomputable def btV0 (l:List Int) (f:Nat→Int) := (List.take (l.length:Int).toNat [intOf (vi (f 0)),intOf (vi (f 1)),intOf (vi (f 2)),intOf (vi (f 3)),intOf (vi (f 4))])
noncomputable def btV1 (l:List Int) (g:Nat→Int) := (List.take (l.length:Int).toNat [intOf (vi (g 0)),intOf (vi (g 1)),intOf (vi (g 2)),intOf (vi (g 3)),intOf (vi (g 4))])
noncomputable def btV2 (l:List Int) (c:Nat) (zl:List Int) := (Value.slice (some (ad0 0)) l.length c::List.map (Value.int IntKind.i64) zl)
noncomputable def btV3 (f:Nat→Int) := (l5 (f 0) (f 1) (f 2) (f 3) (f 4))
noncomputable def btV4 (g:Nat→Int) := (l5 (g 0) (g 1) (g 2) (g 3) (g 4))
noncomputable def btV5 (l:List Int) := (List.map (Value.int IntKind.i64) l)
noncomputable def btV :=
fun (l:List Int) (c:Nat) (zl:List Int) (f g:Nat→Int)↦Ob (smallP (btV3 f))∧Ob (smallP (btV4 g))∧((m5 (btV3 f) !=m5 (btV4 g))=true→(Ob (AObj.ro (btV5 l)=AObj.ro (List.map (nmap1 fun (b:Nat)↦b) (btV5 l))∧AObj.sc 2 (AObj.ro (btV5 l))=true)∧Ob (AObj.rw (btV2 l c zl) none=AObj.rw (List.map (nmap1 fun (b:Nat)↦b) (btV2 l c zl)) none∧AObj.sc 2 (AObj.rw (btV2 l c zl) none)=true)∧True)∧Ob (decide (m5 (btV3 f)<m5 (btV4 g))=btrV l.length f g)∧True)∧((m5 (btV3 f) !=m5 (btV4 g))=false→Ob ((0:Int)≤(l.length:Int)∧(l.length:Int)≤(↑(5:Nat):Int))∧Ob ((0:Int)≤(l.length:Int)∧(l.length:Int)≤(↑(5:Nat):Int))∧Ob (((List.take (l.length:Int).toNat [vi (f 0),vi (f 1),vi (f 2),vi (f 3),vi (f 4)]=List.map (Value.int IntKind.i64) (btV0 l f)∧0+(l.length:Int).toNat≤5∧true=true)∧List.take (l.length:Int).toNat [vi (g 0),vi (g 1),vi (g 2),vi (g 3),vi (g 4)]=List.map (Value.int IntKind.i64) (btV1 l g)∧0+(l.length:Int).toNat≤5∧true=true)∧(btV0 l f).length=(btV1 l g).length∧(btV0 l f).length≤1000000)∧(Ob (AObj.ro (btV5 l)=AObj.ro (List.map (nmap1 fun (b:Nat)↦b) (btV5 l))∧AObj.sc 2 (AObj.ro (btV5 l))=true)∧Ob (AObj.rw (btV2 l c zl) none=AObj.rw (List.map (nmap1 fun (b:Nat)↦b) (btV2 l c zl)) none∧AObj.sc 2 (AObj.rw (btV2 l c zl) none)=true)∧True)∧Ob (decide (cmpF (btV0 l f) (btV1 l g)<(0:Int))=btrV l.length f g)∧True)
noncomputable def anE : VEnv := { orc := orcEq5 }
noncomputable def acE : VEnv := { cc := ccIn Try.prog anE [⟨94,Try.f94,fun _ _ _ => none⟩] }
noncomputable def acB : Code := Try.f68.body.getD .skip
noncomputable def acV :=
fun (f:Nat→Int) (a:Int)↦((a==(0:Int))=false→Ob True∧True∧Ob ((Value.bool !(f 0==(0:Int) && (f 1==(0:Int) && (f 2==(0:Int) && (f 3==(0:Int) && f 4==(0:Int))))))=Value.bool (a==(0:Int) || !same5 f z5)))∧((a==(0:Int))=true→True∧Ob (Value.bool true=Value.bool (a==(0:Int) || !same5 f z5)))
theorem acV_eq : acV = fun (f : Nat→Int) (a : Int) => vc Try.prog acE 0 12 true (fun _ => none) acB [] (argFr 0 [C5 f,vi a]) [] (retK Try.prog Try.f68 (fun v _ => v = .bool ((a == 0) || !(same5 f z5)))) := by kernel_rfl
theorem til_sc {k n c : Nat} {zl : List Int} : AObj.sc (k + 1) (.rw (Value.slice (some (ad0 0)) n c :: List.map (Value.int .i64) zl) none) = true := by
 show ((Value.slice (some (ad0 0)) n c :: List.map (Value.int .i64) zl).all (sc1 (k + 1))) = true
 simp [sc1,sc0]
theorem nm_sl {n c : Nat} : nmap1 (fun b => b) (Value.slice (some (ad0 0)) n c) = Value.slice (some (ad0 0)) n c := rfl
theorem L5_of {f : Nat→Int} {n : Nat} : List.take n [vi (f 0),vi (f 1),vi (f 2),vi (f 3),vi (f 4)] = List.map (Value.int .i64) (List.take n (L5 f)) := by
 rw [List.map_take]; rfl
theorem btV_ok (l : List Int) (c : Nat) (zl : List Int) (f g : Nat→Int) (hl : l.length≤5) (hf : smallP f) (hg : smallP g) : btV l c zl f g := by
 unfold btV btV5 btV4 btV3 btV2 btV1 btV0
 simp only [SS,reduceCtorEq,Arg.list,Arg.num,Arg.flag,intOf,andP,Nat.reduceLeDiff,Nat.reduceAdd,Nat.reduceMul,Nat.reduceLT,til_sc,nm_sl]
 have ef : m5 (l5 (f 0) (f 1) (f 2) (f 3) (f 4)) = m5 f := rfl
 have eg : m5 (l5 (g 0) (g 1) (g 2) (g 3) (g 4)) = m5 g := rfl
 have lf : (L5 f).length = 5 := rfl
 have lg : (L5 g).length = 5 := rfl
 refine ⟨hf,hg,fun h1 => ?_,fun h1 => ⟨⟨by omega,by omega⟩,⟨by omega,by omega⟩,⟨⟨⟨L5_of,by omega⟩,L5_of,by omega⟩,?_,?_⟩,?_⟩⟩
 · rw [ef,eg] at *
   rw [btrV,show (m5 f == m5 g) = false by simpa using h1]; rfl
 · simp
 · simp; omega
 · rw [ef,eg] at h1
   rw [btrV,show (m5 f == m5 g) = true by simpa using h1]; rfl
theorem maG_ok : ∀ args H φ v H' l,pure3 [ps5] maS args H = some (φ,v,H',l)→Asks φ→Call Try.prog 64 args H (fun v' H2 => v' = v∧H2 = H')∧Kept H H' l :=
 pure3_ok fun r ψ v hk hs hψ => match r,hk with
   | [.agg [_,_,_,_,_]],⟨⟨⟨a0,h0⟩,⟨a1,h1⟩,⟨a2,h2⟩,⟨a3,h3⟩,⟨a4,h4⟩,_⟩,_⟩ => by
     subst h0; subst h1; subst h2; subst h3; subst h4
     cases hs
     exact ⟨rfl,fun caps hcaps => ma_call (l5 a0 a1 a2 a3 a4) hψ⟩
theorem btE_ok : VOk Try.prog btE := ⟨(CtOk.none.add maG_ok).add coG_ok,E0_ok.cc,E0_ok.yc,orcSh_ok⟩
theorem bt_call (l : List Int) (c : Nat) (zl : List Int) (f g : Nat→Int) (hl : l.length≤5) (hf : smallP f) (hg : smallP g) : Call Try.prog 90 [ptr0 1,C5 f,C5 g] [ros l,tillO l.length c zl] fun v H' => v = .bool (btrV l.length f g)∧H' = [ros l,tillO l.length c zl] :=
 Call.ofVcR (H := [ros l,tillO l.length c zl]) (args := [ptr0 1,C5 f,C5 g]) (σ := fun b => b) (v2 := .bool (btrV l.length f g)) (H2 := [ros l,tillO l.length c zl]) btE_ok mixed (c := btB) (inv := fun _ => none) Try.func90 (by kernel_rfl) (cast (by kernel_rfl) (btV_ok l c zl f g hl hf hg))
theorem acV_ok (f : Nat→Int) (a : Int) : acV f a := by
 unfold acV
 simp only [SS,reduceCtorEq,Arg.list,Arg.num,Arg.flag,intOf,andP,Nat.reduceLeDiff,Nat.reduceAdd,Nat.reduceMul,Nat.reduceLT]
 refine ⟨fun h => ?_,fun h => ?_⟩
 · rw [show (a == 0) = false by simpa using h]; rfl
 · rw [h]; rfl
theorem anE_ok : VOk Try.prog anE := ⟨CtOk.none,E0_ok.cc,E0_ok.yc,orcEq5_ok⟩
theorem acE_ok : VOk Try.prog acE := ⟨CtOk.none,ccIn_ok anE_ok mixed (inl_one Try.func94),E0_ok.yc,E0_ok.orc⟩
theorem ac_call (f : Nat→Int) (a : Int) : Call Try.prog 68 [C5 f,vi a] [] fun v _ => v = .bool ((a == 0) || !(same5 f z5)) :=
 Call.ofVc acE_ok mixed (c := acB) (inv := fun _ => none) Try.func68 (by kernel_rfl) (cast (congrFun (congrFun acV_eq f) a) (acV_ok f a))
def acS : List Arg3→Option (Prop × Value)
 | [.agg [.plain (.int .i64 a0),.plain (.int .i64 a1),.plain (.int .i64 a2),.plain (.int .i64 a3),.plain (.int .i64 a4)],.one (.plain (.int .i64 a))] => some (True,.bool ((a == 0) || !(same5 (l5 a0 a1 a2 a3 a4) z5)))
 | _ => none
theorem acG_ok : ∀ args H φ v H' l,pure3 [ps5,.one (.int .i64)] acS args H = some (φ,v,H',l)→Asks φ→Call Try.prog 68 args H (fun v' H2 => v' = v∧H2 = H')∧Kept H H' l :=
 pure3_ok fun r ψ v hk hs hψ => match r,hk with
   | [.agg [_,_,_,_,_],.one _],⟨⟨⟨a0,h0⟩,⟨a1,h1⟩,⟨a2,h2⟩,⟨a3,h3⟩,⟨a4,h4⟩,_⟩,⟨a,ha⟩,_⟩ => by
     subst h0; subst h1; subst h2; subst h3; subst h4; subst ha
     cases hs
     exact ⟨rfl,fun caps hcaps => ac_call (l5 a0 a1 a2 a3 a4) a⟩
def AtT (l : List Int) (c : Nat) (zl : List Int) (H : Heap) : Prop := H[0]? = some (ros l)∧H[1]? = some (tillO l.length c zl)
theorem ros_omap {σ : Nat→Nat} {l : List Int} : omap σ (ros l) = ros l := by
 show AObj.ro ((l.map (.int .i64)).map (nmap1 σ)) = _
 rw [nmap1_all all_sc_int]; rfl
theorem ros_sc {l : List Int} {n : Nat} : (ros l).sc n = true := List.all_eq_true.2 fun u hu => by
 obtain ⟨x,_,rfl⟩ := List.mem_map.1 hu; rfl
theorem ros_nm {l : List Int} {p : Nat→Bool} : (ros l).nm p = true := List.all_eq_true.2 fun u hu => by
 obtain ⟨x,_,rfl⟩ := List.mem_map.1 hu; rfl
theorem til_omap {σ : Nat→Nat} {n c : Nat} {zl : List Int} (h : σ 0 = 0) : omap σ (tillO n c zl) = tillO n c zl := by
 show AObj.rw ((Value.slice (some (ad0 0)) n c :: zl.map (.int .i64)).map (nmap1 σ)) none = _
 rw [List.map_cons,nmap1_all all_sc_int]
 show AObj.rw (Value.slice (some ⟨σ 0,0,none⟩) n c :: _) none = _
 rw [h]; rfl
theorem til_nm {n c : Nat} {zl : List Int} {p : Nat→Bool} (h : p 0 = true) : (tillO n c zl).nm p = true := by
 show ((Value.slice (some (ad0 0)) n c :: zl.map (.int .i64)).all (nm1 p)) = true
 rw [List.all_cons]
 simp only [Bool.and_eq_true,List.all_eq_true]
 refine ⟨h,fun u hu => ?_⟩
 obtain ⟨x,_,rfl⟩ := List.mem_map.1 hu; rfl
theorem till_frame {fn : FuncId} {l : List Int} {c : Nat} {zl : List Int} {H : Heap} {rest : List Value} {v : Value} (hA : AtT l c zl H) (hr : rest.all (sc 0) = true)
   (h : Call Try.prog fn (ptr0 1 :: rest) [ros l,tillO l.length c zl] fun v' F' => v' = v∧F' = [ros l,tillO l.length c zl]) (hv : sc 0 v = true) :
   Call Try.prog fn (ptr0 1 :: rest) H fun v' H2 => v' = v∧H2 = H := by
 have hargs : ptr0 1 :: rest = (ptr0 1 :: rest).map (nmap fun c => [0,1].getD c 0) := by
   rw [List.map_cons]
   congr 1
   exact (List.map_congr_left fun x hx => nmap_closed (List.all_eq_true.1 hr x hx)).trans (List.map_id _) |>.symm
 have hsa : (ptr0 1 :: rest).all (sc 2) = true := by
   rw [List.all_cons]
   simp only [Bool.and_eq_true,List.all_eq_true]
   exact ⟨rfl,fun x hx => sc_mono (Nat.zero_le _) (List.all_eq_true.1 hr x hx)⟩
 have hH : 1 < H.length := (List.getElem?_eq_some_iff.1 hA.2).1
 have hsc : ∀ n,0 < n→∀ o ∈ [ros l,tillO l.length c zl],o.sc n = true := fun n hn o ho => by
   rcases List.mem_cons.1 ho with rfl | ho
   · exact ros_sc
   · rw [List.mem_singleton.1 ho]
     obtain ⟨k,rfl⟩ : ∃ k,n = k + 1 := ⟨n - 1,by omega⟩
     exact til_sc
 have := Call.frameP (Et := [ros l,tillO l.length c zl]) (H := H) (L := [0,1]) (args := ptr0 1 :: rest) (vs := ptr0 1 :: rest) (v := v) rfl (by simp) (fun x hx => by simp at hx; omega) (fun c' o' hc => ?_) (fun o' ho' => hsc _ (by simp) o' ho') (fun c' o' hc _ => ?_) (fun o' ho' => hsc _ (by omega) o' ho') hargs hsa h (fun o' ho' => ?_) (nm_closed hv) (by rw [nmap_closed hv]; exact sc_mono (Nat.zero_le _) hv)
 · rw [nmap_closed hv] at this
   exact this
 · match c',hc with
   | 0,hc => cases hc; exact .inr (by rw [ros_omap]; exact hA.1)
   | 1,hc => cases hc; exact .inr (by rw [til_omap rfl]; exact hA.2)
   | c' + 2,hc => simp at hc
 · match c',hc with
   | 0,hc => cases hc; exact ⟨by rw [ros_omap,ros_omap],by rw [ros_omap]; exact ros_sc⟩
   | 1,hc => cases hc; exact ⟨by rw [til_omap rfl,til_omap rfl],by rw [til_omap rfl]; exact hsc _ (by omega) _ (by simp)⟩
   | c' + 2,hc => simp at hc
 · rcases List.mem_cons.1 ho' with rfl | ho'
   · exact ros_nm
   · rw [List.mem_singleton.1 ho']; exact til_nm rfl
noncomputable def btCt (l : List Int) (c : Nat) (zl : List Int) : List Value→Heap→Option (Option Prop × Value × Heap × List Nat) := fun args H => match args with
 | [.pointer (some ⟨1,0,none⟩),.agg ⟨[.int .i64 a0,.int .i64 a1,.int .i64 a2,.int .i64 a3,.int .i64 a4]⟩,.agg ⟨[.int .i64 b0,.int .i64 b1,.int .i64 b2,.int .i64 b3,.int .i64 b4]⟩] =>
   some (some (AtT l c zl H∧l.length≤5∧smallP (l5 a0 a1 a2 a3 a4)∧smallP (l5 b0 b1 b2 b3 b4)),.bool (btrV l.length (l5 a0 a1 a2 a3 a4) (l5 b0 b1 b2 b3 b4)),H,[])
 | _ => none
theorem btCt_ok {l : List Int} {c : Nat} {zl : List Int} : ∀ args H φ v H' k,btCt l c zl args H = some (φ,v,H',k)→Asks φ→Call Try.prog 90 args H (fun v' H2 => v' = v∧H2 = H')∧Kept H H' k := fun args H φ v H' k h hφ => by
 unfold btCt at h
 split at h <;> cases h
 rename_i a0 a1 a2 a3 a4 b0 b1 b2 b3 b4
 obtain ⟨hA,hl,hf,hg⟩ := hφ
 exact ⟨till_frame hA (by simp [sc,sc2,sc1,sc0]) (bt_call l c zl (l5 a0 a1 a2 a3 a4) (l5 b0 b1 b2 b3 b4) hl hf hg) rfl,Kept.refl _ _⟩
end Go.Pier.Fl
namespace Go.Pier.Fl
open Go Go.Pier Go.Proofs
noncomputable def bs_c0 : Code := (Code.region (4 : Nat) { toList := [{ dst := some (7 : Nat),op := Op.alloc (71 : Nat),type := (0 : Nat),pos := "till.go:77",after := { toList := [] },guard := none },{ dst := none,op := Op.store (71 : Nat) (Operand.tmp (7 : Nat)) (Operand.tmp (9 : Nat)),type := (0 : Nat),pos := "till.go:77",after := { toList := [{ on := (0 : Nat),ground := Ground.data },{ on := (0 : Nat),ground := Ground.phase }] },guard := none }] } false)
noncomputable def bs_c1 : Code := (Code.block (1 : Nat) ((Code.region (5 : Nat) { toList := [{ dst := some (10 : Nat),op := Op.load (4 : Nat) (Operand.tmp (6 : Nat)),type := (4 : Nat),pos := "till.go:78",after := { toList := [] },guard := none },{ dst := some (11 : Nat),op := Op.move (Operand.tmp (10 : Nat)),type := (4 : Nat),pos := "till.go:78",after := { toList := [{ on := (0 : Nat),ground := Ground.data }] },guard := none },{ dst := some (12 : Nat),op := Op.load (97 : Nat) (Operand.tmp (3 : Nat)),type := (97 : Nat),pos := "till.go:78",after := { toList := [{ on := (1 : Nat),ground := Ground.guard }] },guard := some ((1 : Nat),false) },{ dst := some (13 : Nat),op := Op.load (71 : Nat) (Operand.tmp (7 : Nat)),type := (71 : Nat),pos := "till.go:78",after := { toList := [{ on := (1 : Nat),ground := Ground.guard }] },guard := some ((1 : Nat),false) },{ dst := some (14 : Nat),op := Op.load (71 : Nat) (Operand.tmp (5 : Nat)),type := (71 : Nat),pos := "till.go:78",after := { toList := [{ on := (1 : Nat),ground := Ground.guard }] },guard := some ((1 : Nat),false) },{ dst := some (15 : Nat),op := Op.call { callee := Callee.value (Operand.tmp (12 : Nat)),args := { toList := [Operand.tmp (13 : Nat),Operand.tmp (14 : Nat)] },argTypes := { toList := [(71 : Nat),(71 : Nat)] } },type := (4 : Nat),pos := "till.go:78",after := { toList := [{ on := (2 : Nat),ground := Ground.data },{ on := (3 : Nat),ground := Ground.data },{ on := (4 : Nat),ground := Ground.data },{ on := (1 : Nat),ground := Ground.chain },{ on := (1 : Nat),ground := Ground.guard }] },guard := some ((1 : Nat),false) },{ dst := some (16 : Nat),op := Op.pick (Operand.tmp (11 : Nat)) (Operand.const (Value.bool true)) (Operand.tmp (15 : Nat)),type := (4 : Nat),pos := "till.go:78",after := { toList := [{ on := (1 : Nat),ground := Ground.data },{ on := (5 : Nat),ground := Ground.data }] },guard := none }] } false).seq (Code.cond (Operand.tmp (16 : Nat)) (Code.region (6 : Nat) { toList := [{ dst := some (17 : Nat),op := Op.load (71 : Nat) (Operand.tmp (7 : Nat)),type := (71 : Nat),pos := "till.go:79",after := { toList := [] },guard := none },{ dst := none,op := Op.store (71 : Nat) (Operand.tmp (5 : Nat)) (Operand.tmp (17 : Nat)),type := (0 : Nat),pos := "till.go:79",after := { toList := [{ on := (0 : Nat),ground := Ground.data },{ on := (0 : Nat),ground := Ground.phase }] },guard := none },{ dst := none,op := Op.store (4 : Nat) (Operand.tmp (6 : Nat)) (Operand.const (Value.bool false)),type := (0 : Nat),pos := "till.go:79",after := { toList := [{ on := (1 : Nat),ground := Ground.chain },{ on := (0 : Nat),ground := Ground.phase },{ on := (1 : Nat),ground := Ground.phase }] },guard := none }] } false) Code.skip)))
def cntF : Option Value→Nat→Int
 | some (.agg ⟨cs⟩) => fun k => getI cs k
 | _ => fun _ => 0
def shC (o : Option Value) : Value := C5 (cntF o)
def inc5 (x : Nat→Int) (i : Nat) : Nat→Int := fun k => bif Nat.beq k i then IntKind.i64.wrap (x i + 1) else x k
def bstF (l : List Int) (q : Int→Option Value) (a : Int) : Nat→(Nat→Int) × Bool
 | 0 => (z5,true)
 | i + 1 => bif (q (a - l.getD i 0)).isSome && ((bstF l q a i).2 || btrV l.length (inc5 (cntF (q (a - l.getD i 0))) i) (bstF l q a i).1) then (inc5 (cntF (q (a - l.getD i 0))) i,false) else bstF l q a i
def bsH (l : List Int) (c : Nat) (zl : List Int) (es : List MapEntry) (k : Nat) (a : Int) : Heap := [ros l,tillO l.length c zl,.map es k,.rw [ptr0 1] none,.rw [.map (some 2)] none,.rw [vi a] none]
noncomputable def bsO : Orc := orcOr (orcMV Try.prog uA shC) (orcI Try.prog)
noncomputable def bs0E (l : List Int) (c : Nat) (zl : List Int) : VEnv := { ct := Ct.none.add 90 (btCt l c zl) }
noncomputable def bs1E (l : List Int) (c : Nat) (zl : List Int) : VEnv := { yc := ycIn Try.prog (bs0E l c zl) (fun _ => none),orc := bsO }
def bsI (l : List Int) (c : Nat) (es : List MapEntry) (a : Int) : List Value→Heap→Nat→Option LInv := fun args H => match args with
 | [y, p1, p2, p3] => invOf 0 (LInv.one Nat (fun i => i ≤ l.length) (fun i => [(0, y), (1, p1), (2, p2), (3, p3), (13, .slice (some ⟨0,0,none⟩) l.length c), (14, vi l.length), (15, vi i)])
     (fun i => (H.set 8 (.rw (I5 (bstF l (lookE uA es) a i).1 []) none)).set 9 (.rw [.bool (bstF l (lookE uA es) a i).2] none)) (fun i => l.length - i))
 | _ => fun _ => none
noncomputable def bsE (l : List Int) (c : Nat) (zl : List Int) (es : List MapEntry) (a : Int) : VEnv := { cc := ccIn Try.prog (bs1E l c zl) [⟨109,Try.f109,bsI l c es a⟩] }
noncomputable def bsB : Code := Try.f88.body.getD .skip
noncomputable def bsV0 (l:List Int) (es:List MapEntry) (a:Int) (x:Nat) := (getI [vi (cntF (lookE uA es (uA (Value.agg ⟨[vi (IntKind.i64.wrap (a-getI (List.map (Value.int IntKind.i64) l) (0+(x:Int).toNat * 1)))]⟩))) 0),vi (cntF (lookE uA es (uA (Value.agg ⟨[vi (IntKind.i64.wrap (a-getI (List.map (Value.int IntKind.i64) l) (0+(x:Int).toNat * 1)))]⟩))) 1),vi (cntF (lookE uA es (uA (Value.agg ⟨[vi (IntKind.i64.wrap (a-getI (List.map (Value.int IntKind.i64) l) (0+(x:Int).toNat * 1)))]⟩))) 2),vi (cntF (lookE uA es (uA (Value.agg ⟨[vi (IntKind.i64.wrap (a-getI (List.map (Value.int IntKind.i64) l) (0+(x:Int).toNat * 1)))]⟩))) 3),vi (cntF (lookE uA es (uA (Value.agg ⟨[vi (IntKind.i64.wrap (a-getI (List.map (Value.int IntKind.i64) l) (0+(x:Int).toNat * 1)))]⟩))) 4)] (0+(x:Int).toNat * 1)+(1:Int))
noncomputable def bsV1 (l:List Int) (es:List MapEntry) (a:Int) (x:Nat) := (lookE uA es (uA (Value.agg ⟨[vi (IntKind.i64.wrap (a-getI (List.map (Value.int IntKind.i64) l) (0+(x:Int).toNat * 1)))]⟩)))
noncomputable def bsV2  : Array Value := { toList := [Value.func (Fn.func (109 : FuncId)) { toList := [] } { toList := [ptr0 3,ptr0 4,ptr0 5] },Value.func (Fn.func (90 : FuncId)) { toList := [ptr0 1] } { toList := [] },junk,ptr0 6,ptr0 7,ptr0 8,ptr0 9,junk,Value.func (Fn.func (109 : FuncId)) { toList := [] } { toList := [ptr0 3,ptr0 4,ptr0 5] },junk,junk,junk,junk,junk,junk,junk,junk,junk,junk] }
noncomputable def bsV3 (l:List Int) (es:List MapEntry) (a:Int) (x:Nat):List Value := [vi (bif Nat.beq 0 (0+(x:Int).toNat * 1) then IntKind.i64.wrap (bsV0 l es a x) else cntF (bsV1 l es a x) 0),vi (bif Nat.beq 1 (0+(x:Int).toNat * 1) then IntKind.i64.wrap (bsV0 l es a x) else cntF (bsV1 l es a x) 1),vi (bif Nat.beq 2 (0+(x:Int).toNat * 1) then IntKind.i64.wrap (bsV0 l es a x) else cntF (bsV1 l es a x) 2),vi (bif Nat.beq 3 (0+(x:Int).toNat * 1) then IntKind.i64.wrap (bsV0 l es a x) else cntF (bsV1 l es a x) 3),vi (bif Nat.beq 4 (0+(x:Int).toNat * 1) then IntKind.i64.wrap (bsV0 l es a x) else cntF (bsV1 l es a x) 4)]
noncomputable def bsV4 (l:List Int) (c:Nat) (zl:List Int) := (Value.slice (some (ad0 0)) l.length c::List.map (Value.int IntKind.i64) zl)
noncomputable def bsV5 (l:List Int) (es:List MapEntry) (a:Int) (x:Nat) := (l5 (bif Nat.beq 0 (0+(x:Int).toNat * 1) then IntKind.i64.wrap (bsV0 l es a x) else cntF (bsV1 l es a x) 0) (bif Nat.beq 1 (0+(x:Int).toNat * 1) then IntKind.i64.wrap (bsV0 l es a x) else cntF (bsV1 l es a x) 1) (bif Nat.beq 2 (0+(x:Int).toNat * 1) then IntKind.i64.wrap (bsV0 l es a x) else cntF (bsV1 l es a x) 2) (bif Nat.beq 3 (0+(x:Int).toNat * 1) then IntKind.i64.wrap (bsV0 l es a x) else cntF (bsV1 l es a x) 3) (bif Nat.beq 4 (0+(x:Int).toNat * 1) then IntKind.i64.wrap (bsV0 l es a x) else cntF (bsV1 l es a x) 4))
noncomputable def bsV6 (l:List Int) (es:List MapEntry) (a:Int) (x:Nat):List Value := [vi ((bstF l (lookE uA es) a x).fst 0),vi ((bstF l (lookE uA es) a x).fst 1),vi ((bstF l (lookE uA es) a x).fst 2),vi ((bstF l (lookE uA es) a x).fst 3),vi ((bstF l (lookE uA es) a x).fst 4)]
noncomputable def bsV7 (l:List Int) (es:List MapEntry) (a:Int) (y:Nat):List Value := [vi ((bstF l (lookE uA es) a y).fst 0),vi ((bstF l (lookE uA es) a y).fst 1),vi ((bstF l (lookE uA es) a y).fst 2),vi ((bstF l (lookE uA es) a y).fst 3),vi ((bstF l (lookE uA es) a y).fst 4)]
noncomputable def bsV8 (l:List Int) := (List.map (Value.int IntKind.i64) l)
noncomputable def bsV9 (l:List Int) (es:List MapEntry) (a:Int):Array Value := ⟨[vi ((bstF l (lookE uA es) a l.length).fst 0),vi ((bstF l (lookE uA es) a l.length).fst 1),vi ((bstF l (lookE uA es) a l.length).fst 2),vi ((bstF l (lookE uA es) a l.length).fst 3),vi ((bstF l (lookE uA es) a l.length).fst 4)]⟩
noncomputable def bsV10  : Prop := (AObj.rw [Value.func (Fn.func (90 : FuncId)) { toList := [ptr0 1] } { toList := [] }] none = AObj.rw [Value.func (Fn.func (90 : FuncId)) { toList := [ptr0 1] } { toList := [] }] none∧true = true)
noncomputable def bsV11  : Prop := (AObj.rw [Value.map (some (2 : Nat))] none = AObj.rw [Value.map (some (2 : Nat))] none∧true = true)
noncomputable def bsV12  : List Value := [vi (0 : Int),vi (0 : Int),vi (0 : Int),vi (0 : Int),vi (0 : Int)]
noncomputable def bsV13  : Prop := (AObj.loop LoopState.ready none bsV2 { toList := [(9 : Nat)] } bs_c0 bs_c1 = AObj.loop LoopState.ready none bsV2 { toList := [(9 : Nat)] } bs_c0 bs_c1∧true = true)
noncomputable def bsV14  : Prop := (Value.func (Fn.yield (10 : Nat)) { toList := [] } { toList := [] } = Value.func (Fn.yield (10 : Nat)) { toList := [] } { toList := [] })
noncomputable def bsV15  : Prop := (AObj.rw [ptr0 1] none = AObj.rw [ptr0 1] none∧true = true)
noncomputable def bsV16 (a:Int):Prop := (AObj.rw [vi a] none=AObj.rw [vi a] none∧true=true)
noncomputable def bsV17 (l:List Int) (es:List MapEntry) (a:Int) (x:Nat) := (l5 ((bstF l (lookE uA es) a x).fst 0) ((bstF l (lookE uA es) a x).fst 1) ((bstF l (lookE uA es) a x).fst 2) ((bstF l (lookE uA es) a x).fst 3) ((bstF l (lookE uA es) a x).fst 4))
noncomputable def bsV18 (l:List Int) (es:List MapEntry) (a:Int) (x:Nat):List Value := [vi (cntF (bsV1 l es a x) 0),vi (cntF (bsV1 l es a x) 1),vi (cntF (bsV1 l es a x) 2),vi (cntF (bsV1 l es a x) 3),vi (cntF (bsV1 l es a x) 4)]
noncomputable def bsV19 (l:List Int) (c:Nat):Prop := (Value.slice (some (ad0 0)) l.length c=Value.slice (some (ad0 0)) l.length c)
noncomputable def bsV20  : Prop := (AObj.rw bsV12 none = AObj.rw bsV12 none∧true = true)
noncomputable def bsV21  (x:Nat) (y:Nat):Prop := (IntKind.i64.wrap ((x:Int)+(1:Int))=(y:Int))
noncomputable def bsV22 (l:List Int):Prop := ((l.length:Int)=(l.length:Int))
noncomputable def bsV23  (x:Nat) := (0+(x:Int).toNat * 1)
noncomputable def bsV24 (l:List Int) (c:Nat) (zl:List Int) := (AObj.rw (bsV4 l c zl) none)
noncomputable def bsV25 (l:List Int) (es:List MapEntry) (a:Int) (x:Nat) (y:Nat):Prop := (AObj.rw [Value.bool (bstF l (lookE uA es) a x).snd] none=AObj.rw [Value.bool (bstF l (lookE uA es) a y).snd] none∧true=true)
noncomputable def bsV26  : List Value := [Value.func (Fn.func (90 : FuncId)) { toList := [ptr0 1] } { toList := [] }]
noncomputable def bsV :=
fun (l:List Int) (c:Nat) (zl:List Int) (es:List MapEntry) (k:Nat) (a:Int)↦Ob (0+1≤1)∧(∃ (y:Nat),Ob (y≤l.length)∧(Ob (AObj.ro (bsV8 l)=AObj.ro (List.map (nmap1 fun (b:Nat)↦b) (bsV8 l))∧AObj.sc 11 (AObj.ro (bsV8 l))=true)∧Ob (AObj.rw (bsV4 l c zl) none=AObj.rw (List.map (nmap1 fun (b:Nat)↦b) (bsV4 l c zl)) none∧AObj.sc 11 (bsV24 l c zl)=true)∧Ob (AObj.map es k=AObj.map (List.map (fun (e:MapEntry)↦{ key := e.key,val := nmap2 (fun (b:Nat)↦b) e.val,born := e.born }) es) k∧AObj.sc 11 (AObj.map es k)=true)∧Ob bsV15∧Ob bsV11∧Ob (bsV16 a)∧Ob bsV10∧Ob bsV20∧Ob (AObj.rw bsV12 none=AObj.rw (bsV7 l es a y) none∧true=true)∧Ob (AObj.rw [Value.bool true] none=AObj.rw [Value.bool (bstF l (lookE uA es) a y).snd] none∧true=true)∧Ob bsV13∧True)∧Ob bsV14∧Ob (ptr0 3=ptr0 3)∧Ob (ptr0 4=ptr0 4)∧Ob (ptr0 5=ptr0 5)∧Ob (bsV19 l c)∧Ob (bsV22 l)∧Ob ((0:Int)=(y:Int))∧True)∧∀ (x:Nat),Ob (x≤l.length)→(decide ((x:Int)<(l.length:Int))=true→Ob ((0:Int)≤(x:Int)∧(x:Int)<(l.length:Int)∧true=true)∧Ob (IntAt IntKind.i64 (bsV8 l) (bsV23 x))∧Ob (some (vi a)=some (vi a))∧Ob (aLookup Try.prog [AObj.ro (bsV8 l),AObj.rw (bsV4 l c zl) none,AObj.map es k,AObj.rw [ptr0 1] none,AObj.rw [Value.map (some 2)] none,AObj.rw [vi a] none,AObj.rw bsV26 none,AObj.rw bsV12 none,AObj.rw (bsV6 l es a x) none,AObj.rw [Value.bool (bstF l (lookE uA es) a x).snd] none,AObj.loop LoopState.ready none bsV2 ⟨[9]⟩ bs_c0 bs_c1] 112 (Value.map (some 2)) (Value.agg ⟨[vi (IntKind.i64.wrap (a-getI (bsV8 l) (bsV23 x)))]⟩) true=some (Value.tuple ⟨[Value.agg { toList := (bsV18 l es a x) },Value.bool (bsV1 l es a x).isSome]⟩))∧Ob (0+5≤5)∧Ob ((0:Int)≤(x:Int)∧(x:Int)<(↑(5:Nat):Int))∧Ob (IntAt IntKind.i64 (bsV18 l es a x) (bsV23 x))∧Ob ((0:Int)≤(x:Int)∧(x:Int)<(↑(5:Nat):Int))∧Ob (IntAt IntKind.i64 (bsV18 l es a x) (bsV23 x)∧some 1=some 1)∧((bsV1 l es a x).isSome=true→Ob (0+5≤5)∧Ob (some (Value.bool (bstF l (lookE uA es) a x).snd)=some (Value.bool (bstF l (lookE uA es) a x).snd))∧((bstF l (lookE uA es) a x).snd=false→Ob (AtT l c zl [AObj.ro (bsV8 l),AObj.rw (bsV4 l c zl) none,AObj.map es k,AObj.rw [ptr0 1] none,AObj.rw [Value.map (some 2)] none,AObj.rw [vi a] none,AObj.rw bsV26 none,AObj.rw bsV12 none,AObj.rw (bsV6 l es a x) none,AObj.rw [Value.bool (bstF l (lookE uA es) a x).snd] none,AObj.loop LoopState.busy none bsV2 ⟨[9]⟩ bs_c0 bs_c1,AObj.rw (bsV3 l es a x) none,AObj.rw (bsV3 l es a x) none]∧l.length≤5∧smallP (bsV5 l es a x)∧smallP (bsV17 l es a x))∧(btrV l.length (bsV5 l es a x) (bsV17 l es a x)=true→Ob (0+5≤5)∧Ob (0+1≤1)∧(false=true→Ob (0+5≤5)∧(Ob (AObj.ro (bsV8 l)=AObj.ro (List.map (nmap1 fun (b:Nat)↦b) (bsV8 l))∧AObj.sc 6 (AObj.ro (bsV8 l))=true)∧Ob (AObj.rw (bsV4 l c zl) none=AObj.rw (List.map (nmap1 fun (b:Nat)↦b) (bsV4 l c zl)) none∧AObj.sc 6 (bsV24 l c zl)=true)∧Ob (AObj.map es k=AObj.map (List.map (fun (e:MapEntry)↦{ key := e.key,val := nmap2 (fun (b:Nat)↦b) e.val,born := e.born }) es) k∧AObj.sc 6 (AObj.map es k)=true)∧Ob bsV15∧Ob bsV11∧Ob (bsV16 a)∧True)∧Ob (Value.agg { toList := (bsV3 l es a x) }=Value.agg (bsV9 l es a))∧True)∧(false=false→∃ (y:Nat),Ob (y≤l.length)∧Ob (l.length-y<l.length-x)∧(Ob (AObj.ro (bsV8 l)=AObj.ro (List.map (nmap1 fun (b:Nat)↦b) (bsV8 l))∧AObj.sc 11 (AObj.ro (bsV8 l))=true)∧Ob (AObj.rw (bsV4 l c zl) none=AObj.rw (List.map (nmap1 fun (b:Nat)↦b) (bsV4 l c zl)) none∧AObj.sc 11 (bsV24 l c zl)=true)∧Ob (AObj.map es k=AObj.map (List.map (fun (e:MapEntry)↦{ key := e.key,val := nmap2 (fun (b:Nat)↦b) e.val,born := e.born }) es) k∧AObj.sc 11 (AObj.map es k)=true)∧Ob bsV15∧Ob bsV11∧Ob (bsV16 a)∧Ob bsV10∧Ob bsV20∧Ob (AObj.rw (bsV3 l es a x) none=AObj.rw (bsV7 l es a y) none∧true=true)∧Ob (AObj.rw [Value.bool false] none=AObj.rw [Value.bool (bstF l (lookE uA es) a y).snd] none∧true=true)∧Ob bsV13∧True)∧Ob bsV14∧Ob (ptr0 3=ptr0 3)∧Ob (ptr0 4=ptr0 4)∧Ob (ptr0 5=ptr0 5)∧Ob (bsV19 l c)∧Ob (bsV22 l)∧Ob (bsV21 x y)∧True))∧(btrV l.length (bsV5 l es a x) (bsV17 l es a x)=false→(false=true→Ob (0+5≤5)∧(Ob (AObj.ro (bsV8 l)=AObj.ro (List.map (nmap1 fun (b:Nat)↦b) (bsV8 l))∧AObj.sc 6 (AObj.ro (bsV8 l))=true)∧Ob (AObj.rw (bsV4 l c zl) none=AObj.rw (List.map (nmap1 fun (b:Nat)↦b) (bsV4 l c zl)) none∧AObj.sc 6 (bsV24 l c zl)=true)∧Ob (AObj.map es k=AObj.map (List.map (fun (e:MapEntry)↦{ key := e.key,val := nmap2 (fun (b:Nat)↦b) e.val,born := e.born }) es) k∧AObj.sc 6 (AObj.map es k)=true)∧Ob bsV15∧Ob bsV11∧Ob (bsV16 a)∧True)∧Ob (Value.agg { toList := (bsV6 l es a x) }=Value.agg (bsV9 l es a))∧True)∧(false=false→∃ (y:Nat),Ob (y≤l.length)∧Ob (l.length-y<l.length-x)∧(Ob (AObj.ro (bsV8 l)=AObj.ro (List.map (nmap1 fun (b:Nat)↦b) (bsV8 l))∧AObj.sc 11 (AObj.ro (bsV8 l))=true)∧Ob (AObj.rw (bsV4 l c zl) none=AObj.rw (List.map (nmap1 fun (b:Nat)↦b) (bsV4 l c zl)) none∧AObj.sc 11 (bsV24 l c zl)=true)∧Ob (AObj.map es k=AObj.map (List.map (fun (e:MapEntry)↦{ key := e.key,val := nmap2 (fun (b:Nat)↦b) e.val,born := e.born }) es) k∧AObj.sc 11 (AObj.map es k)=true)∧Ob bsV15∧Ob bsV11∧Ob (bsV16 a)∧Ob bsV10∧Ob bsV20∧Ob (AObj.rw (bsV6 l es a x) none=AObj.rw (bsV7 l es a y) none∧true=true)∧Ob (bsV25 l es a x y)∧Ob bsV13∧True)∧Ob bsV14∧Ob (ptr0 3=ptr0 3)∧Ob (ptr0 4=ptr0 4)∧Ob (ptr0 5=ptr0 5)∧Ob (bsV19 l c)∧Ob (bsV22 l)∧Ob (bsV21 x y)∧True)))∧((bstF l (lookE uA es) a x).snd=true→Ob (0+5≤5)∧Ob (0+1≤1)∧(false=true→Ob (0+5≤5)∧(Ob (AObj.ro (bsV8 l)=AObj.ro (List.map (nmap1 fun (b:Nat)↦b) (bsV8 l))∧AObj.sc 6 (AObj.ro (bsV8 l))=true)∧Ob (AObj.rw (bsV4 l c zl) none=AObj.rw (List.map (nmap1 fun (b:Nat)↦b) (bsV4 l c zl)) none∧AObj.sc 6 (bsV24 l c zl)=true)∧Ob (AObj.map es k=AObj.map (List.map (fun (e:MapEntry)↦{ key := e.key,val := nmap2 (fun (b:Nat)↦b) e.val,born := e.born }) es) k∧AObj.sc 6 (AObj.map es k)=true)∧Ob bsV15∧Ob bsV11∧Ob (bsV16 a)∧True)∧Ob (Value.agg { toList := (bsV3 l es a x) }=Value.agg (bsV9 l es a))∧True)∧(false=false→∃ (y:Nat),Ob (y≤l.length)∧Ob (l.length-y<l.length-x)∧(Ob (AObj.ro (bsV8 l)=AObj.ro (List.map (nmap1 fun (b:Nat)↦b) (bsV8 l))∧AObj.sc 11 (AObj.ro (bsV8 l))=true)∧Ob (AObj.rw (bsV4 l c zl) none=AObj.rw (List.map (nmap1 fun (b:Nat)↦b) (bsV4 l c zl)) none∧AObj.sc 11 (bsV24 l c zl)=true)∧Ob (AObj.map es k=AObj.map (List.map (fun (e:MapEntry)↦{ key := e.key,val := nmap2 (fun (b:Nat)↦b) e.val,born := e.born }) es) k∧AObj.sc 11 (AObj.map es k)=true)∧Ob bsV15∧Ob bsV11∧Ob (bsV16 a)∧Ob bsV10∧Ob bsV20∧Ob (AObj.rw (bsV3 l es a x) none=AObj.rw (bsV7 l es a y) none∧true=true)∧Ob (AObj.rw [Value.bool false] none=AObj.rw [Value.bool (bstF l (lookE uA es) a y).snd] none∧true=true)∧Ob bsV13∧True)∧Ob bsV14∧Ob (ptr0 3=ptr0 3)∧Ob (ptr0 4=ptr0 4)∧Ob (ptr0 5=ptr0 5)∧Ob (bsV19 l c)∧Ob (bsV22 l)∧Ob (bsV21 x y)∧True)))∧((bsV1 l es a x).isSome=false→∃ (y:Nat),Ob (y≤l.length)∧Ob (l.length-y<l.length-x)∧(Ob (AObj.ro (bsV8 l)=AObj.ro (List.map (nmap1 fun (b:Nat)↦b) (bsV8 l))∧AObj.sc 11 (AObj.ro (bsV8 l))=true)∧Ob (AObj.rw (bsV4 l c zl) none=AObj.rw (List.map (nmap1 fun (b:Nat)↦b) (bsV4 l c zl)) none∧AObj.sc 11 (bsV24 l c zl)=true)∧Ob (AObj.map es k=AObj.map (List.map (fun (e:MapEntry)↦{ key := e.key,val := nmap2 (fun (b:Nat)↦b) e.val,born := e.born }) es) k∧AObj.sc 11 (AObj.map es k)=true)∧Ob bsV15∧Ob bsV11∧Ob (bsV16 a)∧Ob bsV10∧Ob bsV20∧Ob (AObj.rw (bsV6 l es a x) none=AObj.rw (bsV7 l es a y) none∧true=true)∧Ob (bsV25 l es a x y)∧Ob bsV13∧True)∧Ob bsV14∧Ob (ptr0 3=ptr0 3)∧Ob (ptr0 4=ptr0 4)∧Ob (ptr0 5=ptr0 5)∧Ob (bsV19 l c)∧Ob (bsV22 l)∧Ob (bsV21 x y)∧True))∧(decide ((x:Int)<(l.length:Int))=false→Ob (0+5≤5)∧(Ob (AObj.ro (bsV8 l)=AObj.ro (List.map (nmap1 fun (b:Nat)↦b) (bsV8 l))∧AObj.sc 6 (AObj.ro (bsV8 l))=true)∧Ob (AObj.rw (bsV4 l c zl) none=AObj.rw (List.map (nmap1 fun (b:Nat)↦b) (bsV4 l c zl)) none∧AObj.sc 6 (bsV24 l c zl)=true)∧Ob (AObj.map es k=AObj.map (List.map (fun (e:MapEntry)↦{ key := e.key,val := nmap2 (fun (b:Nat)↦b) e.val,born := e.born }) es) k∧AObj.sc 6 (AObj.map es k)=true)∧Ob bsV15∧Ob bsV11∧Ob (bsV16 a)∧True)∧Ob (Value.agg { toList := (bsV6 l es a x) }=Value.agg (bsV9 l es a))∧True)
def lessP (f : Nat→Int) : Prop := (0≤f 0∧f 0≤9999)∧(0≤f 1∧f 1≤9999)∧(0≤f 2∧f 2≤9999)∧(0≤f 3∧f 3≤9999)∧0≤f 4∧f 4≤9999
theorem lessP.at {f : Nat→Int} (h : lessP f) {a : Nat} (ha : a < 5) : 0≤f a∧f a≤9999 := by
 obtain ⟨h0,h1,h2,h3,h4⟩ := h
 rcases a with _ | _ | _ | _ | _ | a <;> first | assumption | omega
theorem lessP.small {f : Nat→Int} (h : lessP f) : smallP f := by unfold lessP at h; unfold smallP; omega
def EntOk (es : List MapEntry) : Prop := ∀ e ∈ es,e.key = kA (uA e.key)∧∃ f,e.val = C5 f∧lessP f
theorem EntOk.keys {es : List MapEntry} (h : EntOk es) : KeysOk kA uA (fun _ => True) es := fun e he => ⟨(h e he).1,trivial⟩
theorem C5_sc {n : Nat} {f : Nat→Int} : sc2 n (C5 f) = true := by simp [C5,sc2,sc1,sc0]
theorem EntOk.sc {es : List MapEntry} (h : EntOk es) {m k : Nat} : AObj.sc m (.map es k) = true := List.all_eq_true.2 fun e he => by
 obtain ⟨h1,f,h2,_⟩ := h e he
 rw [h1,h2,C5_sc]
 simp [sc2,sc1,sc0]
theorem EntOk.nm {es : List MapEntry} (h : EntOk es) {σ : Nat→Nat} : List.map (fun (e : MapEntry) => { key := e.key,val := nmap2 σ e.val,born := e.born }) es = es := by
 have : List.map (fun (e : MapEntry) => ({ key := e.key,val := nmap2 σ e.val,born := e.born } : MapEntry)) es = es.map id := List.map_congr_left fun e he => by
   obtain ⟨_,f,h2,_⟩ := h e he
   rw [nmap2_closed (by rw [h2]; exact C5_sc)]; rfl
 rw [this,List.map_id]
theorem EntOk.look {es : List MapEntry} (h : EntOk es) {b : Int} : (∃ f,lookE uA es b = some (C5 f)∧lessP f)∨lookE uA es b = none := by
 unfold lookE
 cases hf : findE uA b es 0 with
 | none => exact .inr rfl
 | some p =>
   obtain ⟨i,v⟩ := p
   obtain ⟨_,e,h2,_,h4⟩ := findE_at hf
   obtain ⟨_,f,h5,h6⟩ := h e (List.mem_of_getElem? h2)
   exact .inl ⟨f,by rw [← h5,h4]; rfl,h6⟩
theorem cnt_C5 {f : Nat→Int} {k : Nat} (h : k < 5) : cntF (some (C5 f)) k = f k := I5_getI h
theorem sh_look {es : List MapEntry} (h : EntOk es) {b : Int} : (lookE uA es b).getD (C5 z5) = shC (lookE uA es b) := by
 rcases h.look (b := b) with ⟨f,hf,_⟩ | hf
 · rw [hf]; rfl
 · rw [hf]; rfl
theorem cnt_less {es : List MapEntry} (h : EntOk es) {b : Int} : lessP (cntF (lookE uA es b)) := by
 rcases h.look (b := b) with ⟨f,hf,hl⟩ | hf
 · rw [hf]; exact hl
 · rw [hf]; simp [cntF,lessP]
theorem inc5_small {f : Nat→Int} (h : lessP f) (i : Nat) (hi : i < 5) : smallP (inc5 f i) := by
 have hw : 0≤IntKind.i64.wrap (f i + 1)∧IntKind.i64.wrap (f i + 1)≤10000 := by
   have := h.at hi
   rw [wrap_in (by omega) (by omega)]; omega
 have : ∀ k,k < 5→0≤inc5 f i k∧inc5 f i k≤100000 := fun k hk => by
   unfold inc5
   cases Nat.beq k i
   · have := h.at hk; simp only [cond_false]; omega
   · simp only [cond_true]; omega
 exact ⟨this 0 (by omega),this 1 (by omega),this 2 (by omega),this 3 (by omega),this 4 (by omega)⟩
theorem bst_small {l : List Int} {es : List MapEntry} {a : Int} (h : EntOk es) : ∀ i,i≤5→smallP (bstF l (lookE uA es) a i).1
 | 0,_ => by simp [bstF,z5,smallP]
 | i + 1,hi => by
   unfold bstF
   cases (lookE uA es (a - l.getD i 0)).isSome && ((bstF l (lookE uA es) a i).2 || btrV l.length (inc5 (cntF (lookE uA es (a - l.getD i 0))) i) (bstF l (lookE uA es) a i).1)
   · exact bst_small h i (by omega)
   · exact inc5_small (cnt_less h) i (by omega)
theorem uA_k {b : Int} : uA (Value.agg { toList := [vi b] }) = b := rfl
theorem bst_yes {l : List Int} {q : Int→Option Value} {a : Int} {x : Nat} (h1 : (q (a - l.getD x 0)).isSome = true) (h2 : ((bstF l q a x).2 || btrV l.length (inc5 (cntF (q (a - l.getD x 0))) x) (bstF l q a x).1) = true) : bstF l q a (x + 1) = (inc5 (cntF (q (a - l.getD x 0))) x,false) := by
 rw [bstF,h1,h2]; rfl
theorem bst_no1 {l : List Int} {q : Int→Option Value} {a : Int} {x : Nat} (h1 : (q (a - l.getD x 0)).isSome = false) : bstF l q a (x + 1) = bstF l q a x := by
 rw [bstF,h1]; rfl
theorem bst_no2 {l : List Int} {q : Int→Option Value} {a : Int} {x : Nat} (h2 : ((bstF l q a x).2 || btrV l.length (inc5 (cntF (q (a - l.getD x 0))) x) (bstF l q a x).1) = false) : bstF l q a (x + 1) = bstF l q a x := by
 rw [bstF,h2,Bool.and_false]; rfl
theorem look_es {es : List MapEntry} (h : EntOk es) {H : Heap} {m k : Nat} (hm : H[m]? = some (.map es k)) {b : Int} : aLookup Try.prog H 112 (.map (some m)) (Value.agg { toList := [vi b] }) true = some (.tuple #[shC (lookE uA es b),.bool (lookE uA es b).isSome]) := by
 rw [← sh_look h]
 exact lookE_ok key115 u112 h.keys z71 hm trivial
theorem bsV_ok (l : List Int) (c : Nat) (zl : List Int) (es : List MapEntry) (k : Nat) (a : Int) (hl : l.length≤5) (hr : ∀ j,j < l.length→1≤l.getD j 0∧l.getD j 0≤50) (ha : 0≤a∧a≤5000) (he : EntOk es) : bsV l c zl es k a := by
 unfold bsV bsV26 bsV25 bsV24 bsV23 bsV22 bsV21 bsV20 bsV19 bsV18 bsV17 bsV16 bsV15 bsV14 bsV13 bsV12 bsV11 bsV10 bsV9 bsV8 bsV7 bsV6 bsV5 bsV4 bsV3 bsV2 bsV1 bsV0
 simp only [SS,reduceCtorEq,Arg.list,Arg.num,Arg.flag,intOf,andP,Nat.reduceLeDiff,Nat.reduceAdd,Nat.reduceMul,Nat.reduceLT,til_sc,nm_sl,he.nm,he.sc,uA_k]
 refine ⟨⟨0,by omega,⟨⟨rfl,rfl,rfl,rfl,rfl⟩,rfl⟩,rfl⟩,fun x hx => ⟨fun h1 => ?_,fun h1 => ?_⟩⟩
 · have hx5 : x < 5 := by omega
   have hv := hr x (by omega)
   rw [wrap_in (x := a - l.getD x 0) (by omega) (by omega)]
   simp only [gi5 hx5,uA_k]
   have hA : ∀ r,AtT l c zl (AObj.ro (List.map (Value.int IntKind.i64) l) :: AObj.rw (Value.slice (some (ad0 0)) l.length c :: List.map (Value.int IntKind.i64) zl) none :: r) := fun r => ⟨rfl,rfl⟩
   have hi := cnt_less he (b := a - l.getD x 0)
   have hn := inc5_small hi x hx5
   have ho := bst_small (l := l) (a := a) he x (by omega)
   have hat : IntAt .i64 (I5 (cntF (lookE uA es (a - l.getD x 0))) []) x := I5_at hx5
   refine ⟨by omega,by omega,look_es he rfl,by omega,hat,by omega,hat,fun h2 => ⟨fun h3 => ⟨⟨hA _,by omega,hn,ho⟩,fun h4 => ?_,fun h4 => ?_⟩,fun h3 => ?_⟩,fun h2 => ?_⟩
   · refine ⟨x + 1,by omega,by omega,?_,wrap_succ (n := 5) hx5 (by omega)⟩
     rw [bst_yes h2 (by rw [h3]; exact h4)]
     exact ⟨⟨rfl,rfl,rfl,rfl,rfl⟩,rfl⟩
   · refine ⟨x + 1,by omega,by omega,?_,wrap_succ (n := 5) hx5 (by omega)⟩
     rw [bst_no2 (by rw [h3]; exact h4)]
     exact ⟨⟨rfl,rfl,rfl,rfl,rfl⟩,rfl⟩
   · refine ⟨x + 1,by omega,by omega,?_,wrap_succ (n := 5) hx5 (by omega)⟩
     rw [bst_yes h2 (by rw [h3]; rfl)]
     exact ⟨⟨rfl,rfl,rfl,rfl,rfl⟩,rfl⟩
   · refine ⟨x + 1,by omega,by omega,?_,wrap_succ (n := 5) hx5 (by omega)⟩
     rw [bst_no1 h2]
     exact ⟨⟨rfl,rfl,rfl,rfl,rfl⟩,rfl⟩
 · rw [show x = l.length by omega]
theorem bs0E_ok {l : List Int} {c : Nat} {zl : List Int} : VOk Try.prog (bs0E l c zl) := VOk.ofCt (CtOk.none.add btCt_ok)
theorem bsO_ok : OrcOk Try.prog bsO := orcOr_ok orcMV_ok orcI_ok
theorem bs1E_ok {l : List Int} {c : Nat} {zl : List Int} : VOk Try.prog (bs1E l c zl) := ⟨CtOk.none,E0_ok.cc,ycIn_ok bs0E_ok mixed,bsO_ok⟩
theorem bsE_ok {l : List Int} {c : Nat} {zl : List Int} {es : List MapEntry} {a : Int} : VOk Try.prog (bsE l c zl es a) := ⟨CtOk.none,ccIn_ok bs1E_ok mixed (inl_one Try.func109),E0_ok.yc,E0_ok.orc⟩
abbrev loV (p1 p2 p3 : Nat) : Value := .func (.func 109) #[] #[ptr0 p1,ptr0 p2,ptr0 p3]
abbrev ibV : Value := .func (.func 90) #[ptr0 1] #[]
theorem bs_call (l : List Int) (c : Nat) (zl : List Int) (es : List MapEntry) (k : Nat) (a : Int) (hl : l.length≤5) (hr : ∀ j,j < l.length→1≤l.getD j 0∧l.getD j 0≤50) (ha : 0≤a∧a≤5000) (he : EntOk es) :
   Call Try.prog 88 [loV 3 4 5,ibV] (bsH l c zl es k a) fun v H' => v = C5 (bstF l (lookE uA es) a l.length).1∧H' = bsH l c zl es k a :=
 Call.ofVcR (E := bsE l c zl es a) (H := bsH l c zl es k a) (args := [loV 3 4 5,ibV]) (σ := fun b => b) (v2 := C5 (bstF l (lookE uA es) a l.length).1) (H2 := bsH l c zl es k a) bsE_ok mixed (c := bsB) (inv := fun _ => none) Try.func88 (by kernel_rfl) (cast (by kernel_rfl) (bsV_ok l c zl es k a hl hr ha he))
def rngC (l : List Int) : Prop := l.length≤5∧∀ j,j < l.length→1≤l.getD j 0∧l.getD j 0≤50
noncomputable def bsCt (l : List Int) (c : Nat) (zl : List Int) : List Value→Heap→Option (Option Prop × Value × Heap × List Nat) := fun args H => match args with
 | [.func (.func f) ⟨[]⟩ ⟨[.pointer (some ⟨p1,0,none⟩),.pointer (some ⟨p2,0,none⟩),.pointer (some ⟨p3,0,none⟩)]⟩,.func (.func g) ⟨[.pointer (some ⟨1,0,none⟩)]⟩ ⟨[]⟩] => match Nat.beq f 109,Nat.beq g 90 with
   | true,true => match H[p1]?,H[p2]?,H[p3]? with
     | some (.rw [.pointer (some ⟨1,0,none⟩)] none),some (.rw [.map (some m)] none),some (.rw [.int .i64 a] none) => match H[m]? with
       | some (.map es k) => some (some (AtT l c zl H∧rngC l∧(0≤a∧a≤5000)∧EntOk es∧nodupB [0,1,m,p1,p2,p3] = true∧6≤H.length),C5 (bstF l (lookE uA es) a l.length).1,H,[])
       | _ => none
     | _,_,_ => none
   | _,_ => none
 | _ => none
theorem bsCt_ok {l : List Int} {c : Nat} {zl : List Int} : ∀ args H φ v H' k,bsCt l c zl args H = some (φ,v,H',k)→Asks φ→Call Try.prog 88 args H (fun v' H2 => v' = v∧H2 = H')∧Kept H H' k := fun args H φ v H' k0 h hφ => by
 unfold bsCt at h
 split at h <;> try (cases h; done)
 rename_i f p1 p2 p3 g
 split at h <;> try (cases h; done)
 rename_i hf hg
 obtain rfl := Nat.eq_of_beq_eq_true hf
 obtain rfl := Nat.eq_of_beq_eq_true hg
 split at h <;> try (cases h; done)
 rename_i m a h1 h2 h3
 split at h <;> cases h
 rename_i es k h4
 obtain ⟨hA,hl,ha,he,hnd,h6⟩ := hφ
 refine ⟨?_,Kept.refl _ _⟩
 have lt : ∀ {b : Nat} {o : AObj},H[b]? = some o→b < H.length := fun hb => (List.getElem?_eq_some_iff.1 hb).1
 have l0 := lt hA.1
 have l1 := lt hA.2
 have lm := lt h4
 have lp1 := lt h1
 have lp2 := lt h2
 have lp3 := lt h3
 have nd := nodupB_ok hnd
 have hv : sc 0 (C5 (bstF l (lookE uA es) a l.length).1) = true := sc_of_sc2 C5_sc
 have hsc : ∀ n,6≤n→∀ o ∈ bsH l c zl es k a,o.sc n = true := fun n hn o ho => by
   simp only [bsH,List.mem_cons,List.not_mem_nil,or_false] at ho
   obtain ⟨n',rfl⟩ : ∃ n',n = n' + 1 := ⟨n - 1,by omega⟩
   rcases ho with rfl | rfl | rfl | rfl | rfl | rfl
   · exact ros_sc
   · exact til_sc
   · exact he.sc
   · simp [AObj.sc,sc1,sc0]; omega
   · simp [AObj.sc,sc1,sc0]; omega
   · simp [AObj.sc,sc1,sc0]
 have key : ∀ σ : Nat→Nat,(∀ i,i < 6→σ i = [0,1,m,p1,p2,p3].getD i 0)→(bsH l c zl es k a).map (omap σ) = [ros l,tillO l.length c zl,.map es k,.rw [ptr0 1] none,.rw [.map (some m)] none,.rw [vi a] none] := fun σ hσ => by
   have s0 : σ 0 = 0 := hσ 0 (by omega)
   have s1 : σ 1 = 1 := hσ 1 (by omega)
   have s2 : σ 2 = m := hσ 2 (by omega)
   simp only [bsH,List.map_cons,List.map_nil,ros_omap,til_omap s0]
   congr 3
   · show AObj.map _ k = _; rw [he.nm]
   · show AObj.rw [Value.pointer (some ⟨σ 1,0,none⟩)] none :: AObj.rw [Value.map (some (σ 2))] none :: _ = _; rw [s1,s2]; rfl
 have hget : ∀ (σ : Nat→Nat),(∀ i,i < 6→σ i = [0,1,m,p1,p2,p3].getD i 0)→∀ (c' : Nat) (o : AObj),(bsH l c zl es k a)[c']? = some o→H[[0,1,m,p1,p2,p3].getD c' 0]? = some (omap σ o) := fun σ hσ c' o ho => by
   have := congrArg (·[c']?) (key σ hσ)
   simp only [List.getElem?_map,ho,Option.map_some] at this
   rw [this]
   have hc : c' < 6 := (List.getElem?_eq_some_iff.1 ho).1
   rcases c' with _ | _ | _ | _ | _ | _ | c'
   · exact hA.1
   · exact hA.2
   · exact h4
   · exact h1
   · exact h2
   · exact h3
   · omega
 have hL : ∀ i,i < 6→nameL [0,1,m,p1,p2,p3] 6 H.length i = [0,1,m,p1,p2,p3].getD i 0 := fun i hi => by
   unfold nameL; simp [hi]
 have := Call.frameP (P := Try.prog) (f := 88) (Et := bsH l c zl es k a) (H := H) (L := [0, 1, m, p1, p2, p3]) (args := [loV 3 4 5, ibV]) (vs := [loV p1 p2 p3, ibV]) (v := C5 (bstF l (lookE uA es) a l.length).1) rfl nd (fun x hx => by
     simp only [List.mem_cons,List.not_mem_nil,or_false] at hx
     rcases hx with rfl | rfl | rfl | rfl | rfl | rfl <;> assumption)
   (fun c' o' hc => .inr (hget _ (fun _ _ => rfl) c' o' hc)) (fun o' ho' => hsc _ (Nat.le_refl _) o' ho') (fun c' o' hc hs => ?_) (fun o' ho' => hsc _ h6 o' ho') (by simp [nmap,nmap2,nmap1,nmapA,nmap0,nmapFn,am]) (by simp [sc,sc2,sc1,sc0,scA,bsH]) (bs_call l c zl es k a hl.1 hl.2 ha he) (fun o' ho' => ?_) (nm_closed hv) (by rw [nmap_closed hv]; exact sc_mono (Nat.zero_le _) hv)
 · rw [nmap_closed hv] at this
   exact this
 · have e1 := hget _ hL c' o' hc
   have e2 := hget (fun c => [0,1,m,p1,p2,p3].getD c 0) (fun _ _ => rfl) c' o' hc
   have e3 : omap (nameL [0,1,m,p1,p2,p3] 6 H.length) o' = omap (fun c => [0,1,m,p1,p2,p3].getD c 0) o' := Option.some.inj (e1.symm.trans e2)
   refine ⟨e3,?_⟩
   rw [show (bsH l c zl es k a).length = 6 from rfl,e3]
   have hm := List.mem_map_of_mem (f := omap fun c => [0,1,m,p1,p2,p3].getD c 0) (List.mem_of_getElem? hc)
   rw [key _ fun _ _ => rfl] at hm
   simp only [List.mem_cons,List.not_mem_nil,or_false] at hm
   obtain ⟨n',hn'⟩ : ∃ n',H.length = n' + 1 := ⟨H.length - 1,by omega⟩
   rcases hm with e | e | e | e | e | e <;> rw [e]
   · exact ros_sc
   · rw [hn']; exact til_sc
   · exact he.sc
   · simp [AObj.sc,sc1,sc0]; omega
   · simp [AObj.sc,sc1,sc0]; omega
   · simp [AObj.sc,sc1,sc0]
 · simp only [bsH,List.mem_cons,List.not_mem_nil,or_false] at ho'
   rcases ho' with rfl | rfl | rfl | rfl | rfl | rfl
   · exact ros_nm
   · exact til_nm rfl
   · refine List.all_eq_true.2 fun e h => ?_
     obtain ⟨_,f,h5,_⟩ := he e h
     rw [h5]; simp [C5,nm2,nm1,nm0]
   · rfl
   · rfl
   · rfl
end Go.Pier.Fl
namespace Go.Pier.Fl
open Go Go.Pier Go.Proofs
noncomputable def loB : Code := Try.f105.body.getD .skip
noncomputable def loW :=
fun (a:Int)↦(Ob (AObj.rw [ptr0 0] none=AObj.rw [ptr0 0] none∧true=true)∧Ob (AObj.rw [Value.map (some 1)] none=AObj.rw [Value.map (some 1)] none∧true=true)∧Ob (AObj.rw [vi a] none=AObj.rw [vi a] none∧true=true)∧True)∧Ob (Value.func (Fn.func 109) ⟨[]⟩ ⟨[ptr0 2,ptr0 3,ptr0 4]⟩=Value.func (Fn.func (109:FuncId)) ⟨[]⟩ ⟨[ptr0 2,ptr0 3,ptr0 4]⟩)∧True
theorem loW_eq : loW = fun (a : Int) => vc Try.prog {} 2 8 true (fun _ => none) loB [] (argFr 0 [ptr0 0,.map (some 1),vi a]) [.gone,.gone] (retR Try.prog Try.f105 2 (fun b => b) (loV 2 3 4) [.gone,.gone,.rw [ptr0 0] none,.rw [.map (some 1)] none,.rw [vi a] none]) := by kernel_rfl
theorem lo_call (a : Int) : Call Try.prog 105 [ptr0 0,.map (some 1),vi a] [.gone,.gone] fun v H' => v = loV 2 3 4∧H' = [.gone,.gone] ++ [.rw [ptr0 0] none,.rw [.map (some 1)] none,.rw [vi a] none] :=
 Call.ofVcR (E := {}) (H := [.gone,.gone]) (args := [ptr0 0,.map (some 1),vi a]) (σ := fun b => b) (v2 := loV 2 3 4) (H2 := [.gone,.gone,.rw [ptr0 0] none,.rw [.map (some 1)] none,.rw [vi a] none]) E0_ok mixed (c := loB) (inv := fun _ => none) Try.func105 (by kernel_rfl) (cast (congrFun loW_eq a) (by unfold loW; simp only [SS,reduceCtorEq,Arg.list,Arg.num,Arg.flag,intOf,andP,Nat.reduceLeDiff,Nat.reduceAdd,Nat.reduceMul,Nat.reduceLT]))
noncomputable def loCt : List Value→Heap→Option (Option Prop × Value × Heap × List Nat) := fun args H => match args with
 | [.pointer (some ⟨1,0,none⟩),.map (some m),.int .i64 a] => match Nat.blt 1 m && Nat.blt m H.length with
   | true => some (none,loV H.length (H.length + 1) (H.length + 2),H ++ [.rw [ptr0 1] none,.rw [.map (some m)] none,.rw [vi a] none],[])
   | false => none
 | _ => none
theorem loCt_ok : ∀ args H φ v H' k,loCt args H = some (φ,v,H',k)→Asks φ→Call Try.prog 105 args H (fun v' H2 => v' = v∧H2 = H')∧Kept H H' k := fun args H φ v H' k0 h hφ => by
 unfold loCt at h
 split at h <;> try (cases h; done)
 rename_i m a
 split at h <;> cases h
 rename_i hm
 simp only [Bool.and_eq_true,Nat.blt_eq] at hm
 have e2 : nameL [1,m] 2 H.length 2 = H.length := by simp [nameL]
 have e3 : nameL [1,m] 2 H.length 3 = H.length + 1 := by simp [nameL]
 have e4 : nameL [1,m] 2 H.length 4 = H.length + 2 := by simp [nameL]
 have e0 : nameL [1,m] 2 H.length 0 = 1 := by simp [nameL]
 have e1 : nameL [1,m] 2 H.length 1 = m := by simp [nameL]
 have hN : ([.rw [ptr0 0] none,.rw [.map (some 1)] none,.rw [vi a] none] : Heap).map (omap (nameL [1,m] 2 H.length)) = [.rw [ptr0 1] none,.rw [.map (some m)] none,.rw [vi a] none] := by
   simp [omap,nmap1,nmap0,am,e0,e1]
 have hV : nmap (nameL [1,m] 2 H.length) (loV 2 3 4) = loV H.length (H.length + 1) (H.length + 2) := by
   simp [nmap,nmap2,nmap1,nmapA,nmap0,nmapFn,am,e2,e3,e4]
 have := Call.frameG (P := Try.prog) (f := 105) (Et := [.gone,.gone]) (Ft := [.gone,.gone]) (N := [.rw [ptr0 0] none,.rw [.map (some 1)] none,.rw [vi a] none]) (H := H) (L := [1,m]) (args := [ptr0 0,.map (some 1),vi a]) (vs := [ptr0 1,.map (some m),vi a]) (v := loV 2 3 4) rfl rfl (by simp; omega) (fun x hx => by simp at hx; omega)
   (fun c o h => .inl ?_) (fun o ho => ?_) rfl (by simp [sc,sc2,sc1,sc0]) (lo_call a) (fun o ho => ?_) (fun o ho => ?_) (by simp [nm,nm2,nm1,nm0,nmFn]) (fun o ho => ?_) (by show sc (H.length + 3) (nmap (nameL [1,m] 2 H.length) (loV 2 3 4)) = true; rw [hV]; simp [sc,sc2,sc1,sc0])
 · obtain ⟨t1,_⟩ := this
   rw [show ([AObj.gone,AObj.gone] : Heap).length = 2 from rfl,hV,hN] at t1
   exact ⟨t1,Kept.append _ _ _⟩
 · rcases c with _ | _ | c
   · cases h; rfl
   · cases h; rfl
   · simp at h
 · simp only [List.mem_cons,List.not_mem_nil,or_false,or_self] at ho; rw [ho]; rfl
 · simp only [List.mem_append,List.mem_cons,List.not_mem_nil,or_false,or_self] at ho
   rcases ho with rfl | rfl | rfl | rfl <;> rfl
 · simp only [List.mem_cons,List.not_mem_nil,or_false] at ho
   rcases ho with rfl | rfl | rfl <;> rfl
 · simp only [List.mem_append,List.mem_cons,List.not_mem_nil,or_false,or_self] at ho
   rcases ho with rfl | rfl | rfl | rfl
   · rfl
   · simp [omap,nmap1,nmap0,am,e0,AObj.sc,sc1,sc0]
   · simp [omap,nmap1,nmap0,am,e1,AObj.sc,sc1,sc0]; omega
   · rfl
end Go.Pier.Fl
namespace Go.Pier.Fl
open Go Go.Pier Go.Proofs
noncomputable def ch_c0 : Code := ((Code.region (2 : Nat) { toList := [{ dst := some (5 : Nat),op := Op.assign (Operand.tmp (10 : Nat)),type := (2 : Nat),pos := "change.go:48",after := { toList := [] },guard := none }] } false).seq (Code.region (3 : Nat) { toList := [{ dst := some (6 : Nat),op := Op.alloc (71 : Nat),type := (0 : Nat),pos := "change.go:48",after := { toList := [] },guard := none },{ dst := none,op := Op.store (71 : Nat) (Operand.tmp (6 : Nat)) (Operand.tmp (11 : Nat)),type := (0 : Nat),pos := "change.go:48",after := { toList := [{ on := (0 : Nat),ground := Ground.data },{ on := (0 : Nat),ground := Ground.phase }] },guard := none }] } false))
noncomputable def ch_c1 : Code := (Code.block (1 : Nat) ((Code.region (4 : Nat) { toList := [{ dst := some (12 : Nat),op := Op.move (Operand.tmp (5 : Nat)),type := (2 : Nat),pos := "change.go:49",after := { toList := [] },guard := none },{ dst := some (13 : Nat),op := Op.load (2 : Nat) (Operand.tmp (3 : Nat)),type := (2 : Nat),pos := "change.go:49",after := { toList := [] },guard := none },{ dst := some (14 : Nat),op := Op.binOp BinOp.eql (2 : Nat) (Operand.tmp (12 : Nat)) (Operand.tmp (13 : Nat)) (2 : Nat),type := (4 : Nat),pos := "change.go:49",after := { toList := [{ on := (0 : Nat),ground := Ground.data },{ on := (1 : Nat),ground := Ground.data }] },guard := none }] } false).seq (Code.cond (Operand.tmp (14 : Nat)) ((Code.region (5 : Nat) { toList := [{ dst := some (15 : Nat),op := Op.load (71 : Nat) (Operand.tmp (6 : Nat)),type := (71 : Nat),pos := "change.go:50",after := { toList := [] },guard := none },{ dst := none,op := Op.store (71 : Nat) (Operand.tmp (4 : Nat)) (Operand.tmp (15 : Nat)),type := (0 : Nat),pos := "change.go:50",after := { toList := [{ on := (0 : Nat),ground := Ground.data },{ on := (0 : Nat),ground := Ground.phase }] },guard := none }] } false).seq Code.ret) Code.skip)))
def entV (l : List Int) (q : Int→Option Value) (a : Nat) : Option Value := bif ((a : Int) == 0) || !(same5 (bstF l q a l.length).1 z5) then some (C5 (bstF l q a l.length).1) else none
def qF (l : List Int) : Nat→Int→Option Value
 | 0 => fun _ => none
 | a + 1 => fun x => if x = (a : Int) then entV l (qF l a) a else qF l a x
def bF (l : List Int) (a : Nat) : Nat→Int := (bstF l (qF l a) a l.length).1
def lastF (l : List Int) : Int := l.getD (l.length - 1) 0
def keptP (l : List Int) (a : Nat) (es : List MapEntry) : Prop := EntOk es∧∀ x : Int,(a : Int) - lastF l≤x→lookE uA es x = qF l a x
noncomputable def yC (E : VEnv) : VEnv := { ct := (((Ct.none.add 105 loCt).add 68 (pure3 [ps5,.one (.int .i64)] acS))),cc := ccIn Try.prog {} [⟨99,Try.f99,fun _ _ _ => none⟩],yc := ycIn Try.prog E (fun _ => none),orc := orcMV Try.prog uA shC }
noncomputable def chE (l : List Int) (c : Nat) (zl : List Int) (E : VEnv) : VEnv := { yC E with ct := (yC E).ct.add 88 (bsCt l c zl) }
def chI (l : List Int) (am : Nat) (G : Nat→Heap→Heap) (ok : Nat→Prop) : List Value→Heap→Nat→Option LInv := fun args H => match args with
 | [y, p1, p2] => invOf 0 (LInv.one (Nat × List MapEntry × Nat) (fun q => q.1 ≤ am + 1 ∧ keptP l q.1 q.2.1 ∧ ok q.1) (fun q => [(0, y), (1, p1), (2, p2), (4, .map (some H.length)), (9, vi ((am + 1 : Nat) : Int)), (10, vi q.1)])
     (fun q => G q.1 H ++ [.map q.2.1 q.2.2]) (fun q => am + 1 - q.1))
 | _ => fun _ => none
noncomputable def cgE (l : List Int) (c : Nat) (zl : List Int) (am : Nat) : VEnv := { cc := ccOr (ccIn Try.prog {} [⟨93,Try.f93,fun _ _ _ => none⟩]) (ccIn Try.prog (chE l c zl {}) [⟨104,Try.f104,chI l am (fun _ H => H) (fun a => am < a→same5 (bF l am) z5 = true)⟩]) }
noncomputable def cgB : Code := Try.f67.body.getD .skip
noncomputable def cgV0 (l:List Int) (x:Nat × List MapEntry × Nat):List Value := [vi ((bstF l (lookE uA x.snd.fst) (x.fst:Int) l.length).fst 0),vi ((bstF l (lookE uA x.snd.fst) (x.fst:Int) l.length).fst 1),vi ((bstF l (lookE uA x.snd.fst) (x.fst:Int) l.length).fst 2),vi ((bstF l (lookE uA x.snd.fst) (x.fst:Int) l.length).fst 3),vi ((bstF l (lookE uA x.snd.fst) (x.fst:Int) l.length).fst 4)]
noncomputable def cgV1 (am:Nat):Array Value := ⟨[ptr0 1,vi (am:Int),junk,ptr0 2,ptr0 3,junk,junk,ptr0 1,vi (am:Int),Value.func (Fn.func 104) ⟨[]⟩ ⟨[ptr0 5,ptr0 4]⟩,junk,junk,junk,junk,junk,junk,junk]⟩
noncomputable def cgV2 (l:List Int) (c:Nat) (zl:List Int) := (Value.slice (some (ad0 0)) l.length c::List.map (Value.int IntKind.i64) zl)
noncomputable def cgV3 (l:List Int) (x:Nat × List MapEntry × Nat) := (Value.agg ⟨[vi (IntKind.i64.wrap ((x.fst:Int)-getI (List.map (Value.int IntKind.i64) l) (0+(IntKind.i64.wrap ((l.length:Int)-(1:Int))).toNat * 1)))]⟩)
noncomputable def cgV4  : List Value := [vi (0 : Int),vi (0 : Int),vi (0 : Int),vi (0 : Int),vi (0 : Int)]
noncomputable def cgV5 (l:List Int) := (List.map (Value.int IntKind.i64) l)
noncomputable def cgV6 (l:List Int) (x:Nat × List MapEntry × Nat) := (x.snd.fst++[{ key := Value.agg ⟨[vi (x.fst:Int)]⟩,val := Value.agg { toList := (cgV0 l x) },born := x.snd.snd }])
noncomputable def cgV7 (am:Nat):Prop := (AObj.rw [vi (am:Int)] none=AObj.rw [vi (am:Int)] none∧true=true)
noncomputable def cgV8 (am:Nat):Prop := (AObj.loop LoopState.ready none (cgV1 am) ⟨[10,11]⟩ ch_c0 ch_c1=AObj.loop LoopState.ready none (cgV1 am) ⟨[10,11]⟩ ch_c0 ch_c1∧true=true)
noncomputable def cgV9  : Prop := (Value.func (Fn.yield (6 : Nat)) { toList := [] } { toList := [] } = Value.func (Fn.yield (6 : Nat)) { toList := [] } { toList := [] })
noncomputable def cgV10 (l:List Int) (x:Nat × List MapEntry × Nat) := (bstF l (lookE uA x.snd.fst) (x.fst:Int) l.length)
noncomputable def cgV11 (l:List Int) (am:Nat):Array Value := ⟨[vi (bF l am 0),vi (bF l am 1),vi (bF l am 2),vi (bF l am 3),vi (bF l am 4)]⟩
noncomputable def cgV12 (l:List Int) (am:Nat) (y:Nat × List MapEntry × Nat):Prop := (y.fst≤am+1∧keptP l y.fst y.snd.fst∧(am<y.fst→same5 (bF l am) z5=true))
noncomputable def cgV13 (l:List Int) := (IntAt IntKind.i64 (cgV5 l) (0+(IntKind.i64.wrap ((l.length:Int)-(1:Int))).toNat * 1))
noncomputable def cgV14 (l:List Int) (x:Nat × List MapEntry × Nat):Bool := ((x.fst:Int)==(0:Int) || !same5 (l5 ((cgV10 l x).fst 0) ((cgV10 l x).fst 1) ((cgV10 l x).fst 2) ((cgV10 l x).fst 3) ((cgV10 l x).fst 4)) z5)
noncomputable def cgV15  : Prop := (AObj.rw [ptr0 1] none = AObj.rw [ptr0 1] none∧true = true)
noncomputable def cgV16  : List Value := [Value.map (some (7 : Nat))]
noncomputable def cgV17  : Prop := (Value.map (some (7 : Nat)) = Value.map (some (7 : Nat)))
noncomputable def cgV18 (l:List Int) (c:Nat):List Value := [Value.slice (some (ad0 0)) l.length c]
noncomputable def cgV19  (x:Nat × List MapEntry × Nat) (y:Nat × List MapEntry × Nat):Prop := (IntKind.i64.wrap ((x.fst:Int)+(1:Int))=(y.fst:Int))
noncomputable def cgV20 (am:Nat) := (↑(am+1):Int)
noncomputable def cgV21  : Prop := (AObj.rw cgV4 none = AObj.rw cgV4 none∧true = true)
noncomputable def cgV22 (l:List Int) := ((l.length:Int)-(1:Int))
noncomputable def cgV23  (x:Nat × List MapEntry × Nat) := (x.snd.snd+1)
noncomputable def cgV24 (l:List Int) (x:Nat × List MapEntry × Nat) := (delE uA (cgV6 l x) (uA (cgV3 l x)))
noncomputable def cgV25 (am:Nat) (x:Nat × List MapEntry × Nat) (y:Nat × List MapEntry × Nat):Prop := (am+1-y.fst<am+1-x.fst)
noncomputable def cgV26  (y:Nat × List MapEntry × Nat) := (AObj.map y.snd.fst y.snd.snd)
noncomputable def cgV27  := (Value.map (some (7 : Nat)))
noncomputable def cgV :=
fun (l:List Int) (c:Nat) (zl:List Int) (am:Nat)↦Ob (some (vi (am:Int))=some (vi (am:Int)))∧Ob (some (vi (am:Int))=some (vi (am:Int)))∧(∃ (y:Nat × List MapEntry × Nat),Ob (cgV12 l am y)∧(Ob (AObj.ro (cgV5 l)=AObj.ro (List.map (nmap1 fun (b:Nat)↦b) (cgV5 l))∧AObj.sc 8 (AObj.ro (cgV5 l))=true)∧Ob (AObj.rw (cgV2 l c zl) none=AObj.rw (List.map (nmap1 fun (b:Nat)↦b) (cgV2 l c zl)) none∧AObj.sc 8 (AObj.rw (cgV2 l c zl) none)=true)∧Ob (cgV7 am)∧Ob cgV21∧Ob cgV15∧Ob (cgV7 am)∧Ob (cgV8 am)∧Ob (AObj.map [] 0=AObj.map (List.map (fun (e:MapEntry)↦{ key := e.key,val := nmap2 (fun (b:Nat)↦b) e.val,born := e.born }) y.snd.fst) y.snd.snd∧AObj.sc 8 (cgV26 y)=true)∧True)∧Ob cgV9∧Ob (ptr0 5=ptr0 5)∧Ob (ptr0 4=ptr0 4)∧Ob cgV17∧Ob (IntKind.i64.wrap ((am:Int)+(1:Int))=(cgV20 am))∧Ob ((0:Int)=(y.fst:Int))∧True)∧∀ (x:Nat × List MapEntry × Nat),Ob (x.fst≤am+1∧keptP l x.fst x.snd.fst∧(am<x.fst→same5 (bF l am) z5=true))→(decide ((x.fst:Int)<(cgV20 am))=true→Ob (AtT l c zl [AObj.ro (cgV5 l),AObj.rw (cgV2 l c zl) none,AObj.rw [vi (am:Int)] none,AObj.rw cgV4 none,AObj.rw [ptr0 1] none,AObj.rw [vi (am:Int)] none,AObj.loop LoopState.ready none (cgV1 am) ⟨[10,11]⟩ ch_c0 ch_c1,AObj.map x.snd.fst x.snd.snd,AObj.rw [ptr0 1] none,AObj.rw cgV16 none,AObj.rw [vi (x.fst:Int)] none]∧rngC l∧((0:Int)≤(x.fst:Int)∧(x.fst:Int)≤(5000:Int))∧EntOk x.snd.fst∧true=true∧6≤11)∧Ob (0+5≤5)∧Ob True∧((cgV14 l x)=true→Ob (aMapUpdate Try.prog [AObj.ro (cgV5 l),AObj.rw (cgV2 l c zl) none,AObj.rw [vi (am:Int)] none,AObj.rw cgV4 none,AObj.rw [ptr0 1] none,AObj.rw [vi (am:Int)] none,AObj.loop LoopState.ready none (cgV1 am) ⟨[10,11]⟩ ch_c0 ch_c1,AObj.map x.snd.fst x.snd.snd,AObj.rw [ptr0 1] none,AObj.rw cgV16 none,AObj.rw [vi (x.fst:Int)] none,AObj.rw (cgV0 l x) none] 112 cgV27 (Value.agg ⟨[vi (x.fst:Int)]⟩) (Value.agg { toList := (cgV0 l x) })=some [AObj.ro (cgV5 l),AObj.rw (cgV2 l c zl) none,AObj.rw [vi (am:Int)] none,AObj.rw cgV4 none,AObj.rw [ptr0 1] none,AObj.rw [vi (am:Int)] none,AObj.loop LoopState.ready none (cgV1 am) ⟨[10,11]⟩ ch_c0 ch_c1,AObj.map (cgV6 l x) (cgV23 x),AObj.rw [ptr0 1] none,AObj.rw cgV16 none,AObj.rw [vi (x.fst:Int)] none,AObj.rw (cgV0 l x) none])∧Ob (0+5≤5)∧Ob (some (vi (am:Int))=some (vi (am:Int)))∧(((x.fst:Int)==(am:Int))=true→Ob (0+5≤5)∧(true=true→(Ob (AObj.ro (cgV5 l)=AObj.ro (List.map (nmap1 fun (b:Nat)↦b) (cgV5 l))∧AObj.sc 2 (AObj.ro (cgV5 l))=true)∧Ob (AObj.rw (cgV2 l c zl) none=AObj.rw (List.map (nmap1 fun (b:Nat)↦b) (cgV2 l c zl)) none∧AObj.sc 2 (AObj.rw (cgV2 l c zl) none)=true)∧True)∧Ob (Value.agg { toList := (cgV0 l x) }=Value.agg (cgV11 l am))∧True)∧(true=false→Ob ((0:Int)≤IntKind.i64.wrap (cgV22 l)∧IntKind.i64.wrap (cgV22 l)<(l.length:Int)∧true=true)∧Ob (cgV13 l)∧Ob (aDelete Try.prog [AObj.ro (cgV5 l),AObj.rw (cgV2 l c zl) none,AObj.rw [vi (am:Int)] none,AObj.rw (cgV0 l x) none,AObj.rw [ptr0 1] none,AObj.rw [vi (am:Int)] none,AObj.loop LoopState.done (some Code.ret) (cgV1 am) ⟨[10,11]⟩ ch_c0 ch_c1,AObj.map (cgV6 l x) (cgV23 x),AObj.rw [ptr0 1] none,AObj.rw cgV16 none,AObj.rw [vi (x.fst:Int)] none,AObj.rw (cgV0 l x) none,AObj.rw (cgV0 l x) none,AObj.rw (cgV18 l c) none] ⟨[112,115]⟩ cgV27 (cgV3 l x)=some [AObj.ro (cgV5 l),AObj.rw (cgV2 l c zl) none,AObj.rw [vi (am:Int)] none,AObj.rw (cgV0 l x) none,AObj.rw [ptr0 1] none,AObj.rw [vi (am:Int)] none,AObj.loop LoopState.done (some Code.ret) (cgV1 am) ⟨[10,11]⟩ ch_c0 ch_c1,AObj.map (cgV24 l x) (cgV23 x),AObj.rw [ptr0 1] none,AObj.rw cgV16 none,AObj.rw [vi (x.fst:Int)] none,AObj.rw (cgV0 l x) none,AObj.rw (cgV0 l x) none,AObj.rw (cgV18 l c) none])∧∃ (y:Nat × List MapEntry × Nat),Ob (cgV12 l am y)∧Ob (cgV25 am x y)∧(Ob (AObj.ro (cgV5 l)=AObj.ro (List.map (nmap1 fun (b:Nat)↦b) (cgV5 l))∧AObj.sc 8 (AObj.ro (cgV5 l))=true)∧Ob (AObj.rw (cgV2 l c zl) none=AObj.rw (List.map (nmap1 fun (b:Nat)↦b) (cgV2 l c zl)) none∧AObj.sc 8 (AObj.rw (cgV2 l c zl) none)=true)∧Ob (cgV7 am)∧Ob (AObj.rw (cgV0 l x) none=AObj.rw cgV4 none∧true=true)∧Ob cgV15∧Ob (cgV7 am)∧Ob (AObj.loop LoopState.done (some Code.ret) (cgV1 am) ⟨[10,11]⟩ ch_c0 ch_c1=AObj.loop LoopState.ready none (cgV1 am) ⟨[10,11]⟩ ch_c0 ch_c1∧true=true)∧Ob (AObj.map (cgV24 l x) (cgV23 x)=AObj.map (List.map (fun (e:MapEntry)↦{ key := e.key,val := nmap2 (fun (b:Nat)↦b) e.val,born := e.born }) y.snd.fst) y.snd.snd∧AObj.sc 8 (cgV26 y)=true)∧True)∧Ob cgV9∧Ob (ptr0 5=ptr0 5)∧Ob (ptr0 4=ptr0 4)∧Ob cgV17∧Ob ((cgV20 am)=(cgV20 am))∧Ob (cgV19 x y)∧True))∧(((x.fst:Int)==(am:Int))=false→(false=true→Ob (0+5≤5)∧(Ob (AObj.ro (cgV5 l)=AObj.ro (List.map (nmap1 fun (b:Nat)↦b) (cgV5 l))∧AObj.sc 2 (AObj.ro (cgV5 l))=true)∧Ob (AObj.rw (cgV2 l c zl) none=AObj.rw (List.map (nmap1 fun (b:Nat)↦b) (cgV2 l c zl)) none∧AObj.sc 2 (AObj.rw (cgV2 l c zl) none)=true)∧True)∧Ob (Value.agg { toList := cgV4 }=Value.agg (cgV11 l am))∧True)∧(false=false→Ob ((0:Int)≤IntKind.i64.wrap (cgV22 l)∧IntKind.i64.wrap (cgV22 l)<(l.length:Int)∧true=true)∧Ob (cgV13 l)∧Ob (aDelete Try.prog [AObj.ro (cgV5 l),AObj.rw (cgV2 l c zl) none,AObj.rw [vi (am:Int)] none,AObj.rw cgV4 none,AObj.rw [ptr0 1] none,AObj.rw [vi (am:Int)] none,AObj.loop LoopState.ready none (cgV1 am) ⟨[10,11]⟩ ch_c0 ch_c1,AObj.map (cgV6 l x) (cgV23 x),AObj.rw [ptr0 1] none,AObj.rw cgV16 none,AObj.rw [vi (x.fst:Int)] none,AObj.rw (cgV0 l x) none,AObj.rw (cgV0 l x) none,AObj.rw (cgV18 l c) none] ⟨[112,115]⟩ cgV27 (cgV3 l x)=some [AObj.ro (cgV5 l),AObj.rw (cgV2 l c zl) none,AObj.rw [vi (am:Int)] none,AObj.rw cgV4 none,AObj.rw [ptr0 1] none,AObj.rw [vi (am:Int)] none,AObj.loop LoopState.ready none (cgV1 am) ⟨[10,11]⟩ ch_c0 ch_c1,AObj.map (cgV24 l x) (cgV23 x),AObj.rw [ptr0 1] none,AObj.rw cgV16 none,AObj.rw [vi (x.fst:Int)] none,AObj.rw (cgV0 l x) none,AObj.rw (cgV0 l x) none,AObj.rw (cgV18 l c) none])∧∃ (y:Nat × List MapEntry × Nat),Ob (cgV12 l am y)∧Ob (cgV25 am x y)∧(Ob (AObj.ro (cgV5 l)=AObj.ro (List.map (nmap1 fun (b:Nat)↦b) (cgV5 l))∧AObj.sc 8 (AObj.ro (cgV5 l))=true)∧Ob (AObj.rw (cgV2 l c zl) none=AObj.rw (List.map (nmap1 fun (b:Nat)↦b) (cgV2 l c zl)) none∧AObj.sc 8 (AObj.rw (cgV2 l c zl) none)=true)∧Ob (cgV7 am)∧Ob cgV21∧Ob cgV15∧Ob (cgV7 am)∧Ob (cgV8 am)∧Ob (AObj.map (cgV24 l x) (cgV23 x)=AObj.map (List.map (fun (e:MapEntry)↦{ key := e.key,val := nmap2 (fun (b:Nat)↦b) e.val,born := e.born }) y.snd.fst) y.snd.snd∧AObj.sc 8 (cgV26 y)=true)∧True)∧Ob cgV9∧Ob (ptr0 5=ptr0 5)∧Ob (ptr0 4=ptr0 4)∧Ob cgV17∧Ob ((cgV20 am)=(cgV20 am))∧Ob (cgV19 x y)∧True)))∧((cgV14 l x)=false→Ob ((0:Int)≤IntKind.i64.wrap (cgV22 l)∧IntKind.i64.wrap (cgV22 l)<(l.length:Int)∧true=true)∧Ob (cgV13 l)∧Ob (aDelete Try.prog [AObj.ro (cgV5 l),AObj.rw (cgV2 l c zl) none,AObj.rw [vi (am:Int)] none,AObj.rw cgV4 none,AObj.rw [ptr0 1] none,AObj.rw [vi (am:Int)] none,AObj.loop LoopState.ready none (cgV1 am) ⟨[10,11]⟩ ch_c0 ch_c1,AObj.map x.snd.fst x.snd.snd,AObj.rw [ptr0 1] none,AObj.rw cgV16 none,AObj.rw [vi (x.fst:Int)] none,AObj.rw (cgV0 l x) none,AObj.rw (cgV18 l c) none] ⟨[112,115]⟩ cgV27 (cgV3 l x)=some [AObj.ro (cgV5 l),AObj.rw (cgV2 l c zl) none,AObj.rw [vi (am:Int)] none,AObj.rw cgV4 none,AObj.rw [ptr0 1] none,AObj.rw [vi (am:Int)] none,AObj.loop LoopState.ready none (cgV1 am) ⟨[10,11]⟩ ch_c0 ch_c1,AObj.map (delE uA x.snd.fst (uA (cgV3 l x))) x.snd.snd,AObj.rw [ptr0 1] none,AObj.rw cgV16 none,AObj.rw [vi (x.fst:Int)] none,AObj.rw (cgV0 l x) none,AObj.rw (cgV18 l c) none])∧∃ (y:Nat × List MapEntry × Nat),Ob (cgV12 l am y)∧Ob (cgV25 am x y)∧(Ob (AObj.ro (cgV5 l)=AObj.ro (List.map (nmap1 fun (b:Nat)↦b) (cgV5 l))∧AObj.sc 8 (AObj.ro (cgV5 l))=true)∧Ob (AObj.rw (cgV2 l c zl) none=AObj.rw (List.map (nmap1 fun (b:Nat)↦b) (cgV2 l c zl)) none∧AObj.sc 8 (AObj.rw (cgV2 l c zl) none)=true)∧Ob (cgV7 am)∧Ob cgV21∧Ob cgV15∧Ob (cgV7 am)∧Ob (cgV8 am)∧Ob (AObj.map (delE uA x.snd.fst (uA (cgV3 l x))) x.snd.snd=AObj.map (List.map (fun (e:MapEntry)↦{ key := e.key,val := nmap2 (fun (b:Nat)↦b) e.val,born := e.born }) y.snd.fst) y.snd.snd∧AObj.sc 8 (cgV26 y)=true)∧True)∧Ob cgV9∧Ob (ptr0 5=ptr0 5)∧Ob (ptr0 4=ptr0 4)∧Ob cgV17∧Ob ((cgV20 am)=(cgV20 am))∧Ob (cgV19 x y)∧True))∧(decide ((x.fst:Int)<(cgV20 am))=false→Ob (0+5≤5)∧(Ob (AObj.ro (cgV5 l)=AObj.ro (List.map (nmap1 fun (b:Nat)↦b) (cgV5 l))∧AObj.sc 2 (AObj.ro (cgV5 l))=true)∧Ob (AObj.rw (cgV2 l c zl) none=AObj.rw (List.map (nmap1 fun (b:Nat)↦b) (cgV2 l c zl)) none∧AObj.sc 2 (AObj.rw (cgV2 l c zl) none)=true)∧True)∧Ob (Value.agg { toList := cgV4 }=Value.agg (cgV11 l am))∧True)
theorem bst_congr {l : List Int} {q q' : Int→Option Value} {a : Int} : ∀ i,(∀ j,j < i→q (a - l.getD j 0) = q' (a - l.getD j 0))→bstF l q a i = bstF l q' a i
 | 0,_ => rfl
 | i + 1,h => by
   rw [bstF,bstF,h i (by omega),bst_congr i fun j hj => h j (by omega)]
theorem coin_rng {l : List Int} (h : Coins l) {j : Nat} (hj : j < l.length) : 1≤l.getD j 0∧l.getD j 0≤50 := h.rng _ (ints_mem hj)
theorem coin_le {l : List Int} (h : Coins l) : ∀ (d j : Nat),j + d < l.length→l.getD j 0≤l.getD (j + d) 0
 | 0,j,_ => by simp
 | d + 1,j,hj => by
   have h1 := coin_le h d j (by omega)
   have h2 := h.inc (j + d + 1) (by omega) (by omega)
   rw [Nat.add_sub_cancel] at h2
   rw [show j + (d + 1) = j + d + 1 by omega]; omega
theorem coin_last {l : List Int} (h : Coins l) {j : Nat} (hj : j < l.length) : l.getD j 0≤lastF l := by
 have := coin_le h (l.length - 1 - j) j (by omega)
 rwa [show j + (l.length - 1 - j) = l.length - 1 by omega] at this
theorem last_rng {l : List Int} (h : Coins l) : 1≤lastF l∧lastF l≤50 := coin_rng h (by have := h.pos; omega)
theorem rng_of {l : List Int} (h : Coins l) : rngC l := ⟨h.few,fun j hj => coin_rng h hj⟩
theorem kept_bst {l : List Int} {a : Nat} {es : List MapEntry} (hc : Coins l) (hk : keptP l a es) : bstF l (lookE uA es) a l.length = bstF l (qF l a) a l.length :=
 bst_congr _ fun j hj => hk.2 _ (by have := coin_last hc hj; omega)
theorem bst_bd {l : List Int} {a : Nat} {q : Int→Option Value} (hc : Coins l) (ha : a≤1000000) (hq : ∀ x v,q x = some v→∃ f,v = C5 f∧0≤x∧x < a∧∀ k,k < 5→0≤f k∧f k≤x) : ∀ i,i≤l.length→∀ k,k < 5→0≤(bstF l q a i).1 k∧(bstF l q a i).1 k≤a
 | 0,_,k,_ => by simp only [bstF,z5]; omega
 | i + 1,hi,k,hk => by
   have ih := bst_bd hc ha hq i (by omega)
   have hr := coin_rng hc (j := i) (by omega)
   unfold bstF
   cases hs : q (a - l.getD i 0) with
   | none => exact ih k hk
   | some v =>
     obtain ⟨f,rfl,h1,h2,h3⟩ := hq _ _ hs
     cases (some (C5 f)).isSome && ((bstF l q a i).2 || btrV l.length (inc5 (cntF (some (C5 f))) i) (bstF l q a i).1)
     · exact ih k hk
     · have h5 := hc.few
       have h4 : cntF (some (C5 f)) i = f i := cnt_C5 (by omega)
       have h6 : cntF (some (C5 f)) k = f k := cnt_C5 hk
       have h7 := h3 i (by omega)
       have h8 := h3 k hk
       show 0≤inc5 (cntF (some (C5 f))) i k∧inc5 (cntF (some (C5 f))) i k≤a
       unfold inc5
       rw [h4,h6,wrap_in (by omega) (by omega)]
       cases Nat.beq k i <;> simp only [cond_true,cond_false] <;> omega
theorem ent_bd {l : List Int} (hc : Coins l) : ∀ (a : Nat),a≤1000000→∀ x v,qF l a x = some v→∃ f,v = C5 f∧0≤x∧x < a∧∀ k,k < 5→0≤f k∧f k≤x
 | 0,_,x,v,h => by cases h
 | a + 1,ha,x,v,h => by
   have ih := ent_bd hc a (by omega)
   unfold qF at h
   split at h
   · rename_i e
     unfold entV at h
     cases hb : ((a : Int) == 0) || !(same5 (bstF l (qF l a) a l.length).1 z5) with
     | false => rw [hb] at h; cases h
     | true =>
       rw [hb] at h
       cases h
       exact ⟨_,rfl,by omega,by omega,fun k hk => by rw [e]; exact bst_bd hc (a := a) (by omega) ih _ (Nat.le_refl _) k hk⟩
   · obtain ⟨f,h1,h2,h3,h4⟩ := ih x v h
     exact ⟨f,h1,h2,by omega,h4⟩
theorem bF_bd {l : List Int} (hc : Coins l) {a : Nat} (ha : a≤1000000) {k : Nat} (hk : k < 5) : 0≤bF l a k∧bF l a k≤a := bst_bd hc ha (ent_bd hc a ha) _ (Nat.le_refl _) k hk
theorem bF_less {l : List Int} (hc : Coins l) {a : Nat} (ha : a≤9999) : lessP (bF l a) := by
 have h : ∀ k,k < 5→0≤bF l a k∧bF l a k≤9999 := fun k hk => by have := bF_bd hc (a := a) (by omega) hk; omega
 exact ⟨h 0 (by omega),h 1 (by omega),h 2 (by omega),h 3 (by omega),h 4 (by omega)⟩
theorem q_own {l : List Int} (hc : Coins l) {a : Nat} (ha : a≤1000000) {x : Int} (hx : (a : Int)≤x) : qF l a x = none := by
 cases h : qF l a x with
 | none => rfl
 | some v => obtain ⟨_,_,_,h3,_⟩ := ent_bd hc a ha x v h; omega
theorem kept_0 {l : List Int} : keptP l 0 [] := ⟨fun _ h => (by cases h),fun _ _ => rfl⟩
theorem kept_fresh {l : List Int} {a : Nat} {es : List MapEntry} (hc : Coins l) (ha : a≤1000000) (hk : keptP l a es) : lookE uA es a = none := by
 have := last_rng hc
 rw [hk.2 a (by omega)]; exact q_own hc ha (Int.le_refl _)
def canB (l : List Int) (a : Nat) : Bool := ((a : Int) == 0) || !(same5 (bF l a) z5)
theorem EntOk.snoc {es : List MapEntry} (h : EntOk es) {a : Int} {f : Nat→Int} {k : Nat} (hf : lessP f) : EntOk (es ++ [⟨kA a,C5 f,k⟩]) := fun e he => by
 rcases List.mem_append.1 he with he | he
 · exact h e he
 · rw [List.mem_singleton.1 he]; exact ⟨rfl,f,rfl,hf⟩
theorem EntOk.del {es : List MapEntry} (h : EntOk es) {b : Int} : EntOk (delE uA es b) := fun e he => h e (delE_mem he)
theorem kept_new {l : List Int} {a : Nat} {es : List MapEntry} {k : Nat} (hc : Coins l) (ha : a≤9999) (hk : keptP l a es) (h : canB l a = true) : keptP l (a + 1) (delE uA (es ++ [⟨kA a,C5 (bF l a),k⟩]) (a - lastF l)) := by
 have hr := last_rng hc
 refine ⟨(hk.1.snoc (bF_less hc ha)).del,fun x hx => ?_⟩
 rw [lookE_del (by omega),lookE_snoc,hk.2 x (by omega)]
 show _ = if x = (a : Int) then entV l (qF l a) a else qF l a x
 show (match qF l a x with | some v => some v | none => if (a : Int) = x then some (C5 (bF l a)) else none) = _
 by_cases e : x = (a : Int)
 · subst e
   rw [q_own hc (by omega) (Int.le_refl _),if_pos rfl]
   simp only [if_true]
   unfold entV
   rw [show (((a : Int) == 0) || !(same5 (bstF l (qF l a) a l.length).1 z5)) = true from h]; rfl
 · rw [if_neg e,if_neg (Ne.symm e)]
   cases qF l a x <;> rfl
theorem kept_old {l : List Int} {a : Nat} {es : List MapEntry} (hc : Coins l) (ha : a≤1000000) (hk : keptP l a es) (h : canB l a = false) : keptP l (a + 1) (delE uA es (a - lastF l)) := by
 have hr := last_rng hc
 refine ⟨hk.1.del,fun x hx => ?_⟩
 rw [lookE_del (by omega),hk.2 x (by omega)]
 show _ = if x = (a : Int) then entV l (qF l a) a else qF l a x
 by_cases e : x = (a : Int)
 · subst e
   rw [if_pos rfl]
   unfold entV
   rw [show (((a : Int) == 0) || !(same5 (bstF l (qF l a) a l.length).1 z5)) = false from h]
   rw [q_own hc ha (Int.le_refl _)]; rfl
 · rw [if_neg e]
theorem kept_bF {l : List Int} {a : Nat} {es : List MapEntry} (hc : Coins l) (hk : keptP l a es) : (bstF l (lookE uA es) a l.length).1 = bF l a := by rw [kept_bst hc hk]; rfl
theorem len_pred {l : List Int} (hc : Coins l) : IntKind.i64.wrap ((l.length : Int) - 1) = ((l.length - 1 : Nat) : Int) := by
 have := hc.pos; have := hc.few
 rw [wrap_in (by omega) (by omega)]; omega
theorem can_of {l : List Int} {a : Nat} {b : Bool} (h : ((a : Int) == 0 || !same5 (l5 (bF l a 0) (bF l a 1) (bF l a 2) (bF l a 3) (bF l a 4)) z5) = b) : canB l a = b := h
theorem del_es {es : List MapEntry} (h : EntOk es) {H : Heap} {m k : Nat} (hm : H[m]? = some (.map es k)) {tys : Array TypeId} (ht : tys[0]? = some 112) {b : Int} : aDelete Try.prog H tys (.map (some m)) (Value.agg { toList := [vi b] }) = some (H.set m (.map (delE uA es b) k)) :=
 delE_ok key115 u112 h.keys ht hm trivial
theorem new_es {es : List MapEntry} (h : EntOk es) {H : Heap} {m k : Nat} (hm : H[m]? = some (.map es k)) {b : Int} (hn : lookE uA es b = none) {f : Nat→Int} : aMapUpdate Try.prog H 112 (.map (some m)) (Value.agg { toList := [vi b] }) (Value.agg { toList := [vi (f 0),vi (f 1),vi (f 2),vi (f 3),vi (f 4)] }) = some (H.set m (.map (es ++ [⟨kA b,C5 f,k⟩]) (k + 1))) :=
 newE_ok key115 u112 h.keys hm trivial hn C5_sc
theorem map_same {es : List MapEntry} (h : EntOk es) {k m : Nat} : AObj.map es k = AObj.map (List.map (fun (e : MapEntry) => { key := e.key,val := nmap2 (fun b => b) e.val,born := e.born }) es) k∧AObj.sc m (AObj.map es k) = true := ⟨by rw [h.nm],h.sc⟩
theorem same_zero {f : Nat→Int} (h : same5 f z5 = true) : 0 = f 0∧0 = f 1∧0 = f 2∧0 = f 3∧0 = f 4 := by
 simp only [same5,Bool.and_eq_true,beq_iff_eq,z5] at h
 omega
theorem can_false {l : List Int} {a : Nat} (h : canB l a = false) : same5 (bF l a) z5 = true := by
 unfold canB at h
 simp only [Bool.or_eq_false_iff,Bool.not_eq_false'] at h
 exact h.2
theorem cgV_ok (l : List Int) (c : Nat) (zl : List Int) (am : Nat) (hc : Coins l) (ha : am≤5000) : cgV l c zl am := by
 unfold cgV cgV27 cgV26 cgV25 cgV24 cgV23 cgV22 cgV21 cgV20 cgV19 cgV18 cgV17 cgV16 cgV15 cgV14 cgV13 cgV12 cgV11 cgV10 cgV9 cgV8 cgV7 cgV6 cgV5 cgV4 cgV3 cgV2 cgV1 cgV0
 have hl := last_rng hc
 have hp := hc.pos
 have hw := hc.few
 simp only [SS,reduceCtorEq,Arg.list,Arg.num,Arg.flag,intOf,andP,Nat.reduceLeDiff,Nat.reduceAdd,Nat.reduceMul,Nat.reduceLT,til_sc,nm_sl,uA_k,len_pred hc]
 refine ⟨⟨(0,[],0),⟨by simp,kept_0,fun h => by simp at h⟩,⟨rfl,rfl⟩,by rw [wrap_in (by omega) (by omega)]; rfl,rfl⟩,fun x hx => ⟨fun h1 => ?_,fun h1 => ?_⟩⟩
 · obtain ⟨a,es,k⟩ := x
   obtain ⟨x1,hk,x3⟩ := hx
   simp only at x1 hk x3 h1
   simp only [kept_bF hc hk]
   have h5 : a≤5000 := by omega
   have hA : ∀ r,AtT l c zl (AObj.ro (List.map (Value.int IntKind.i64) l) :: AObj.rw (Value.slice (some (ad0 0)) l.length c :: List.map (Value.int IntKind.i64) zl) none :: r) := fun r => ⟨rfl,rfl⟩
   have wk : IntKind.i64.wrap ((a : Int) - l.getD (l.length - 1) 0) = (a : Int) - lastF l := by unfold lastF at *; rw [wrap_in (by omega) (by omega)]
   rw [wk]
   have nx : IntKind.i64.wrap ((a : Int) + 1) = ((a + 1 : Nat) : Int) := wrap_succ (n := 10000) (by omega) (by omega)
   refine ⟨⟨hA _,rng_of hc,by omega,hk.1⟩,fun h2 => ⟨new_es hk.1 rfl (kept_fresh hc (by omega) hk),fun h3 => ?_,fun h3 => ⟨by omega,by omega,del_es (hk.1.snoc (bF_less hc (by omega))) rfl rfl,(a + 1,_,k + 1),⟨by simp; omega,kept_new hc (by omega) hk (can_of h2),fun h4 => ?_⟩,by simp; omega,map_same (kept_new hc (by omega) hk (can_of h2)).1,nx⟩⟩,fun h2 => ⟨by omega,by omega,del_es hk.1 rfl rfl,(a + 1,_,k),⟨by simp; omega,kept_old hc (by omega) hk (can_of h2),fun h4 => ?_⟩,by simp; omega,map_same (kept_old hc (by omega) hk (can_of h2)).1,nx⟩⟩
   · obtain rfl : a = am := by omega
     rfl
   · simp only at h4; omega
   · obtain rfl : a = am := by simp only at h4; omega
     exact can_false (can_of h2)
 · obtain ⟨e0,e1,e2,e3,e4⟩ := same_zero (hx.2.2 (by omega))
   rw [← e0,← e1,← e2,← e3,← e4]
theorem yC_ok {E : VEnv} (h : VOk Try.prog E) : VOk Try.prog (yC E) := ⟨(CtOk.none.add loCt_ok).add acG_ok,ccIn_ok E0_ok mixed (inl_one Try.func99),ycIn_ok h mixed,orcMV_ok⟩
theorem chE_ok {l : List Int} {c : Nat} {zl : List Int} {E : VEnv} (h : VOk Try.prog E) : VOk Try.prog (chE l c zl E) := ⟨(yC_ok h).ct.add bsCt_ok,(yC_ok h).cc,(yC_ok h).yc,(yC_ok h).orc⟩
theorem cgE_ok {l : List Int} {c : Nat} {zl : List Int} {am : Nat} : VOk Try.prog (cgE l c zl am) := ⟨CtOk.none,ccOr_ok (ccIn_ok E0_ok mixed (inl_one Try.func93)) (ccIn_ok (chE_ok E0_ok) mixed (inl_one Try.func104)),E0_ok.yc,E0_ok.orc⟩
theorem cg_call (l : List Int) (c : Nat) (zl : List Int) (am : Nat) (hc : Coins l) (ha : am≤5000) : Call Try.prog 67 [ptr0 1,vi (am : Int)] [ros l,tillO l.length c zl] fun v H' => v = C5 (bF l am)∧H' = [ros l,tillO l.length c zl] :=
 Call.ofVcR (E := cgE l c zl am) (H := [ros l,tillO l.length c zl]) (args := [ptr0 1,vi (am : Int)]) (σ := fun b => b) (v2 := C5 (bF l am)) (H2 := [ros l,tillO l.length c zl]) cgE_ok mixed (c := cgB) (inv := fun _ => none) Try.func67 (by kernel_rfl) (cast (by kernel_rfl) (cgV_ok l c zl am hc ha))
def AtZ (l : List Int) (c : Nat) (H : Heap) : Prop := ∃ zl,AtT l c zl H
noncomputable def cgCt (l : List Int) (c : Nat) : List Value→Heap→Option (Option Prop × Value × Heap × List Nat) := fun args H => match args with
 | [.pointer (some ⟨1,0,none⟩),.int .i64 a] => some (some (AtZ l c H∧Coins l∧0≤a∧a≤5000),C5 (bF l a.toNat),H,[])
 | _ => none
theorem cgCt_ok {l : List Int} {c : Nat} : ∀ args H φ v H' k,cgCt l c args H = some (φ,v,H',k)→Asks φ→Call Try.prog 67 args H (fun v' H2 => v' = v∧H2 = H')∧Kept H H' k := fun args H φ v H' k h hφ => by
 unfold cgCt at h
 split at h <;> cases h
 rename_i a
 obtain ⟨⟨zl,hA⟩,hc,h1,h2⟩ := hφ
 obtain ⟨n,rfl⟩ := Int.eq_ofNat_of_zero_le h1
 rw [Int.toNat_natCast]
 exact ⟨till_frame hA rfl (cg_call l c zl n hc (by omega)) (sc_of_sc2 C5_sc),Kept.refl _ _⟩
end Go.Pier.Fl
namespace Go.Pier.Fl
open Go Go.Pier Go.Proofs
def zer : List Int := List.replicate 301 0
def isZ (zl : List Int) : Prop := zl = zer
noncomputable def twE : VEnv := { ct := Ct.none.add 22 (pureG [.ints .i64] ciS) }
noncomputable def twB : Code := Try.f60.body.getD .skip
noncomputable def twV0 (l:List Int) (c:Nat):List AObj := [AObj.ro (List.map (Value.int IntKind.i64) l),AObj.rw (Value.slice (some (ad0 0)) l.length c::I10 empI [vi (0:Int),vi (0:Int),vi (0:Int),vi (0:Int),vi (0:Int),vi (0:Int),vi (0:Int),vi (0:Int),vi (0:Int),vi (0:Int),vi (0:Int),vi (0:Int),vi (0:Int),vi (0:Int),vi (0:Int),vi (0:Int),vi (0:Int),vi (0:Int),vi (0:Int),vi (0:Int),vi (0:Int),vi (0:Int),vi (0:Int),vi (0:Int),vi (0:Int),vi (0:Int),vi (0:Int),vi (0:Int),vi (0:Int),vi (0:Int),vi (0:Int),vi (0:Int),vi (0:Int),vi (0:Int),vi (0:Int),vi (0:Int),vi (0:Int),vi (0:Int),vi (0:Int),vi (0:Int),vi (0:Int),vi (0:Int),vi (0:Int),vi (0:Int),vi (0:Int),vi (0:Int),vi (0:Int),vi (0:Int),vi (0:Int),vi (0:Int),vi (0:Int),vi (0:Int),vi (0:Int),vi (0:Int),vi (0:Int),vi (0:Int),vi (0:Int),vi (0:Int),vi (0:Int),vi (0:Int),vi (0:Int),vi (0:Int),vi (0:Int),vi (0:Int),vi (0:Int),vi (0:Int),vi (0:Int),vi (0:Int),vi (0:Int),vi (0:Int),vi (0:Int),vi (0:Int),vi (0:Int),vi (0:Int),vi (0:Int),vi (0:Int),vi (0:Int),vi (0:Int),vi (0:Int),vi (0:Int),vi (0:Int),vi (0:Int),vi (0:Int),vi (0:Int),vi (0:Int),vi (0:Int),vi (0:Int),vi (0:Int),vi (0:Int),vi (0:Int),vi (0:Int),vi (0:Int),vi (0:Int),vi (0:Int),vi (0:Int),vi (0:Int),vi (0:Int),vi (0:Int),vi (0:Int),vi (0:Int),vi (0:Int),vi (0:Int),vi (0:Int),vi (0:Int),vi (0:Int),vi (0:Int),vi (0:Int),vi (0:Int),vi (0:Int),vi (0:Int),vi (0:Int),vi (0:Int),vi (0:Int),vi (0:Int),vi (0:Int),vi (0:Int),vi (0:Int),vi (0:Int),vi (0:Int),vi (0:Int),vi (0:Int),vi (0:Int),vi (0:Int),vi (0:Int),vi (0:Int),vi (0:Int),vi (0:Int),vi (0:Int),vi (0:Int),vi (0:Int),vi (0:Int),vi (0:Int),vi (0:Int),vi (0:Int),vi (0:Int),vi (0:Int),vi (0:Int),vi (0:Int),vi (0:Int),vi (0:Int),vi (0:Int),vi (0:Int),vi (0:Int),vi (0:Int),vi (0:Int),vi (0:Int),vi (0:Int),vi (0:Int),vi (0:Int),vi (0:Int),vi (0:Int),vi (0:Int),vi (0:Int),vi (0:Int),vi (0:Int),vi (0:Int),vi (0:Int),vi (0:Int),vi (0:Int),vi (0:Int),vi (0:Int),vi (0:Int),vi (0:Int),vi (0:Int),vi (0:Int),vi (0:Int),vi (0:Int),vi (0:Int),vi (0:Int),vi (0:Int),vi (0:Int),vi (0:Int),vi (0:Int),vi (0:Int),vi (0:Int),vi (0:Int),vi (0:Int),vi (0:Int),vi (0:Int),vi (0:Int),vi (0:Int),vi (0:Int),vi (0:Int),vi (0:Int),vi (0:Int),vi (0:Int),vi (0:Int),vi (0:Int),vi (0:Int),vi (0:Int),vi (0:Int),vi (0:Int),vi (0:Int),vi (0:Int),vi (0:Int),vi (0:Int),vi (0:Int),vi (0:Int),vi (0:Int),vi (0:Int),vi (0:Int),vi (0:Int),vi (0:Int),vi (0:Int),vi (0:Int),vi (0:Int),vi (0:Int),vi (0:Int),vi (0:Int),vi (0:Int),vi (0:Int),vi (0:Int),vi (0:Int),vi (0:Int),vi (0:Int),vi (0:Int),vi (0:Int),vi (0:Int),vi (0:Int),vi (0:Int),vi (0:Int),vi (0:Int),vi (0:Int),vi (0:Int),vi (0:Int),vi (0:Int),vi (0:Int),vi (0:Int),vi (0:Int),vi (0:Int),vi (0:Int),vi (0:Int),vi (0:Int),vi (0:Int),vi (0:Int),vi (0:Int),vi (0:Int),vi (0:Int),vi (0:Int),vi (0:Int),vi (0:Int),vi (0:Int),vi (0:Int),vi (0:Int),vi (0:Int),vi (0:Int),vi (0:Int),vi (0:Int),vi (0:Int),vi (0:Int),vi (0:Int),vi (0:Int),vi (0:Int),vi (0:Int),vi (0:Int),vi (0:Int),vi (0:Int),vi (0:Int),vi (0:Int),vi (0:Int),vi (0:Int),vi (0:Int),vi (0:Int),vi (0:Int),vi (0:Int),vi (0:Int),vi (0:Int),vi (0:Int),vi (0:Int),vi (0:Int),vi (0:Int),vi (0:Int),vi (0:Int),vi (0:Int),vi (0:Int),vi (0:Int),vi (0:Int),vi (0:Int),vi (0:Int),vi (0:Int),vi (0:Int),vi (0:Int),vi (0:Int),vi (0:Int),vi (0:Int),vi (0:Int),vi (0:Int),vi (0:Int),vi (0:Int),vi (0:Int),vi (0:Int)]) none]
noncomputable def twV1 (l:List Int) := (List.take l.length (List.drop 0 (intsOf (List.map (Value.int IntKind.i64) l))))
noncomputable def twV2 (l:List Int) := (List.map (Value.int IntKind.i64) l)
noncomputable def twV3  : Array Value := { toList := [ptr0 1,vi (0 : Int)] }
noncomputable def twV4 (l:List Int) (c:Nat) (zl:List Int):List AObj := [AObj.ro (twV2 l),AObj.rw (Value.slice (some (ad0 0)) l.length c::List.map (Value.int IntKind.i64) zl) none]
noncomputable def twV :=
fun (l:List Int) (c:Nat)↦Ob ((List.take l.length (List.drop 0 (twV2 l))=List.map (Value.int IntKind.i64) (twV1 l)∧0+l.length≤(twV2 l).length∧true=true)∧(twV1 l).length≤1000000)∧((errC (twV1 l) !=(0:Int))=true→True∧Ob ((errC l=(0:Int)∧∃ (zl:List Int),isZ zl∧Value.tuple ⟨[Value.pointer none,vi (errC (twV1 l))]⟩=Value.tuple twV3∧[AObj.ro (twV2 l)]=(twV4 l c zl))∨errC l≠(0:Int)∧Value.tuple ⟨[Value.pointer none,vi (errC (twV1 l))]⟩=Value.tuple ⟨[Value.pointer none,vi (errC l)]⟩∧[AObj.ro (twV2 l)]=[AObj.ro (twV2 l)]))∧((errC (twV1 l) !=(0:Int))=false→True∧Ob ((errC l=(0:Int)∧∃ (zl:List Int),isZ zl∧Value.tuple twV3=Value.tuple twV3∧(twV0 l c)=(twV4 l c zl))∨errC l≠(0:Int)∧Value.tuple twV3=Value.tuple ⟨[Value.pointer none,vi (errC l)]⟩∧(twV0 l c)=[AObj.ro (twV2 l)]))
noncomputable def twN0  : Array Value := { toList := [Value.pointer none,vi (6 : Int)] }
noncomputable def twN :=
fun (x:Unit)↦Ob True∧(true=true→True∧Ob (Value.tuple twN0=Value.tuple twN0))∧(true=false→True∧Ob (Value.tuple ⟨[ptr0 0,vi (0:Int)]⟩=Value.tuple twN0))
theorem twN_eq : twN = fun (_ : Unit) => vc Try.prog twE 0 14 true (fun _ => none) twB [] (argFr 0 [.slice none 0 0]) [] (retK Try.prog Try.f60 (fun v H => v = .tuple #[.pointer none,vi 6])) := by kernel_rfl
noncomputable def twH0  : Array Value := { toList := [Value.pointer none,vi (6 : Int)] }
noncomputable def twH :=
fun (s:Option Nat) (c:Nat)↦Ob True∧(true=true→True∧Ob (Value.tuple twH0=Value.tuple twH0))∧(true=false→True∧Ob (Value.tuple ⟨[ptr0 1,vi (0:Int)]⟩=Value.tuple twH0))
theorem twH_eq : twH = fun (s : Option Nat) (c : Nat) => vc Try.prog twE 1 14 true (fun _ => none) twB [] (argFr 0 [.slice (some ⟨0,0,s⟩) 0 c]) [.gone] (retK Try.prog Try.f60 (fun v H => v = .tuple #[.pointer none,vi 6])) := by kernel_rfl
theorem twV_ok (l : List Int) (c : Nat) (hl : l.length≤1000000) : twV l c := by
 unfold twV twV4 twV3 twV2 twV1 twV0
 simp only [SS,reduceCtorEq,Arg.list,Arg.num,Arg.flag,intOf,andP,Nat.reduceLeDiff,Nat.reduceAdd,Nat.reduceMul,Nat.reduceLT]
 exact ⟨by omega,fun h => h,fun h => ⟨h,zer,rfl,by kernel_rfl⟩⟩
theorem twE_ok : VOk Try.prog twE := VOk.ofCt (CtOk.none.add ciG_ok)
theorem tw_call (l : List Int) (c : Nat) (hl : l.length≤1000000) : Call Try.prog 60 [.slice (some ⟨0,0,none⟩) l.length c] [ros l] fun v H => (errC l = 0∧∃ zl,isZ zl∧v = .tuple #[ptr0 1,vi 0]∧H = [ros l,tillO l.length c zl])∨(errC l ≠ 0∧v = .tuple #[.pointer none,vi (errC l)]∧H = [ros l]) :=
 Call.ofVc (E := twE) (H := [ros l]) twE_ok mixed (c := twB) (inv := fun _ => none) Try.func60 (by kernel_rfl) (cast (by kernel_rfl) (twV_ok l c hl))
def twCc (l : List Int) (c : Nat) : Cc := fun f args H => match Nat.beq f 60 with
 | true => match args with
   | [.slice (some ⟨0,0,none⟩) n d] => some fun Q => Ob (H[0]? = some (ros l)∧n = l.length∧d = c∧l.length≤1000000)∧(Ob (errC l ≠ 0)→Q (.tuple #[.pointer none,vi (errC l)]) H)∧(Ob (errC l = 0)→∀ zl,Ob (isZ zl)→Q (.tuple #[ptr0 H.length,vi 0]) (H ++ [tillO l.length c zl]))
   | _ => none
 | false => none
theorem twCc_ok {l : List Int} {c : Nat} : CcOk Try.prog (twCc l c) := fun f args H T h Q hT => by
 unfold twCc at h
 split at h <;> try (cases h; done)
 rename_i hf
 obtain rfl := Nat.eq_of_beq_eq_true hf
 split at h <;> cases h
 rename_i n d
 obtain ⟨h01,h2,h3⟩ := hT
 obtain ⟨h0,rfl,rfl,hl⟩ := h01.out
 have hlt : 0 < H.length := (List.getElem?_eq_some_iff.1 h0).1
 have e0 : nameL [0] 1 H.length 0 = 0 := by simp [nameL]
 have e1 : nameL [0] 1 H.length 1 = H.length := by simp [nameL]
 by_cases he : errC l = 0
 · have hcall : Call Try.prog 60 [.slice (some ⟨0,0,none⟩) l.length d] [ros l] fun v H' => v = .tuple #[ptr0 1, vi 0] ∧ H' = [ros l] ++ [tillO l.length d zer] := (tw_call l d hl).mono fun v H' hh => by
     rcases hh with ⟨_,zl,rfl,hv,hH⟩ | ⟨hn,_⟩
     · exact ⟨hv,hH⟩
     · exact absurd he hn
   have := Call.frameG (P := Try.prog) (f := 60) (Et := [ros l]) (Ft := [ros l]) (N := [tillO l.length d zer]) (H := H) (L := [0]) (args := [.slice (some ⟨0,0,none⟩) l.length d]) (vs := [.slice (some ⟨0,0,none⟩) l.length d]) (v := .tuple #[ptr0 1,vi 0]) rfl rfl (by simp) (fun x hx => by simp at hx; omega)
     (fun c o h => ?_) (fun o ho => by rw [List.mem_singleton.1 ho]; exact ros_sc) rfl (by simp [sc,sc2,sc1,sc0]) hcall (fun o ho => ?_) (fun o ho => by rw [List.mem_singleton.1 ho]; rfl) (by simp [nm,nm2,nm1,nm0]) (fun o ho => ?_) (by simp [nmap,nmap2,nmap1,nmap0,am,e1,sc,sc2,sc1,sc0])
   · obtain ⟨t1,_⟩ := this
     refine t1.mono fun v H' hh => ?_
     obtain ⟨rfl,rfl⟩ := hh
     have hv : nmap (nameL [0] ([ros l] : Heap).length H.length) (.tuple #[ptr0 1,vi 0]) = .tuple #[ptr0 H.length,vi 0] := by
       show nmap (nameL [0] 1 H.length) _ = _
       simp [nmap,nmap2,nmap1,nmap0,am,e1]
     have hn : ([tillO l.length d zer] : Heap).map (omap (nameL [0] ([ros l] : Heap).length H.length)) = [tillO l.length d zer] := by
       show [omap (nameL [0] 1 H.length) _] = _
       rw [til_omap e0]
     rw [hv,hn]
     exact h3 ⟨he⟩ zer ⟨rfl⟩
   · rcases c with _ | c
     · cases h; exact .inr (by rw [ros_omap]; exact h0)
     · simp at h
   · rcases List.mem_append.1 ho with ho | ho
     · rw [List.mem_singleton.1 ho]; exact ros_nm
     · rw [List.mem_singleton.1 ho]; exact til_nm rfl
   · rcases List.mem_append.1 ho with ho | ho
     · rw [List.mem_singleton.1 ho,ros_omap]; exact ros_sc
     · rw [List.mem_singleton.1 ho]
       show (omap (nameL [0] 1 H.length) _).sc _ = true
       rw [til_omap e0]
       exact til_sc
 · have hcall : Call Try.prog 60 [.slice (some ⟨0,0,none⟩) l.length d] [ros l] fun v H' => v = .tuple #[.pointer none, vi (errC l)] ∧ H' = [ros l] := (tw_call l d hl).mono fun v H' hh => by
     rcases hh with ⟨hn,_⟩ | ⟨_,hv,hH⟩
     · exact absurd hn he
     · exact ⟨hv,hH⟩
   have hvc : sc 0 (.tuple #[.pointer none,vi (errC l)]) = true := by simp [sc,sc2,sc1,sc0]
   have := Call.frameP (P := Try.prog) (f := 60) (Et := [ros l]) (H := H) (L := [0]) (args := [.slice (some ⟨0,0,none⟩) l.length d]) (vs := [.slice (some ⟨0,0,none⟩) l.length d]) (v := .tuple #[.pointer none,vi (errC l)]) rfl (by simp) (fun x hx => by simp at hx; omega)
     (fun c o h => ?_) (fun o ho => by rw [List.mem_singleton.1 ho]; exact ros_sc) (fun c o h _ => ?_) (fun o ho => by rw [List.mem_singleton.1 ho]; exact ros_sc) rfl (by simp [sc,sc2,sc1,sc0]) hcall (fun o ho => by rw [List.mem_singleton.1 ho]; exact ros_nm) (nm_closed hvc) (by rw [nmap_closed hvc]; exact sc_mono (Nat.zero_le _) hvc)
   · rw [nmap_closed hvc] at this
     refine this.mono fun v H' hh => ?_
     obtain ⟨rfl,rfl⟩ := hh
     exact h2 ⟨he⟩
   · rcases c with _ | c
     · cases h; exact .inr (by rw [ros_omap]; exact h0)
     · simp at h
   · rcases c with _ | c
     · cases h; exact ⟨by rw [ros_omap,ros_omap],by rw [ros_omap]; exact ros_sc⟩
     · simp at h
theorem twN_ok (u : Unit) : twN u := by
 unfold twN twN0
 simp only [SS,reduceCtorEq,Arg.list,Arg.num,Arg.flag,intOf,andP,Nat.reduceLeDiff,Nat.reduceAdd,Nat.reduceMul,Nat.reduceLT]
theorem twH_ok (s : Option Nat) (c : Nat) : twH s c := by
 unfold twH twH0
 simp only [SS,reduceCtorEq,Arg.list,Arg.num,Arg.flag,intOf,andP,Nat.reduceLeDiff,Nat.reduceAdd,Nat.reduceMul,Nat.reduceLT]
def tnS (r : List Arg) : Prop × Value := match r with
 | [.ints _ _] => (False,undef)
 | [_] => (True,.tuple #[.pointer none,vi 6])
 | _ => (False,undef)
theorem tnG_ok : ∀ args H φ v H' l,pureG [.ints .i64] tnS args H = some (φ,v,H',l)→Asks φ→Call Try.prog 60 args H (fun v' H2 => v' = v∧H2 = H')∧Kept H H' l :=
 pureG_ok fun r hk hs => match r,hk with
   | [_],⟨hl,_⟩ => by
     rcases hl with rfl | ⟨s,rfl⟩ | ⟨l,rfl⟩
     · exact ⟨by simp [tnS,sc,sc2,sc1,sc0],fun caps => Call.ofVc twE_ok mixed (c := twB) (inv := fun _ => none) Try.func60 (by kernel_rfl) (cast (congrFun twN_eq ()) (twN_ok ()))⟩
     · exact ⟨by simp [tnS,sc,sc2,sc1,sc0],fun caps => Call.ofVc twE_ok mixed (c := twB) (inv := fun _ => none) Try.func60 (by kernel_rfl) (cast (congrFun (congrFun twH_eq s) (caps 0)) (twH_ok s _))⟩
     · exact hs.elim
end Go.Pier.Fl
namespace Go.Pier.Fl
open Go Go.Pier Go.Proofs
noncomputable def clB : Code := Try.f96.body.getD .skip
noncomputable def clV0 (l:List Int) := (List.map (Value.int IntKind.i64) l)
noncomputable def clV1 (l:List Int):Prop := (AObj.ro (clV0 l)=AObj.ro (List.map (nmap1 (nsub 1 2)) (clV0 l))∧AObj.sc 2 (AObj.ro (clV0 l))=true)
noncomputable def clV :=
fun (l:List Int) (c:Nat)↦(false=true→(Ob (clV1 l)∧False)∧Ob (Value.slice none 0 0=Value.slice (some ⟨2,0,some 0⟩) l.length 0)∧True)∧(false=false→Ob (andP (some (0+l.length * 1≤(clV0 l).length∧true=true)) (0+l.length≤1099511627776∧(2 * (0+l.length)+256) * 8≤281474976710656∧(List.take (l.length * 1) (List.drop 0 (clV0 l))).length=l.length * 1∧0<0+l.length∧0+0≤0))∧(Ob (clV1 l)∧Ob (AObj.rw ([]++List.take (l.length * 1) (List.drop 0 (clV0 l))) (some 1)=AObj.rw (List.map (nmap1 (nsub 1 2)) (clV0 l)) (some 1)∧AObj.sc 2 (AObj.rw (clV0 l) (some 1))=true)∧True)∧Ob (Value.slice (some ⟨2,0,some 0⟩) (0+l.length) 0=Value.slice (some ⟨2,0,some 0⟩) l.length 0)∧True)
noncomputable def liB : Code := Try.f74.body.getD .skip
def clS (r : List Arg) : Option (Prop × Back) := match r with
 | [.ints _ l] => some (0 < l.length∧l.length≤100000,.list l)
 | _ => none
noncomputable def liE : VEnv := { ct := Ct.none.add 96 (newG [.ints .i64] clS),orc := orcSh Try.prog }
noncomputable def liV0 (l:List Int) (f:Nat→Int) := (List.take (l.length:Int).toNat [intOf (vi (f 0)),intOf (vi (f 1)),intOf (vi (f 2)),intOf (vi (f 3)),intOf (vi (f 4))])
noncomputable def liV1 (l:List Int) (f:Nat→Int) := (List.take l.length [f 0,f 1,f 2,f 3,f 4])
noncomputable def liV2  := (Value.int IntKind.i64)
noncomputable def liV :=
fun (l:List Int) (c:Nat) (f:Nat→Int)↦Ob ((0:Int)≤(l.length:Int)∧(l.length:Int)≤(↑(5:Nat):Int))∧Ob ((List.take (l.length:Int).toNat [vi (f 0),vi (f 1),vi (f 2),vi (f 3),vi (f 4)]=List.map liV2 (liV0 l f)∧0+(l.length:Int).toNat≤5∧true=true)∧0<(liV0 l f).length∧(liV0 l f).length≤100000)∧(Ob (AObj.ro (List.map liV2 l)=AObj.ro (List.map (nmap1 (nsub 1 3)) (List.map liV2 l))∧AObj.sc 2 (AObj.ro (List.map liV2 l))=true)∧Ob (AObj.rw (List.map liV2 (liV0 l f)) (some 1)=AObj.rw (List.map (nmap1 (nsub 1 3)) (List.map liV2 (liV1 l f))) (some 1)∧AObj.sc 2 (AObj.rw (List.map liV2 (liV1 l f)) (some 1))=true)∧True)∧Ob (Value.slice (some ⟨3,0,some 0⟩) (liV0 l f).length 0=Value.slice (some ⟨3,0,some 0⟩) (liV1 l f).length 0)∧True
theorem clV_ok (l : List Int) (c : Nat) (h0 : 0 < l.length) (hl : l.length≤100000) : clV l c := by
 unfold clV clV1 clV0
 simp only [SS,reduceCtorEq,Arg.list,Arg.num,Arg.flag,intOf,andP,Nat.reduceLeDiff,Nat.reduceAdd,Nat.reduceMul,Nat.reduceLT,andP_iff,Asks]
 exact ⟨⟨by omega,by omega,h0⟩,rfl⟩
theorem tk_len {n : Nat} {f : Nat→Int} (h : n≤5) : (List.take n [f 0,f 1,f 2,f 3,f 4]).length = n := by simp; omega
theorem liV_ok (l : List Int) (c : Nat) (f : Nat→Int) (h0 : 0 < l.length) (hl : l.length≤5) : liV l c f := by
 unfold liV liV2 liV1 liV0
 simp only [SS,reduceCtorEq,Arg.list,Arg.num,Arg.flag,intOf,andP,Nat.reduceLeDiff,Nat.reduceAdd,Nat.reduceMul,Nat.reduceLT,L5_of]
 rw [tk_len hl]
 exact ⟨⟨by omega,by omega⟩,⟨rfl,hl⟩,h0,by omega⟩
theorem cl_call (l : List Int) (c : Nat) (h0 : 0 < l.length) (hl : l.length≤100000) : Call Try.prog 96 [.slice (some ⟨0,0,none⟩) l.length c] [ros l] fun v H' => v = newSlice 1 l.length∧H' = [ros l,.rw (l.map (.int .i64)) (some 1)] :=
 Call.ofVcR (E := {}) (H := [ros l]) (args := [.slice (some ⟨0,0,none⟩) l.length c]) (σ := nsub 1 2) (v2 := newSlice 1 l.length) (H2 := [ros l,.rw (l.map (.int .i64)) (some 1)]) E0_ok mixed (c := clB) (inv := fun _ => none) Try.func96 (by kernel_rfl) (cast (by kernel_rfl) (clV_ok l c h0 hl))
theorem clG_ok : ∀ args H φ v H' l,newG [.ints .i64] clS args H = some (φ,v,H',l)→Asks φ→Call Try.prog 96 args H (fun v' H2 => v' = v∧H2 = H')∧Kept H H' l :=
 newG_ok fun r ψ b hk hs hψ => match r,hk with
   | [_],⟨hl,_⟩ => by
     rcases hl with rfl | ⟨s,rfl⟩ | ⟨l,rfl⟩
     · cases hs
     · cases hs
     · cases hs
       exact ⟨rfl,fun caps => cl_call l _ hψ.1 hψ.2⟩
theorem liE_ok : VOk Try.prog liE := ⟨CtOk.none.add clG_ok,E0_ok.cc,E0_ok.yc,orcSh_ok⟩
theorem li_call (l : List Int) (c : Nat) (f : Nat→Int) (h0 : 0 < l.length) (hl : l.length≤5) : Call Try.prog 74 [.agg #[.slice (some ⟨0,0,none⟩) l.length c],C5 f] [ros l] fun v H' => v = newSlice 1 (List.take l.length (L5 f)).length∧H' = [ros l] ++ [.rw ((List.take l.length (L5 f)).map (.int .i64)) (some 1)] :=
 Call.ofVcR (E := liE) (H := [ros l]) (args := [.agg #[.slice (some ⟨0,0,none⟩) l.length c],C5 f]) (σ := nsub 1 3) (v2 := newSlice 1 (List.take l.length (L5 f)).length) (H2 := [ros l,.rw ((List.take l.length (L5 f)).map (.int .i64)) (some 1)]) liE_ok mixed (c := liB) (inv := fun _ => none) Try.func74 (by kernel_rfl) (cast (by kernel_rfl) (liV_ok l c f h0 hl))
def okC : Leaf→Prop
 | .view cs n _ => cs = (intsOf cs).map (.int .i64)∧cs.length = n∧0 < n∧n≤5
 | _ => False
def liS : List Arg3→Option Born
 | [.agg [.view cs n r],.agg [.plain (.int .i64 a0),.plain (.int .i64 a1),.plain (.int .i64 a2),.plain (.int .i64 a3),.plain (.int .i64 a4)]] =>
   some ⟨okC (.view cs n r),fun b => newSlice b n,[.rw ((List.take n (L5 (l5 a0 a1 a2 a3 a4))).map (.int .i64)) (some 1)]⟩
 | _ => none
theorem liG_ok : ∀ args H φ v H' l,born3 [.agg [.rows [.i .i64] false],ps5] liS args H = some (φ,v,H',l)→Asks φ→Call Try.prog 74 args H (fun v' H2 => v' = v∧H2 = H')∧Kept H H' l :=
 born3_ok fun r s hk hs hψ => match r,hk with
   | [.agg [x],.agg [_,_,_,_,_]],⟨⟨hx,_⟩,⟨⟨a0,h0⟩,⟨a1,h1⟩,⟨a2,h2⟩,⟨a3,h3⟩,⟨a4,h4⟩,_⟩,_⟩ => by
     subst h0; subst h1; subst h2; subst h3; subst h4
     rcases hx with rfl | ⟨s,rfl⟩ | ⟨cs,n,rfl⟩
     · cases hs
     · cases hs
     · cases hs
       obtain ⟨k1,k2,k3,k4⟩ := hψ
       have kl : (intsOf cs).length = n := by rw [intsOf,List.length_map]; exact k2
       refine ⟨⟨plainNew_ints,fun ρ b ρ' c h => newSlice_alike h,fun n => sc_of_sc2 (newSlice_sc (by simp))⟩,fun caps hcaps => ?_⟩
       have h := li_call (intsOf cs) (caps 0) (l5 a0 a1 a2 a3 a4) (by omega) (by omega)
       have ke : AObj.ro cs = ros (intsOf cs) := by show AObj.ro cs = .ro ((intsOf cs).map (.int .i64)); rw [← k1]
       rw [kl] at h
       have ht : (List.take n (L5 (l5 a0 a1 a2 a3 a4))).length = n := tk_len k4
       rw [ht] at h
       have e : canonH3 [Arg3.agg [Leaf.view cs n false],Arg3.agg [Leaf.plain (vi a0),Leaf.plain (vi a1),Leaf.plain (vi a2),Leaf.plain (vi a3),Leaf.plain (vi a4)]] = [ros (intsOf cs)] := by
         show [AObj.ro cs] = _
         rw [ke]
       rw [e]
       exact h
end Go.Pier.Fl
namespace Go.Pier.Fl
open Go Go.Pier Go.Proofs
def errA (l : List Int) (a : Int) : Int := if errC l ≠ 0 then errC l else if 0≤a∧a≤300 then 0 else 3
def errN (l : List Int) (a : Int) : Int := if errA l a ≠ 0 then errA l a else bif canB l a.toNat then 0 else 5
def fewF (l : List Int) (a : Int) : Int := if errN l a = 0 then m5 (bF l a.toNat) else 0
noncomputable def tiE (l : List Int) (c : Nat) : VEnv := { ct := (Ct.none.add 61 (pureG [.int .i64,.int .i64,.ints .i64] wiS)).add 60 (pureG [.ints .i64] tnS),cc := twCc l c }
noncomputable def tjE : VEnv := { ct := (Ct.none.add 61 (pureG [.int .i64,.int .i64,.ints .i64] wiS)).add 60 (pureG [.ints .i64] tnS) }
noncomputable def fwT : Ct := (Ct.none.add 68 (pure3 [ps5,.one (.int .i64)] acS)).add 64 (pure3 [ps5] maS)
noncomputable def fwE (l : List Int) (c : Nat) : VEnv := { ct := fwT.add 67 (cgCt l c),cc := ccIn Try.prog (tiE l c) [⟨66,Try.f66,fun _ _ _ => none⟩] }
noncomputable def fnE : VEnv := { cc := ccIn Try.prog tjE [⟨66,Try.f66,fun _ _ _ => none⟩] }
noncomputable def fwB : Code := Try.f24.body.getD .skip
noncomputable def fwV0 (l:List Int) (a:Int) := (l5 (bF l a.toNat 0) (bF l a.toNat 1) (bF l a.toNat 2) (bF l a.toNat 3) (bF l a.toNat 4))
noncomputable def fwV1 (l:List Int) (a:Int):Array Value := ⟨[vi (fewF l a),vi (errN l a)]⟩
noncomputable def fwV2 (a:Int) := (!wiF (Arg.plain (vi (0:Int))).num (Arg.plain (vi (300:Int))).num [intOf (vi a)])
noncomputable def fwV3 (a:Int):Prop := (([vi a]=[vi (intOf (vi a))]∧0+1≤1∧true=true)∧1≤1000000)
noncomputable def fwV4 (l:List Int) (a:Int) := (!(a==(0:Int) || !same5 (fwV0 l a) z5))
noncomputable def fwV5  := (Value.int IntKind.i64)
noncomputable def fwV :=
fun (l:List Int) (c:Nat) (a:Int)↦Ob (some (AObj.ro (List.map fwV5 l))=some (AObj.ro (List.map fwV5 l))∧l.length=l.length∧c=c∧l.length≤1000000)∧(Ob (errC l≠(0:Int))→((errC l==(0:Int))=true→Ob (fwV3 a)∧((fwV2 a)=true→(true=true→True∧Ob (Value.tuple ⟨[vi (0:Int),vi (3:Int)]⟩=Value.tuple (fwV1 l a)))∧(true=false→False))∧((fwV2 a)=false→((errC l !=(0:Int))=true→True∧Ob (Value.tuple ⟨[vi (0:Int),vi (errC l)]⟩=Value.tuple (fwV1 l a)))∧((errC l !=(0:Int))=false→False)))∧((errC l==(0:Int))=false→((errC l !=(0:Int))=true→True∧Ob (Value.tuple ⟨[vi (0:Int),vi (errC l)]⟩=Value.tuple (fwV1 l a)))∧((errC l !=(0:Int))=false→False)))∧(Ob (errC l=(0:Int))→∀ (zl:List Int),Ob (isZ zl)→(true=true→Ob (fwV3 a)∧((fwV2 a)=true→(true=true→True∧Ob (Value.tuple ⟨[vi (0:Int),vi (3:Int)]⟩=Value.tuple (fwV1 l a)))∧(true=false→False))∧((fwV2 a)=false→(false=true→True∧Ob (Value.tuple ⟨[vi (0:Int),vi (0:Int)]⟩=Value.tuple (fwV1 l a)))∧(false=false→Ob (AtZ l c [AObj.ro (List.map fwV5 l),AObj.rw (Value.slice (some (ad0 0)) l.length c::List.map fwV5 zl) none,AObj.rw [vi a] none]∧Coins l∧(0:Int)≤a∧a≤(5000:Int))∧Ob (0+5≤5)∧Ob True∧((fwV4 l a)=true→True∧Ob (Value.tuple ⟨[vi (0:Int),vi (5:Int)]⟩=Value.tuple (fwV1 l a)))∧((fwV4 l a)=false→Ob (smallP (fwV0 l a))∧True∧Ob (Value.tuple ⟨[vi (m5 (fwV0 l a)),vi (0:Int)]⟩=Value.tuple (fwV1 l a))))))∧(true=false→(false=true→True∧Ob (Value.tuple ⟨[vi (0:Int),vi (0:Int)]⟩=Value.tuple (fwV1 l a)))∧(false=false→Ob (AtZ l c [AObj.ro (List.map fwV5 l),AObj.rw (Value.slice (some (ad0 0)) l.length c::List.map fwV5 zl) none]∧Coins l∧(0:Int)≤a∧a≤(5000:Int))∧Ob (0+5≤5)∧Ob True∧((fwV4 l a)=true→True∧Ob (Value.tuple ⟨[vi (0:Int),vi (5:Int)]⟩=Value.tuple (fwV1 l a)))∧((fwV4 l a)=false→Ob (smallP (fwV0 l a))∧True∧Ob (Value.tuple ⟨[vi (m5 (fwV0 l a)),vi (0:Int)]⟩=Value.tuple (fwV1 l a))))))
theorem fwV_eq : fwV = fun (l : List Int) (c : Nat) (a : Int) => vc Try.prog (fwE l c) 1 27 true (fun _ => none) fwB [] (argFr 0 [.slice (some ⟨0,0,none⟩) l.length c,vi a]) [ros l] (retK Try.prog Try.f24 (fun v H => v = .tuple #[vi (fewF l a),vi (errN l a)])) := by kernel_rfl
noncomputable def fwN0  : Array Value := { toList := [vi (0 : Int),vi (6 : Int)] }
noncomputable def fwN1 (a:Int) := (!wiF (Arg.plain (vi (0:Int))).num (Arg.plain (vi (300:Int))).num [intOf (vi a)])
noncomputable def fwN :=
fun (a:Int)↦Ob True∧(false=true→Ob (([vi a]=[vi (intOf (vi a))]∧1≤1∧true=true)∧1≤1000000)∧((fwN1 a)=true→(true=true→True∧Ob (Value.tuple ⟨[vi (0:Int),vi (3:Int)]⟩=Value.tuple fwN0))∧(true=false→False))∧((fwN1 a)=false→(true=true→True∧Ob (Value.tuple fwN0=Value.tuple fwN0))∧(true=false→False)))∧(false=false→(true=true→True∧Ob (Value.tuple fwN0=Value.tuple fwN0))∧(true=false→False))
theorem fwN_eq : fwN = fun (a : Int) => vc Try.prog fnE 0 27 true (fun _ => none) fwB [] (argFr 0 [.slice none 0 0,vi a]) [] (retK Try.prog Try.f24 (fun v H => v = .tuple #[vi 0,vi 6])) := by kernel_rfl
noncomputable def fwH0  : Array Value := { toList := [vi (0 : Int),vi (6 : Int)] }
noncomputable def fwH1 (a:Int) := (!wiF (Arg.plain (vi (0:Int))).num (Arg.plain (vi (300:Int))).num [intOf (vi a)])
noncomputable def fwH :=
fun (s:Option Nat) (c:Nat) (a:Int)↦Ob True∧(false=true→Ob (([vi a]=[vi (intOf (vi a))]∧1≤1∧true=true)∧1≤1000000)∧((fwH1 a)=true→(true=true→True∧Ob (Value.tuple ⟨[vi (0:Int),vi (3:Int)]⟩=Value.tuple fwH0))∧(true=false→False))∧((fwH1 a)=false→(true=true→True∧Ob (Value.tuple fwH0=Value.tuple fwH0))∧(true=false→False)))∧(false=false→(true=true→True∧Ob (Value.tuple fwH0=Value.tuple fwH0))∧(true=false→False))
theorem fwH_eq : fwH = fun (s : Option Nat) (c : Nat) (a : Int) => vc Try.prog fnE 1 27 true (fun _ => none) fwB [] (argFr 0 [.slice (some ⟨0,0,s⟩) 0 c,vi a]) [.gone] (retK Try.prog Try.f24 (fun v H => v = .tuple #[vi 0,vi 6])) := by kernel_rfl
theorem errA_0 {l : List Int} {a : Int} : errA l a = 0 ↔ errC l = 0∧0≤a∧a≤300 := by
 unfold errA
 split
 · rename_i h; constructor
   · intro h2; exact absurd h2 h
   · intro h2; exact absurd h2.1 h
 · split
   · rename_i h; constructor
     · intro _; omega
     · intro _; rfl
   · constructor
     · intro h; cases h
     · intro h; omega
theorem errA_c {l : List Int} {a : Int} (h : errC l ≠ 0) : errA l a = errC l := by rw [errA,if_pos h]
theorem errA_3 {l : List Int} {a : Int} (h : errC l = 0) (h2 : ¬ (0≤a∧a≤300)) : errA l a = 3 := by rw [errA,if_neg (by omega),if_neg h2]
theorem errN_a {l : List Int} {a : Int} (h : errA l a ≠ 0) : errN l a = errA l a := by rw [errN,if_pos h]
theorem errN_5 {l : List Int} {a : Int} (h : errA l a = 0) (h2 : canB l a.toNat = false) : errN l a = 5 := by rw [errN,if_neg (by omega),h2]; rfl
theorem errN_0 {l : List Int} {a : Int} (h : errA l a = 0) (h2 : canB l a.toNat = true) : errN l a = 0 := by rw [errN,if_neg (by omega),h2]; rfl
theorem fewF_no {l : List Int} {a : Int} (h : errN l a ≠ 0) : fewF l a = 0 := by rw [fewF,if_neg h]
theorem fewF_ok {l : List Int} {a : Int} (h : errN l a = 0) : fewF l a = m5 (bF l a.toNat) := by rw [fewF,if_pos h]
theorem can_ofI {l : List Int} {a : Int} (h0 : 0≤a) {b : Bool} (h : (a == 0 || !same5 (l5 (bF l a.toNat 0) (bF l a.toNat 1) (bF l a.toNat 2) (bF l a.toNat 3) (bF l a.toNat 4)) z5) = b) : canB l a.toNat = b := by
 obtain ⟨n,rfl⟩ := Int.eq_ofNat_of_zero_le h0
 exact h
theorem wi_300 {a : Int} {b : Bool} (h : wiF 0 300 [a] = b) : (b = true→0≤a∧a≤300)∧(b = false→¬ (0≤a∧a≤300)) := by
 rw [wiF_one] at h
 subst h
 simp
theorem bF_small {l : List Int} (hc : Coins l) {a : Nat} (ha : a≤9999) : smallP (bF l a) := (bF_less hc ha).small
theorem at_z {l : List Int} {c : Nat} {zl : List Int} {r : Heap} : AtZ l c (AObj.ro (List.map (Value.int IntKind.i64) l) :: AObj.rw (Value.slice (some (ad0 0)) l.length c :: List.map (Value.int IntKind.i64) zl) none :: r) := ⟨zl,rfl,rfl⟩
theorem two_eq {x y x' y' : Int} (h1 : x = x') (h2 : y = y') : ({ toList := [vi x,vi y] } : Array Value) = { toList := [vi x',vi y'] } := by rw [h1,h2]
theorem few_no {l : List Int} {a e : Int} (h : errN l a = e) (he : e ≠ 0) : ({ toList := [vi 0,vi e] } : Array Value) = { toList := [vi (fewF l a),vi (errN l a)] } := two_eq (fewF_no (by rw [h]; exact he)).symm h.symm
theorem fwV_ok (l : List Int) (c : Nat) (a : Int) (hl : l.length≤1000000) : fwV l c a := by
 unfold fwV fwV5 fwV4 fwV3 fwV2 fwV1 fwV0
 simp only [SS,reduceCtorEq,Arg.list,Arg.num,Arg.flag,intOf,andP,Nat.reduceLeDiff,Nat.reduceAdd,Nat.reduceMul,Nat.reduceLT]
 refine ⟨hl,fun he => ⟨fun h => absurd h he,fun _ => ⟨fun _ => few_no (by rw [errN_a (by rw [errA_c he]; exact he),errA_c he]) he,fun h => he h⟩⟩,fun he zl hz => ⟨fun h => ?_,fun h => ?_⟩⟩
 · have h3 := errA_3 he ((wi_300 h).2 rfl)
   exact few_no (by rw [errN_a (by rw [h3]; decide),h3]) (by decide)
 · have hr := (wi_300 h).1 rfl
   have hc := errC_ok.1 he
   have h0 : errA l a = 0 := errA_0.2 ⟨he,hr⟩
   refine ⟨⟨at_z,hc,by omega,by omega⟩,fun h4 => few_no (errN_5 h0 (can_ofI hr.1 h4)) (by decide),fun h4 => ⟨bF_small hc (by omega),?_⟩⟩
   have h5 := errN_0 h0 (can_ofI hr.1 h4)
   exact two_eq (fewF_ok h5).symm h5.symm
theorem fwN_ok (a : Int) : fwN a := by
 unfold fwN fwN1 fwN0
 simp only [SS,reduceCtorEq,Arg.list,Arg.num,Arg.flag,intOf,andP,Nat.reduceLeDiff,Nat.reduceAdd,Nat.reduceMul,Nat.reduceLT]
theorem fwH_ok (s : Option Nat) (c : Nat) (a : Int) : fwH s c a := by
 unfold fwH fwH1 fwH0
 simp only [SS,reduceCtorEq,Arg.list,Arg.num,Arg.flag,intOf,andP,Nat.reduceLeDiff,Nat.reduceAdd,Nat.reduceMul,Nat.reduceLT]
theorem tiE_ok {l : List Int} {c : Nat} : VOk Try.prog (tiE l c) := ⟨(CtOk.none.add wiG_ok).add tnG_ok,twCc_ok,E0_ok.yc,E0_ok.orc⟩
theorem tjE_ok : VOk Try.prog tjE := VOk.ofCt ((CtOk.none.add wiG_ok).add tnG_ok)
theorem fwT_ok : CtOk Try.prog fwT := (CtOk.none.add acG_ok).add maG_ok
theorem fwE_ok {l : List Int} {c : Nat} : VOk Try.prog (fwE l c) := ⟨fwT_ok.add cgCt_ok,ccIn_ok tiE_ok mixed (inl_one Try.func66),E0_ok.yc,E0_ok.orc⟩
theorem fnE_ok : VOk Try.prog fnE := ⟨CtOk.none,ccIn_ok tjE_ok mixed (inl_one Try.func66),E0_ok.yc,E0_ok.orc⟩
def fwS (r : List Arg) : Prop × Value := match r with
 | [.ints _ l,.plain (.int .i64 a)] => (l.length≤1000000,.tuple #[vi (fewF l a),vi (errN l a)])
 | [_,.plain (.int .i64 _)] => (True,.tuple #[vi 0,vi 6])
 | _ => (False,undef)
theorem fwG_ok : ∀ args H φ v H' l,pureG [.ints .i64,.int .i64] fwS args H = some (φ,v,H',l)→Asks φ→Call Try.prog 24 args H (fun v' H2 => v' = v∧H2 = H')∧Kept H H' l :=
 pureG_ok fun r hk hs => match r,hk with
   | [_,_],⟨hl,⟨a,ha⟩,_⟩ => by
     subst ha
     rcases hl with rfl | ⟨s,rfl⟩ | ⟨l,rfl⟩
     · exact ⟨by simp [fwS,sc,sc2,sc1,sc0],fun caps => Call.ofVc fnE_ok mixed (c := fwB) (inv := fun _ => none) Try.func24 (by kernel_rfl) (cast (congrFun fwN_eq a) (fwN_ok a))⟩
     · exact ⟨by simp [fwS,sc,sc2,sc1,sc0],fun caps => Call.ofVc fnE_ok mixed (c := fwB) (inv := fun _ => none) Try.func24 (by kernel_rfl) (cast (congrFun (congrFun (congrFun fwH_eq s) (caps 0)) a) (fwH_ok s _ a))⟩
     · exact ⟨by simp [fwS,sc,sc2,sc1,sc0],fun caps => Call.ofVc fwE_ok mixed (c := fwB) (inv := fun _ => none) Try.func24 (by kernel_rfl) (cast (congrFun (congrFun (congrFun fwV_eq l) (caps 0)) a) (fwV_ok l _ a hs))⟩
end Go.Pier.Fl
namespace Go.Pier.Fl
open Go Go.Pier Go.Proofs
noncomputable def gy_c0 : Code := ((Code.region (3 : Nat) { toList := [{ dst := some (7 : Nat),op := Op.assign (Operand.tmp (15 : Nat)),type := (3 : Nat),pos := "change.go:59",after := { toList := [] },guard := none }] } false).seq (Code.region (4 : Nat) { toList := [{ dst := some (8 : Nat),op := Op.assign (Operand.tmp (16 : Nat)),type := (2 : Nat),pos := "change.go:59",after := { toList := [] },guard := none }] } false))
noncomputable def gy_c1 : Code := (Code.block (1 : Nat) ((Code.region (5 : Nat) { toList := [{ dst := some (17 : Nat),op := Op.move (Operand.tmp (7 : Nat)),type := (3 : Nat),pos := "change.go:60",after := { toList := [] },guard := none },{ dst := some (18 : Nat),op := Op.load (2 : Nat) (Operand.tmp (3 : Nat)),type := (2 : Nat),pos := "change.go:60",after := { toList := [] },guard := none },{ dst := some (19 : Nat),op := Op.move (Operand.tmp (8 : Nat)),type := (2 : Nat),pos := "change.go:60",after := { toList := [] },guard := none },{ dst := some (20 : Nat),op := Op.binOp BinOp.quo (2 : Nat) (Operand.tmp (18 : Nat)) (Operand.tmp (19 : Nat)) (2 : Nat),type := (2 : Nat),pos := "change.go:60",after := { toList := [{ on := (1 : Nat),ground := Ground.data },{ on := (2 : Nat),ground := Ground.data }] },guard := none },{ dst := some (21 : Nat),op := Op.indexAddr (71 : Nat) (Operand.tmp (6 : Nat)) (Operand.tmp (17 : Nat)),type := (0 : Nat),pos := "change.go:60",after := { toList := [{ on := (0 : Nat),ground := Ground.data },{ on := (0 : Nat),ground := Ground.phase },{ on := (1 : Nat),ground := Ground.phase },{ on := (2 : Nat),ground := Ground.phase },{ on := (3 : Nat),ground := Ground.phase }] },guard := none },{ dst := none,op := Op.store (2 : Nat) (Operand.tmp (21 : Nat)) (Operand.tmp (20 : Nat)),type := (0 : Nat),pos := "change.go:60",after := { toList := [{ on := (4 : Nat),ground := Ground.data },{ on := (3 : Nat),ground := Ground.data },{ on := (0 : Nat),ground := Ground.phase },{ on := (1 : Nat),ground := Ground.phase },{ on := (2 : Nat),ground := Ground.phase },{ on := (3 : Nat),ground := Ground.phase }] },guard := none }] } false).seq (Code.region (6 : Nat) { toList := [{ dst := some (22 : Nat),op := Op.load (2 : Nat) (Operand.tmp (3 : Nat)),type := (2 : Nat),pos := "change.go:61",after := { toList := [] },guard := none },{ dst := some (23 : Nat),op := Op.move (Operand.tmp (8 : Nat)),type := (2 : Nat),pos := "change.go:61",after := { toList := [] },guard := none },{ dst := some (24 : Nat),op := Op.binOp BinOp.rem (2 : Nat) (Operand.tmp (22 : Nat)) (Operand.tmp (23 : Nat)) (2 : Nat),type := (2 : Nat),pos := "change.go:61",after := { toList := [{ on := (0 : Nat),ground := Ground.data },{ on := (1 : Nat),ground := Ground.data }] },guard := none },{ dst := none,op := Op.store (2 : Nat) (Operand.tmp (3 : Nat)) (Operand.tmp (24 : Nat)),type := (0 : Nat),pos := "change.go:61",after := { toList := [{ on := (2 : Nat),ground := Ground.data },{ on := (0 : Nat),ground := Ground.phase },{ on := (1 : Nat),ground := Ground.phase },{ on := (2 : Nat),ground := Ground.phase }] },guard := none }] } false)))
def grF (l : List Int) (a : Int) : Nat→(Nat→Int) × Int
 | 0 => (z5,a)
 | d + 1 => (fun k => bif Nat.beq k (l.length - 1 - d) then (grF l a d).2.tdiv (l.getD (l.length - 1 - d) 0) else (grF l a d).1 k,(grF l a d).2.tmod (l.getD (l.length - 1 - d) 0))
noncomputable def gy0E : VEnv := { orc := orcI Try.prog }
noncomputable def gy1E : VEnv := { yc := ycIn Try.prog gy0E (fun _ => none) }
def gyI (l : List Int) (a : Int) : List Value→Heap→Nat→Option LInv := fun args H => match args with
 | [y, p1] => invOf 0 (LInv.one Nat (fun d => d ≤ l.length) (fun d => [(0, y), (1, p1), (3, vi ((l.length : Int) - 1 - d))])
     (fun d => (H.set 2 (.rw [vi (grF l a d).2] none)).set 4 (.rw (I5 (grF l a d).1 []) none)) (fun d => l.length - d))
 | _ => fun _ => none
noncomputable def gyE (l : List Int) (a : Int) : VEnv := { cc := ccOr (ccIn Try.prog {} [⟨95,Try.f95,fun _ _ _ => none⟩]) (ccIn Try.prog gy1E [⟨106,Try.f106,gyI l a⟩]) }
noncomputable def gyB : Code := Try.f73.body.getD .skip
noncomputable def gyV0 (l:List Int) (x:Nat) := (0+((l.length:Int)-(1:Int)-(x:Int)).toNat * 1)
noncomputable def gyV1 (l:List Int) (a:Int) (x:Nat):List Value := [vi (bif Nat.beq 0 (gyV0 l x) then IntKind.i64.wrap ((grF l a x).snd.tdiv (getI (List.map (Value.int IntKind.i64) l) (gyV0 l x))) else (grF l a x).fst 0),vi (bif Nat.beq 1 (gyV0 l x) then IntKind.i64.wrap ((grF l a x).snd.tdiv (getI (List.map (Value.int IntKind.i64) l) (gyV0 l x))) else (grF l a x).fst 1),vi (bif Nat.beq 2 (gyV0 l x) then IntKind.i64.wrap ((grF l a x).snd.tdiv (getI (List.map (Value.int IntKind.i64) l) (gyV0 l x))) else (grF l a x).fst 2),vi (bif Nat.beq 3 (gyV0 l x) then IntKind.i64.wrap ((grF l a x).snd.tdiv (getI (List.map (Value.int IntKind.i64) l) (gyV0 l x))) else (grF l a x).fst 3),vi (bif Nat.beq 4 (gyV0 l x) then IntKind.i64.wrap ((grF l a x).snd.tdiv (getI (List.map (Value.int IntKind.i64) l) (gyV0 l x))) else (grF l a x).fst 4)]
noncomputable def gyV2 (l:List Int) (c:Nat) (a:Int):Array Value := ⟨[ptr0 1,vi a,junk,ptr0 2,ptr0 3,vi (0:Int),ptr0 4,junk,junk,ptr0 1,ptr0 1,ptr0 1,ptr0 1,Value.slice (some (ad0 0)) l.length c,Value.func (Fn.func 106) ⟨[]⟩ ⟨[ptr0 5]⟩,junk,junk,junk,junk,junk,junk,junk,junk,junk,junk,junk,junk]⟩
noncomputable def gyV3 (l:List Int) (a:Int) (x:Nat) := (bif true then (grF l a x).snd.tmod (getI (List.map (Value.int IntKind.i64) l) (gyV0 l x)) else (grF l a x).snd)
noncomputable def gyV4 (l:List Int) (c:Nat) (zl:List Int) := (Value.slice (some (ad0 0)) l.length c::List.map (Value.int IntKind.i64) zl)
noncomputable def gyV5 (l:List Int) := (List.map (Value.int IntKind.i64) l)
noncomputable def gyV6  : List Value := [vi (0 : Int),vi (0 : Int),vi (0 : Int),vi (0 : Int),vi (0 : Int)]
noncomputable def gyV7 (l:List Int) (a:Int):Array Value := ⟨[Value.agg ⟨[vi ((grF l a l.length).fst 0),vi ((grF l a l.length).fst 1),vi ((grF l a l.length).fst 2),vi ((grF l a l.length).fst 3),vi ((grF l a l.length).fst 4)]⟩,vi (grF l a l.length).snd]⟩
noncomputable def gyV8 (l:List Int) (c:Nat) (a:Int):Prop := (AObj.loop LoopState.ready none (gyV2 l c a) ⟨[15,16]⟩ gy_c0 gy_c1=AObj.loop LoopState.ready none (gyV2 l c a) ⟨[15,16]⟩ gy_c0 gy_c1∧true=true)
noncomputable def gyV9  : Prop := (Value.func (Fn.yield (6 : Nat)) { toList := [] } { toList := [] } = Value.func (Fn.yield (6 : Nat)) { toList := [] } { toList := [] })
noncomputable def gyV10 (l:List Int) (a:Int) (y:Nat):List Value := [vi ((grF l a y).fst 0),vi ((grF l a y).fst 1),vi ((grF l a y).fst 2),vi ((grF l a y).fst 3),vi ((grF l a y).fst 4)]
noncomputable def gyV11 (l:List Int) (a:Int) (x:Nat):List Value := [vi ((grF l a x).fst 0),vi ((grF l a x).fst 1),vi ((grF l a x).fst 2),vi ((grF l a x).fst 3),vi ((grF l a x).fst 4)]
noncomputable def gyV12 (l:List Int) (c:Nat):Prop := (AObj.rw [Value.slice (some (ad0 0)) l.length c] none=AObj.rw [Value.slice (some (ad0 0)) l.length c] none∧true=true)
noncomputable def gyV :=
fun (l:List Int) (c:Nat) (zl:List Int) (a:Int)↦(∃ (y:Nat),Ob (y≤l.length)∧(Ob (AObj.ro (gyV5 l)=AObj.ro (List.map (nmap1 fun (b:Nat)↦b) (gyV5 l))∧AObj.sc 7 (AObj.ro (gyV5 l))=true)∧Ob (AObj.rw (gyV4 l c zl) none=AObj.rw (List.map (nmap1 fun (b:Nat)↦b) (gyV4 l c zl)) none∧AObj.sc 7 (AObj.rw (gyV4 l c zl) none)=true)∧Ob (AObj.rw [vi a] none=AObj.rw [vi (grF l a y).snd] none∧true=true)∧Ob (AObj.rw gyV6 none=AObj.rw gyV6 none∧true=true)∧Ob (AObj.rw gyV6 none=AObj.rw (gyV10 l a y) none∧true=true)∧Ob (gyV12 l c)∧Ob (gyV8 l c a)∧True)∧Ob gyV9∧Ob (ptr0 5=ptr0 5)∧Ob (IntKind.i64.wrap ((l.length:Int)-(1:Int))=(l.length:Int)-(1:Int)-(y:Int))∧True)∧∀ (x:Nat),Ob (x≤l.length)→(decide ((0:Int)≤(l.length:Int)-(1:Int)-(x:Int))=true→Ob ((0:Int)≤(l.length:Int)-(1:Int)-(x:Int)∧(l.length:Int)-(1:Int)-(x:Int)<(l.length:Int)∧true=true)∧Ob (IntAt IntKind.i64 (gyV5 l) (gyV0 l x))∧Ob (some (vi (grF l a x).snd)=some (vi (grF l a x).snd))∧Ob (getI (gyV5 l) (gyV0 l x)≠(0:Int))∧Ob ((0:Int)≤(l.length:Int)-(1:Int)-(x:Int)∧(l.length:Int)-(1:Int)-(x:Int)<(↑(5:Nat):Int))∧Ob (IntAt IntKind.i64 (gyV11 l a x) (gyV0 l x)∧some 1=some 1)∧Ob (some (vi (grF l a x).snd)=some (vi (grF l a x).snd))∧Ob (getI (gyV5 l) (gyV0 l x)≠(0:Int))∧Ob (some (vi (grF l a x).snd)=some (vi (grF l a x).snd)∧some 1=some 1)∧(false=true→Ob (some (vi (gyV3 l a x))=some (vi (gyV3 l a x)))∧Ob (0+5≤5)∧Ob ((true=true∧some (vi (gyV3 l a x))=some (vi (gyV3 l a x))∧eqV (vi (gyV3 l a x)) (vi (gyV3 l a x))=true)∧True)∧(Ob (AObj.ro (gyV5 l)=AObj.ro (List.map (nmap1 fun (b:Nat)↦b) (gyV5 l))∧AObj.sc 2 (AObj.ro (gyV5 l))=true)∧Ob (AObj.rw (gyV4 l c zl) none=AObj.rw (List.map (nmap1 fun (b:Nat)↦b) (gyV4 l c zl)) none∧AObj.sc 2 (AObj.rw (gyV4 l c zl) none)=true)∧True)∧Ob (Value.tuple ⟨[Value.agg { toList := (gyV1 l a x) },vi (gyV3 l a x)]⟩=Value.tuple (gyV7 l a))∧True)∧(false=false→∃ (y:Nat),Ob (y≤l.length)∧Ob (l.length-y<l.length-x)∧(Ob (AObj.ro (gyV5 l)=AObj.ro (List.map (nmap1 fun (b:Nat)↦b) (gyV5 l))∧AObj.sc 7 (AObj.ro (gyV5 l))=true)∧Ob (AObj.rw (gyV4 l c zl) none=AObj.rw (List.map (nmap1 fun (b:Nat)↦b) (gyV4 l c zl)) none∧AObj.sc 7 (AObj.rw (gyV4 l c zl) none)=true)∧Ob (AObj.rw [vi (gyV3 l a x)] none=AObj.rw [vi (grF l a y).snd] none∧true=true)∧Ob (AObj.rw gyV6 none=AObj.rw gyV6 none∧true=true)∧Ob (AObj.rw (gyV1 l a x) none=AObj.rw (gyV10 l a y) none∧true=true)∧Ob (gyV12 l c)∧Ob (gyV8 l c a)∧True)∧Ob gyV9∧Ob (ptr0 5=ptr0 5)∧Ob (IntKind.i64.wrap ((l.length:Int)-(1:Int)-(x:Int)-(1:Int))=(l.length:Int)-(1:Int)-(y:Int))∧True))∧(decide ((0:Int)≤(l.length:Int)-(1:Int)-(x:Int))=false→Ob (some (vi (grF l a x).snd)=some (vi (grF l a x).snd))∧Ob (0+5≤5)∧Ob ((true=true∧some (vi (grF l a x).snd)=some (vi (grF l a x).snd)∧eqV (vi (grF l a x).snd) (vi (grF l a x).snd)=true)∧True)∧(Ob (AObj.ro (gyV5 l)=AObj.ro (List.map (nmap1 fun (b:Nat)↦b) (gyV5 l))∧AObj.sc 2 (AObj.ro (gyV5 l))=true)∧Ob (AObj.rw (gyV4 l c zl) none=AObj.rw (List.map (nmap1 fun (b:Nat)↦b) (gyV4 l c zl)) none∧AObj.sc 2 (AObj.rw (gyV4 l c zl) none)=true)∧True)∧Ob (Value.tuple ⟨[Value.agg { toList := (gyV11 l a x) },vi (grF l a x).snd]⟩=Value.tuple (gyV7 l a))∧True)
theorem div_bd {r v : Int} (hr : 0≤r) (hv : 1≤v) : 0≤r.tdiv v∧r.tdiv v≤r∧0≤r.tmod v∧r.tmod v≤r∧r.tmod v < v := by
 rw [Int.tdiv_eq_ediv_of_nonneg hr,Int.tmod_eq_emod_of_nonneg hr]
 have h1 := Int.ediv_nonneg hr (show 0≤v by omega)
 have h2 := Int.ediv_le_self v hr
 have h3 := Int.emod_nonneg r (show v ≠ 0 by omega)
 have h4 := Int.emod_lt_of_pos r (show 0 < v by omega)
 have h5 := Int.mul_ediv_add_emod r v
 have h6 : 0≤v * (r / v) := Int.mul_nonneg (by omega) h1
 omega
theorem gr_bd {l : List Int} {a : Int} (hc : Coins l) (ha : 0≤a) : ∀ d,d≤l.length→(0≤(grF l a d).2∧(grF l a d).2≤a)∧∀ k,k < 5→0≤(grF l a d).1 k∧(grF l a d).1 k≤a
 | 0,_ => ⟨⟨ha,Int.le_refl _⟩,fun k _ => ⟨Int.le_refl _,ha⟩⟩
 | d + 1,h => by
   have ih := gr_bd hc ha d (by omega)
   have hv := coin_rng hc (j := l.length - 1 - d) (by omega)
   have hb := div_bd ih.1.1 hv.1
   refine ⟨⟨hb.2.2.1,by show (grF l a d).2.tmod _≤a; omega⟩,fun k hk => ?_⟩
   have h2 := ih.2 k hk
   show 0≤(bif Nat.beq k (l.length - 1 - d) then (grF l a d).2.tdiv (l.getD (l.length - 1 - d) 0) else (grF l a d).1 k)∧(bif Nat.beq k (l.length - 1 - d) then (grF l a d).2.tdiv (l.getD (l.length - 1 - d) 0) else (grF l a d).1 k)≤a
   cases Nat.beq k (l.length - 1 - d) <;> simp only [cond_true,cond_false] <;> omega
theorem gyV_ok (l : List Int) (c : Nat) (zl : List Int) (a : Int) (hc : Coins l) (ha : 0≤a∧a≤100000) : gyV l c zl a := by
 unfold gyV gyV12 gyV11 gyV10 gyV9 gyV8 gyV7 gyV6 gyV5 gyV4 gyV3 gyV2 gyV1 gyV0
 have hp := hc.pos
 have hw := hc.few
 simp only [SS,reduceCtorEq,Arg.list,Arg.num,Arg.flag,intOf,andP,Nat.reduceLeDiff,Nat.reduceAdd,Nat.reduceMul,Nat.reduceLT,til_sc,nm_sl]
 refine ⟨⟨0,by omega,⟨rfl,rfl,rfl,rfl,rfl,rfl⟩,by rw [wrap_in (by omega) (by omega)]; omega⟩,fun x hx => ⟨fun h1 => ?_,fun h1 => ?_⟩⟩
 · have e : ((l.length : Int) - 1 - (x : Int)).toNat = l.length - 1 - x := by omega
   rw [e]
   have hv := coin_rng hc (j := l.length - 1 - x) (by omega)
   have hb := gr_bd hc ha.1 x (by omega)
   have hd := div_bd hb.1.1 hv.1
   have hw2 : IntKind.i64.wrap ((grF l a x).2.tdiv (l.getD (l.length - 1 - x) 0)) = (grF l a x).2.tdiv (l.getD (l.length - 1 - x) 0) := wrap_in (by omega) (by omega)
   rw [hw2]
   exact ⟨by omega,by omega,by omega,by omega,I5_at (f := (grF l a x).1) (by omega),by omega,x + 1,by omega,by omega,⟨rfl,rfl,rfl,rfl,rfl,rfl⟩,by rw [wrap_in (by omega) (by omega)]; omega⟩
 · rw [show x = l.length by omega]
   exact ⟨by simp [eqV,eqS],rfl⟩
theorem gy0E_ok : VOk Try.prog gy0E := ⟨CtOk.none,E0_ok.cc,E0_ok.yc,orcI_ok⟩
theorem gy1E_ok : VOk Try.prog gy1E := ⟨CtOk.none,E0_ok.cc,ycIn_ok gy0E_ok mixed,E0_ok.orc⟩
theorem gyE_ok {l : List Int} {a : Int} : VOk Try.prog (gyE l a) := ⟨CtOk.none,ccOr_ok (ccIn_ok E0_ok mixed (inl_one Try.func95)) (ccIn_ok gy1E_ok mixed (inl_one Try.func106)),E0_ok.yc,E0_ok.orc⟩
theorem gy_call (l : List Int) (c : Nat) (zl : List Int) (a : Int) (hc : Coins l) (ha : 0≤a∧a≤100000) : Call Try.prog 73 [ptr0 1,vi a] [ros l,tillO l.length c zl] fun v H' => v = .tuple #[C5 (grF l a l.length).1,vi (grF l a l.length).2]∧H' = [ros l,tillO l.length c zl] :=
 Call.ofVcR (E := gyE l a) (H := [ros l,tillO l.length c zl]) (args := [ptr0 1,vi a]) (σ := fun b => b) (v2 := .tuple #[C5 (grF l a l.length).1,vi (grF l a l.length).2]) (H2 := [ros l,tillO l.length c zl]) gyE_ok mixed (c := gyB) (inv := fun _ => none) Try.func73 (by kernel_rfl) (cast (by kernel_rfl) (gyV_ok l c zl a hc ha))
noncomputable def gyCt (l : List Int) (c : Nat) : List Value→Heap→Option (Option Prop × Value × Heap × List Nat) := fun args H => match args with
 | [.pointer (some ⟨1,0,none⟩),.int .i64 a] => some (some (AtZ l c H∧Coins l∧0≤a∧a≤100000),.tuple #[C5 (grF l a l.length).1,vi (grF l a l.length).2],H,[])
 | _ => none
theorem gyCt_ok {l : List Int} {c : Nat} : ∀ args H φ v H' k,gyCt l c args H = some (φ,v,H',k)→Asks φ→Call Try.prog 73 args H (fun v' H2 => v' = v∧H2 = H')∧Kept H H' k := fun args H φ v H' k h hφ => by
 unfold gyCt at h
 split at h <;> cases h
 rename_i a
 obtain ⟨⟨zl,hA⟩,hc,h1,h2⟩ := hφ
 exact ⟨till_frame hA rfl (gy_call l c zl a hc ⟨h1,h2⟩) (by simp [C5,sc,sc2,sc1,sc0]),Kept.refl _ _⟩
end Go.Pier.Fl
namespace Go.Pier.Fl
open Go Go.Pier Go.Proofs
noncomputable def ibE (l : List Int) (c : Nat) : VEnv := { ct := ((Ct.none.add 73 (gyCt l c)).add 64 (pure3 [ps5] maS)) }
noncomputable def ibB : Code := Try.f80.body.getD .skip
def badF (l : List Int) (a : Int) (f : Nat→Int) : Bool := decide (0 < (grF l a l.length).2) || decide (m5 f < m5 (grF l a l.length).1)
noncomputable def iaV :=
fun (l:List Int) (c:Nat) (zl:List Int) (a:Int) (f:Nat→Int)↦Ob (AtZ l c [AObj.ro (List.map (Value.int IntKind.i64) l),AObj.rw (Value.slice (some (ad0 0)) l.length c::List.map (Value.int IntKind.i64) zl) none,AObj.rw [vi (f 0),vi (f 1),vi (f 2),vi (f 3),vi (f 4)] none]∧Coins l∧(0:Int)≤a∧a≤(100000:Int))∧Ob (0+5≤5)∧(decide ((0:Int)<(grF l a l.length).snd)=false→Ob (smallP (l5 ((grF l a l.length).fst 0) ((grF l a l.length).fst 1) ((grF l a l.length).fst 2) ((grF l a l.length).fst 3) ((grF l a l.length).fst 4)))∧Ob (smallP (l5 (f 0) (f 1) (f 2) (f 3) (f 4)))∧(Ob (AObj.ro (List.map (Value.int IntKind.i64) l)=AObj.ro (List.map (nmap1 fun (b:Nat)↦b) (List.map (Value.int IntKind.i64) l))∧AObj.sc 2 (AObj.ro (List.map (Value.int IntKind.i64) l))=true)∧Ob (AObj.rw (Value.slice (some (ad0 0)) l.length c::List.map (Value.int IntKind.i64) zl) none=AObj.rw (List.map (nmap1 fun (b:Nat)↦b) (Value.slice (some (ad0 0)) l.length c::List.map (Value.int IntKind.i64) zl)) none∧AObj.sc 2 (AObj.rw (Value.slice (some (ad0 0)) l.length c::List.map (Value.int IntKind.i64) zl) none)=true)∧True)∧Ob (decide (m5 (l5 (f 0) (f 1) (f 2) (f 3) (f 4))<m5 (l5 ((grF l a l.length).fst 0) ((grF l a l.length).fst 1) ((grF l a l.length).fst 2) ((grF l a l.length).fst 3) ((grF l a l.length).fst 4)))=badF l a f)∧True)∧(decide ((0:Int)<(grF l a l.length).snd)=true→(Ob (AObj.ro (List.map (Value.int IntKind.i64) l)=AObj.ro (List.map (nmap1 fun (b:Nat)↦b) (List.map (Value.int IntKind.i64) l))∧AObj.sc 2 (AObj.ro (List.map (Value.int IntKind.i64) l))=true)∧Ob (AObj.rw (Value.slice (some (ad0 0)) l.length c::List.map (Value.int IntKind.i64) zl) none=AObj.rw (List.map (nmap1 fun (b:Nat)↦b) (Value.slice (some (ad0 0)) l.length c::List.map (Value.int IntKind.i64) zl)) none∧AObj.sc 2 (AObj.rw (Value.slice (some (ad0 0)) l.length c::List.map (Value.int IntKind.i64) zl) none)=true)∧True)∧Ob (true=badF l a f)∧True)
theorem gr_small {l : List Int} {a : Int} (hc : Coins l) (ha : 0≤a∧a≤100000) (d : Nat) (hd : d≤l.length) : smallP (grF l a d).1 := by
 have h : ∀ k,k < 5→0≤(grF l a d).1 k∧(grF l a d).1 k≤100000 := fun k hk => by have := (gr_bd hc ha.1 d hd).2 k hk; omega
 exact ⟨h 0 (by omega),h 1 (by omega),h 2 (by omega),h 3 (by omega),h 4 (by omega)⟩
theorem iaV_ok (l : List Int) (c : Nat) (zl : List Int) (a : Int) (f : Nat→Int) (hc : Coins l) (ha : 0≤a∧a≤100000) (hf : smallP f) : iaV l c zl a f := by
 unfold iaV
 simp only [SS,reduceCtorEq,Arg.list,Arg.num,Arg.flag,intOf,andP,Nat.reduceLeDiff,Nat.reduceAdd,Nat.reduceMul,Nat.reduceLT,til_sc,nm_sl]
 refine ⟨⟨at_z,hc,ha.1,ha.2⟩,fun h => ⟨gr_small hc ha _ (Nat.le_refl _),hf,?_⟩,fun h => ?_⟩
 · rw [badF,decide_eq_false h]; rfl
 · rw [badF,decide_eq_true h]; rfl
theorem ibE_ok {l : List Int} {c : Nat} : VOk Try.prog (ibE l c) := VOk.ofCt ((CtOk.none.add gyCt_ok).add maG_ok)
theorem ib_call (l : List Int) (c : Nat) (zl : List Int) (a : Int) (f : Nat→Int) (hc : Coins l) (ha : 0≤a∧a≤100000) (hf : smallP f) : Call Try.prog 80 [ptr0 1,vi a,C5 f] [ros l,tillO l.length c zl] fun v H' => v = .bool (badF l a f)∧H' = [ros l,tillO l.length c zl] :=
 Call.ofVcR (E := ibE l c) (H := [ros l,tillO l.length c zl]) (args := [ptr0 1,vi a,C5 f]) (σ := fun b => b) (v2 := .bool (badF l a f)) (H2 := [ros l,tillO l.length c zl]) ibE_ok mixed (c := ibB) (inv := fun _ => none) Try.func80 (by kernel_rfl) (cast (by kernel_rfl) (iaV_ok l c zl a f hc ha hf))
noncomputable def ibCt (l : List Int) (c : Nat) : List Value→Heap→Option (Option Prop × Value × Heap × List Nat) := fun args H => match args with
 | [.pointer (some ⟨1,0,none⟩),.int .i64 a,.agg ⟨[.int .i64 a0,.int .i64 a1,.int .i64 a2,.int .i64 a3,.int .i64 a4]⟩] => some (some (AtZ l c H∧Coins l∧(0≤a∧a≤100000)∧smallP (l5 a0 a1 a2 a3 a4)),.bool (badF l a (l5 a0 a1 a2 a3 a4)),H,[])
 | _ => none
theorem ibCt_ok {l : List Int} {c : Nat} : ∀ args H φ v H' k,ibCt l c args H = some (φ,v,H',k)→Asks φ→Call Try.prog 80 args H (fun v' H2 => v' = v∧H2 = H')∧Kept H H' k := fun args H φ v H' k h hφ => by
 unfold ibCt at h
 split at h <;> cases h
 rename_i a a0 a1 a2 a3 a4
 obtain ⟨⟨zl,hA⟩,hc,ha,hf⟩ := hφ
 exact ⟨till_frame hA (by simp [sc,sc2,sc1,sc0]) (ib_call l c zl a (l5 a0 a1 a2 a3 a4) hc ha hf) rfl,Kept.refl _ _⟩
end Go.Pier.Fl
namespace Go.Pier.Fl
open Go Go.Pier Go.Proofs
noncomputable def bd_c0 : Code := ((Code.region (2 : Nat) { toList := [{ dst := some (4 : Nat),op := Op.assign (Operand.tmp (8 : Nat)),type := (2 : Nat),pos := "change.go:75",after := { toList := [] },guard := none }] } false).seq (Code.region (3 : Nat) { toList := [{ dst := some (5 : Nat),op := Op.alloc (71 : Nat),type := (0 : Nat),pos := "change.go:75",after := { toList := [] },guard := none },{ dst := none,op := Op.store (71 : Nat) (Operand.tmp (5 : Nat)) (Operand.tmp (9 : Nat)),type := (0 : Nat),pos := "change.go:75",after := { toList := [{ on := (0 : Nat),ground := Ground.data },{ on := (0 : Nat),ground := Ground.phase }] },guard := none }] } false))
noncomputable def bd_c1 : Code := (Code.block (1 : Nat) ((Code.region (4 : Nat) { toList := [{ dst := some (10 : Nat),op := Op.load (61 : Nat) (Operand.tmp (1 : Nat)),type := (61 : Nat),pos := "change.go:76",after := { toList := [] },guard := none },{ dst := some (11 : Nat),op := Op.move (Operand.tmp (4 : Nat)),type := (2 : Nat),pos := "change.go:76",after := { toList := [] },guard := none },{ dst := some (12 : Nat),op := Op.load (71 : Nat) (Operand.tmp (5 : Nat)),type := (71 : Nat),pos := "change.go:76",after := { toList := [] },guard := none },{ dst := some (13 : Nat),op := Op.call { callee := Callee.value (Operand.func (80 : Nat)),args := { toList := [Operand.tmp (10 : Nat),Operand.tmp (11 : Nat),Operand.tmp (12 : Nat)] },argTypes := { toList := [(61 : Nat),(2 : Nat),(71 : Nat)] } },type := (4 : Nat),pos := "change.go:76",after := { toList := [{ on := (0 : Nat),ground := Ground.data },{ on := (1 : Nat),ground := Ground.data },{ on := (2 : Nat),ground := Ground.data }] },guard := none }] } false).seq (Code.cond (Operand.tmp (13 : Nat)) ((Code.region (5 : Nat) { toList := [{ dst := some (14 : Nat),op := Op.move (Operand.tmp (4 : Nat)),type := (2 : Nat),pos := "change.go:77",after := { toList := [] },guard := none },{ dst := none,op := Op.store (2 : Nat) (Operand.tmp (2 : Nat)) (Operand.tmp (14 : Nat)),type := (0 : Nat),pos := "change.go:77",after := { toList := [{ on := (0 : Nat),ground := Ground.data },{ on := (0 : Nat),ground := Ground.phase }] },guard := none },{ dst := none,op := Op.store (25 : Nat) (Operand.tmp (3 : Nat)) (Operand.const (vi (0 : Int))),type := (0 : Nat),pos := "change.go:77",after := { toList := [{ on := (1 : Nat),ground := Ground.chain },{ on := (0 : Nat),ground := Ground.phase },{ on := (1 : Nat),ground := Ground.phase }] },guard := none }] } false).seq Code.ret) Code.skip)))
def lbF (l : List Int) : Nat→Nat→Option Nat
 | 0,_ => none
 | n + 1,a => bif canB l a && badF l a (bF l a) then some a else lbF l n (a + 1)
noncomputable def bd0E (l : List Int) (c : Nat) : VEnv := { ct := Ct.none.add 80 (ibCt l c) }
noncomputable def bdE (l : List Int) (c : Nat) (zl : List Int) : VEnv := { cc := ccOr (ccIn Try.prog {} [⟨93,Try.f93,fun _ _ _ => none⟩]) (ccIn Try.prog (chE l c zl (bd0E l c)) [⟨104,Try.f104,chI l 100 (fun _ H => H) (fun a => ∀ b,b < a→(canB l b && badF l b (bF l b)) = false)⟩]) }
noncomputable def bdB : Code := Try.f79.body.getD .skip
def bdVal (l : List Int) : Int := match lbF l 101 0 with | some a => a | none => 0
def bdErr (l : List Int) : Int := match lbF l 101 0 with | some _ => 0 | none => 5
noncomputable def bdV0 (l:List Int) (x:Nat × List MapEntry × Nat):List Value := [vi ((bstF l (lookE uA x.snd.fst) (x.fst:Int) l.length).fst 0),vi ((bstF l (lookE uA x.snd.fst) (x.fst:Int) l.length).fst 1),vi ((bstF l (lookE uA x.snd.fst) (x.fst:Int) l.length).fst 2),vi ((bstF l (lookE uA x.snd.fst) (x.fst:Int) l.length).fst 3),vi ((bstF l (lookE uA x.snd.fst) (x.fst:Int) l.length).fst 4)]
noncomputable def bdV1  : Array Value := { toList := [ptr0 1,ptr0 2,ptr0 3,ptr0 4,junk,junk,ptr0 1,Value.func (Fn.func (104 : Nat)) { toList := [] } { toList := [ptr0 6,ptr0 5] },junk,junk,junk,junk,junk,junk,junk] }
noncomputable def bdV2 (l:List Int) (c:Nat) (zl:List Int) := (Value.slice (some (ad0 0)) l.length c::List.map (Value.int IntKind.i64) zl)
noncomputable def bdV3 (l:List Int) (x:Nat × List MapEntry × Nat) := (Value.agg ⟨[vi (IntKind.i64.wrap ((x.fst:Int)-getI (List.map (Value.int IntKind.i64) l) (0+(IntKind.i64.wrap ((l.length:Int)-(1:Int))).toNat * 1)))]⟩)
noncomputable def bdV4 (l:List Int) (x:Nat × List MapEntry × Nat) := (l5 ((bstF l (lookE uA x.snd.fst) (x.fst:Int) l.length).fst 0) ((bstF l (lookE uA x.snd.fst) (x.fst:Int) l.length).fst 1) ((bstF l (lookE uA x.snd.fst) (x.fst:Int) l.length).fst 2) ((bstF l (lookE uA x.snd.fst) (x.fst:Int) l.length).fst 3) ((bstF l (lookE uA x.snd.fst) (x.fst:Int) l.length).fst 4))
noncomputable def bdV5 (l:List Int) (x:Nat × List MapEntry × Nat) := (x.snd.fst++[{ key := Value.agg ⟨[vi (x.fst:Int)]⟩,val := Value.agg { toList := (bdV0 l x) },born := x.snd.snd }])
noncomputable def bdV6 (l:List Int) := (List.map (Value.int IntKind.i64) l)
noncomputable def bdV7  : Prop := (AObj.rw [vi (0 : Int)] none = AObj.rw [vi (0 : Int)] none∧true = true)
noncomputable def bdV8  : Prop := (Value.func (Fn.yield (7 : Nat)) { toList := [] } { toList := [] } = Value.func (Fn.yield (7 : Nat)) { toList := [] } { toList := [] })
noncomputable def bdV9  : Prop := (AObj.rw [ptr0 1] none = AObj.rw [ptr0 1] none∧true = true)
noncomputable def bdV10  : Prop := (AObj.loop LoopState.ready none bdV1 { toList := [(8 : Nat),(9 : Nat)] } bd_c0 bd_c1 = AObj.loop LoopState.ready none bdV1 { toList := [(8 : Nat),(9 : Nat)] } bd_c0 bd_c1∧true = true)
noncomputable def bdV11  : Prop := (AObj.rw [vi (100 : Int)] none = AObj.rw [vi (100 : Int)] none∧true = true)
noncomputable def bdV12 (l:List Int) := (IntAt IntKind.i64 (bdV6 l) (0+(IntKind.i64.wrap ((l.length:Int)-(1:Int))).toNat * 1))
noncomputable def bdV13  : List Value := [Value.map (some (8 : Nat))]
noncomputable def bdV14  : Prop := (Value.map (some (8 : Nat)) = Value.map (some (8 : Nat)))
noncomputable def bdV15 (l:List Int) (c:Nat):List Value := [Value.slice (some (ad0 0)) l.length c]
noncomputable def bdV16  (x:Nat × List MapEntry × Nat) (y:Nat × List MapEntry × Nat):Prop := (IntKind.i64.wrap ((x.fst:Int)+(1:Int))=(y.fst:Int))
noncomputable def bdV17 (l:List Int) (b:Nat) := (canB l b && badF l (b:Int) (bF l b))
noncomputable def bdV18  (x:Nat × List MapEntry × Nat) := (x.snd.snd+1)
noncomputable def bdV19 (l:List Int) := ((l.length:Int)-(1:Int))
noncomputable def bdV20 (l:List Int):Prop := (Value.tuple ⟨[vi (0:Int),vi (5:Int)]⟩=Value.tuple ⟨[vi (bdVal l),vi (bdErr l)]⟩)
noncomputable def bdV21 (l:List Int) (x:Nat × List MapEntry × Nat) := (delE uA (bdV5 l x) (uA (bdV3 l x)))
noncomputable def bdV22  : Prop := ((↑(101 : Nat) : Int) = (↑(101 : Nat) : Int))
noncomputable def bdV23  (y:Nat × List MapEntry × Nat) := (AObj.map y.snd.fst y.snd.snd)
noncomputable def bdV24  := (Value.map (some (8 : Nat)))
noncomputable def bdV :=
fun (l:List Int) (c:Nat) (zl:List Int)↦Ob (some (vi (100:Int))=some (vi (100:Int)))∧(∃ (y:Nat × List MapEntry × Nat),Ob (y.fst≤101∧keptP l y.fst y.snd.fst∧∀ (b:Nat),b<y.fst→(bdV17 l b)=false)∧(Ob (AObj.ro (bdV6 l)=AObj.ro (List.map (nmap1 fun (b:Nat)↦b) (bdV6 l))∧AObj.sc 9 (AObj.ro (bdV6 l))=true)∧Ob (AObj.rw (bdV2 l c zl) none=AObj.rw (List.map (nmap1 fun (b:Nat)↦b) (bdV2 l c zl)) none∧AObj.sc 9 (AObj.rw (bdV2 l c zl) none)=true)∧Ob bdV9∧Ob bdV7∧Ob bdV7∧Ob bdV9∧Ob bdV11∧Ob bdV10∧Ob (AObj.map [] 0=AObj.map (List.map (fun (e:MapEntry)↦{ key := e.key,val := nmap2 (fun (b:Nat)↦b) e.val,born := e.born }) y.snd.fst) y.snd.snd∧AObj.sc 9 (bdV23 y)=true)∧True)∧Ob bdV8∧Ob (ptr0 6=ptr0 6)∧Ob (ptr0 5=ptr0 5)∧Ob bdV14∧Ob (IntKind.i64.wrap ((100:Int)+(1:Int))=(↑(101:Nat):Int))∧Ob ((0:Int)=(y.fst:Int))∧True)∧∀ (x:Nat × List MapEntry × Nat),Ob (x.fst≤101∧keptP l x.fst x.snd.fst∧∀ (b:Nat),b<x.fst→(bdV17 l b)=false)→(decide ((x.fst:Int)<(↑(101:Nat):Int))=true→Ob (AtT l c zl [AObj.ro (bdV6 l),AObj.rw (bdV2 l c zl) none,AObj.rw [ptr0 1] none,AObj.rw [vi (0:Int)] none,AObj.rw [vi (0:Int)] none,AObj.rw [ptr0 1] none,AObj.rw [vi (100:Int)] none,AObj.loop LoopState.ready none bdV1 ⟨[8,9]⟩ bd_c0 bd_c1,AObj.map x.snd.fst x.snd.snd,AObj.rw [ptr0 1] none,AObj.rw bdV13 none,AObj.rw [vi (x.fst:Int)] none]∧rngC l∧((0:Int)≤(x.fst:Int)∧(x.fst:Int)≤(5000:Int))∧EntOk x.snd.fst∧true=true∧6≤12)∧Ob (0+5≤5)∧Ob True∧(((x.fst:Int)==(0:Int) || !same5 (bdV4 l x) z5)=true→Ob (aMapUpdate Try.prog [AObj.ro (bdV6 l),AObj.rw (bdV2 l c zl) none,AObj.rw [ptr0 1] none,AObj.rw [vi (0:Int)] none,AObj.rw [vi (0:Int)] none,AObj.rw [ptr0 1] none,AObj.rw [vi (100:Int)] none,AObj.loop LoopState.ready none bdV1 ⟨[8,9]⟩ bd_c0 bd_c1,AObj.map x.snd.fst x.snd.snd,AObj.rw [ptr0 1] none,AObj.rw bdV13 none,AObj.rw [vi (x.fst:Int)] none,AObj.rw (bdV0 l x) none] 112 bdV24 (Value.agg ⟨[vi (x.fst:Int)]⟩) (Value.agg { toList := (bdV0 l x) })=some [AObj.ro (bdV6 l),AObj.rw (bdV2 l c zl) none,AObj.rw [ptr0 1] none,AObj.rw [vi (0:Int)] none,AObj.rw [vi (0:Int)] none,AObj.rw [ptr0 1] none,AObj.rw [vi (100:Int)] none,AObj.loop LoopState.ready none bdV1 ⟨[8,9]⟩ bd_c0 bd_c1,AObj.map (bdV5 l x) (bdV18 x),AObj.rw [ptr0 1] none,AObj.rw bdV13 none,AObj.rw [vi (x.fst:Int)] none,AObj.rw (bdV0 l x) none])∧Ob (0+5≤5)∧Ob (AtZ l c [AObj.ro (bdV6 l),AObj.rw (bdV2 l c zl) none,AObj.rw [ptr0 1] none,AObj.rw [vi (0:Int)] none,AObj.rw [vi (0:Int)] none,AObj.rw [ptr0 1] none,AObj.rw [vi (100:Int)] none,AObj.loop LoopState.busy none bdV1 ⟨[8,9]⟩ bd_c0 bd_c1,AObj.map (bdV5 l x) (bdV18 x),AObj.rw [ptr0 1] none,AObj.rw bdV13 none,AObj.rw [vi (x.fst:Int)] none,AObj.rw (bdV0 l x) none,AObj.rw (bdV0 l x) none]∧Coins l∧((0:Int)≤(x.fst:Int)∧(x.fst:Int)≤(100000:Int))∧smallP (bdV4 l x))∧(badF l (x.fst:Int) (bdV4 l x)=true→Ob (0+1≤1)∧Ob (0+1≤1)∧(true=true→(Ob (some (vi (x.fst:Int))=some (vi (x.fst:Int)))∧Ob (some (vi (0:Int))=some (vi (0:Int)))∧True)∧(Ob (AObj.ro (bdV6 l)=AObj.ro (List.map (nmap1 fun (b:Nat)↦b) (bdV6 l))∧AObj.sc 2 (AObj.ro (bdV6 l))=true)∧Ob (AObj.rw (bdV2 l c zl) none=AObj.rw (List.map (nmap1 fun (b:Nat)↦b) (bdV2 l c zl)) none∧AObj.sc 2 (AObj.rw (bdV2 l c zl) none)=true)∧True)∧Ob (Value.tuple ⟨[vi (x.fst:Int),vi (0:Int)]⟩=Value.tuple ⟨[vi (bdVal l),vi (bdErr l)]⟩)∧True)∧(true=false→Ob ((0:Int)≤IntKind.i64.wrap (bdV19 l)∧IntKind.i64.wrap (bdV19 l)<(l.length:Int)∧true=true)∧Ob (bdV12 l)∧Ob (aDelete Try.prog [AObj.ro (bdV6 l),AObj.rw (bdV2 l c zl) none,AObj.rw [ptr0 1] none,AObj.rw [vi (x.fst:Int)] none,AObj.rw [vi (0:Int)] none,AObj.rw [ptr0 1] none,AObj.rw [vi (100:Int)] none,AObj.loop LoopState.done (some Code.ret) bdV1 ⟨[8,9]⟩ bd_c0 bd_c1,AObj.map (bdV5 l x) (bdV18 x),AObj.rw [ptr0 1] none,AObj.rw bdV13 none,AObj.rw [vi (x.fst:Int)] none,AObj.rw (bdV0 l x) none,AObj.rw (bdV0 l x) none,AObj.rw (bdV15 l c) none] ⟨[112,115]⟩ bdV24 (bdV3 l x)=some [AObj.ro (bdV6 l),AObj.rw (bdV2 l c zl) none,AObj.rw [ptr0 1] none,AObj.rw [vi (x.fst:Int)] none,AObj.rw [vi (0:Int)] none,AObj.rw [ptr0 1] none,AObj.rw [vi (100:Int)] none,AObj.loop LoopState.done (some Code.ret) bdV1 ⟨[8,9]⟩ bd_c0 bd_c1,AObj.map (bdV21 l x) (bdV18 x),AObj.rw [ptr0 1] none,AObj.rw bdV13 none,AObj.rw [vi (x.fst:Int)] none,AObj.rw (bdV0 l x) none,AObj.rw (bdV0 l x) none,AObj.rw (bdV15 l c) none])∧∃ (y:Nat × List MapEntry × Nat),Ob (y.fst≤101∧keptP l y.fst y.snd.fst∧∀ (b:Nat),b<y.fst→(bdV17 l b)=false)∧Ob (101-y.fst<101-x.fst)∧(Ob (AObj.ro (bdV6 l)=AObj.ro (List.map (nmap1 fun (b:Nat)↦b) (bdV6 l))∧AObj.sc 9 (AObj.ro (bdV6 l))=true)∧Ob (AObj.rw (bdV2 l c zl) none=AObj.rw (List.map (nmap1 fun (b:Nat)↦b) (bdV2 l c zl)) none∧AObj.sc 9 (AObj.rw (bdV2 l c zl) none)=true)∧Ob bdV9∧Ob (AObj.rw [vi (x.fst:Int)] none=AObj.rw [vi (0:Int)] none∧true=true)∧Ob bdV7∧Ob bdV9∧Ob bdV11∧Ob (AObj.loop LoopState.done (some Code.ret) bdV1 ⟨[8,9]⟩ bd_c0 bd_c1=AObj.loop LoopState.ready none bdV1 ⟨[8,9]⟩ bd_c0 bd_c1∧true=true)∧Ob (AObj.map (bdV21 l x) (bdV18 x)=AObj.map (List.map (fun (e:MapEntry)↦{ key := e.key,val := nmap2 (fun (b:Nat)↦b) e.val,born := e.born }) y.snd.fst) y.snd.snd∧AObj.sc 9 (bdV23 y)=true)∧True)∧Ob bdV8∧Ob (ptr0 6=ptr0 6)∧Ob (ptr0 5=ptr0 5)∧Ob bdV14∧Ob bdV22∧Ob (bdV16 x y)∧True))∧(badF l (x.fst:Int) (bdV4 l x)=false→(false=true→Ob (0+1≤1)∧Ob (0+1≤1)∧(Ob (some (vi (0:Int))=some (vi (0:Int)))∧Ob (some (vi (5:Int))=some (vi (5:Int)))∧True)∧(Ob (AObj.ro (bdV6 l)=AObj.ro (List.map (nmap1 fun (b:Nat)↦b) (bdV6 l))∧AObj.sc 2 (AObj.ro (bdV6 l))=true)∧Ob (AObj.rw (bdV2 l c zl) none=AObj.rw (List.map (nmap1 fun (b:Nat)↦b) (bdV2 l c zl)) none∧AObj.sc 2 (AObj.rw (bdV2 l c zl) none)=true)∧True)∧Ob (bdV20 l)∧True)∧(false=false→Ob ((0:Int)≤IntKind.i64.wrap (bdV19 l)∧IntKind.i64.wrap (bdV19 l)<(l.length:Int)∧true=true)∧Ob (bdV12 l)∧Ob (aDelete Try.prog [AObj.ro (bdV6 l),AObj.rw (bdV2 l c zl) none,AObj.rw [ptr0 1] none,AObj.rw [vi (0:Int)] none,AObj.rw [vi (0:Int)] none,AObj.rw [ptr0 1] none,AObj.rw [vi (100:Int)] none,AObj.loop LoopState.ready none bdV1 ⟨[8,9]⟩ bd_c0 bd_c1,AObj.map (bdV5 l x) (bdV18 x),AObj.rw [ptr0 1] none,AObj.rw bdV13 none,AObj.rw [vi (x.fst:Int)] none,AObj.rw (bdV0 l x) none,AObj.rw (bdV0 l x) none,AObj.rw (bdV15 l c) none] ⟨[112,115]⟩ bdV24 (bdV3 l x)=some [AObj.ro (bdV6 l),AObj.rw (bdV2 l c zl) none,AObj.rw [ptr0 1] none,AObj.rw [vi (0:Int)] none,AObj.rw [vi (0:Int)] none,AObj.rw [ptr0 1] none,AObj.rw [vi (100:Int)] none,AObj.loop LoopState.ready none bdV1 ⟨[8,9]⟩ bd_c0 bd_c1,AObj.map (bdV21 l x) (bdV18 x),AObj.rw [ptr0 1] none,AObj.rw bdV13 none,AObj.rw [vi (x.fst:Int)] none,AObj.rw (bdV0 l x) none,AObj.rw (bdV0 l x) none,AObj.rw (bdV15 l c) none])∧∃ (y:Nat × List MapEntry × Nat),Ob (y.fst≤101∧keptP l y.fst y.snd.fst∧∀ (b:Nat),b<y.fst→(bdV17 l b)=false)∧Ob (101-y.fst<101-x.fst)∧(Ob (AObj.ro (bdV6 l)=AObj.ro (List.map (nmap1 fun (b:Nat)↦b) (bdV6 l))∧AObj.sc 9 (AObj.ro (bdV6 l))=true)∧Ob (AObj.rw (bdV2 l c zl) none=AObj.rw (List.map (nmap1 fun (b:Nat)↦b) (bdV2 l c zl)) none∧AObj.sc 9 (AObj.rw (bdV2 l c zl) none)=true)∧Ob bdV9∧Ob bdV7∧Ob bdV7∧Ob bdV9∧Ob bdV11∧Ob bdV10∧Ob (AObj.map (bdV21 l x) (bdV18 x)=AObj.map (List.map (fun (e:MapEntry)↦{ key := e.key,val := nmap2 (fun (b:Nat)↦b) e.val,born := e.born }) y.snd.fst) y.snd.snd∧AObj.sc 9 (bdV23 y)=true)∧True)∧Ob bdV8∧Ob (ptr0 6=ptr0 6)∧Ob (ptr0 5=ptr0 5)∧Ob bdV14∧Ob bdV22∧Ob (bdV16 x y)∧True)))∧(((x.fst:Int)==(0:Int) || !same5 (bdV4 l x) z5)=false→Ob ((0:Int)≤IntKind.i64.wrap (bdV19 l)∧IntKind.i64.wrap (bdV19 l)<(l.length:Int)∧true=true)∧Ob (bdV12 l)∧Ob (aDelete Try.prog [AObj.ro (bdV6 l),AObj.rw (bdV2 l c zl) none,AObj.rw [ptr0 1] none,AObj.rw [vi (0:Int)] none,AObj.rw [vi (0:Int)] none,AObj.rw [ptr0 1] none,AObj.rw [vi (100:Int)] none,AObj.loop LoopState.ready none bdV1 ⟨[8,9]⟩ bd_c0 bd_c1,AObj.map x.snd.fst x.snd.snd,AObj.rw [ptr0 1] none,AObj.rw bdV13 none,AObj.rw [vi (x.fst:Int)] none,AObj.rw (bdV0 l x) none,AObj.rw (bdV15 l c) none] ⟨[112,115]⟩ bdV24 (bdV3 l x)=some [AObj.ro (bdV6 l),AObj.rw (bdV2 l c zl) none,AObj.rw [ptr0 1] none,AObj.rw [vi (0:Int)] none,AObj.rw [vi (0:Int)] none,AObj.rw [ptr0 1] none,AObj.rw [vi (100:Int)] none,AObj.loop LoopState.ready none bdV1 ⟨[8,9]⟩ bd_c0 bd_c1,AObj.map (delE uA x.snd.fst (uA (bdV3 l x))) x.snd.snd,AObj.rw [ptr0 1] none,AObj.rw bdV13 none,AObj.rw [vi (x.fst:Int)] none,AObj.rw (bdV0 l x) none,AObj.rw (bdV15 l c) none])∧∃ (y:Nat × List MapEntry × Nat),Ob (y.fst≤101∧keptP l y.fst y.snd.fst∧∀ (b:Nat),b<y.fst→(bdV17 l b)=false)∧Ob (101-y.fst<101-x.fst)∧(Ob (AObj.ro (bdV6 l)=AObj.ro (List.map (nmap1 fun (b:Nat)↦b) (bdV6 l))∧AObj.sc 9 (AObj.ro (bdV6 l))=true)∧Ob (AObj.rw (bdV2 l c zl) none=AObj.rw (List.map (nmap1 fun (b:Nat)↦b) (bdV2 l c zl)) none∧AObj.sc 9 (AObj.rw (bdV2 l c zl) none)=true)∧Ob bdV9∧Ob bdV7∧Ob bdV7∧Ob bdV9∧Ob bdV11∧Ob bdV10∧Ob (AObj.map (delE uA x.snd.fst (uA (bdV3 l x))) x.snd.snd=AObj.map (List.map (fun (e:MapEntry)↦{ key := e.key,val := nmap2 (fun (b:Nat)↦b) e.val,born := e.born }) y.snd.fst) y.snd.snd∧AObj.sc 9 (bdV23 y)=true)∧True)∧Ob bdV8∧Ob (ptr0 6=ptr0 6)∧Ob (ptr0 5=ptr0 5)∧Ob bdV14∧Ob bdV22∧Ob (bdV16 x y)∧True))∧(decide ((x.fst:Int)<(↑(101:Nat):Int))=false→Ob (0+1≤1)∧Ob (0+1≤1)∧(Ob (some (vi (0:Int))=some (vi (0:Int)))∧Ob (some (vi (5:Int))=some (vi (5:Int)))∧True)∧(Ob (AObj.ro (bdV6 l)=AObj.ro (List.map (nmap1 fun (b:Nat)↦b) (bdV6 l))∧AObj.sc 2 (AObj.ro (bdV6 l))=true)∧Ob (AObj.rw (bdV2 l c zl) none=AObj.rw (List.map (nmap1 fun (b:Nat)↦b) (bdV2 l c zl)) none∧AObj.sc 2 (AObj.rw (bdV2 l c zl) none)=true)∧True)∧Ob (bdV20 l)∧True)
theorem lb_at {l : List Int} {a : Nat} (h : (canB l a && badF l a (bF l a)) = true) : ∀ n s,s≤a→a < s + n→(∀ b,s≤b→b < a→(canB l b && badF l b (bF l b)) = false)→lbF l n s = some a
 | 0,s,h1,h2,_ => by omega
 | n + 1,s,h1,h2,h3 => by
   unfold lbF
   by_cases e : s = a
   · subst e; rw [h]; rfl
   · rw [h3 s (Nat.le_refl _) (by omega)]
     exact lb_at h n (s + 1) (by omega) (by omega) fun b hb => h3 b (by omega)
theorem lb_no {l : List Int} : ∀ n s,(∀ b,s≤b→b < s + n→(canB l b && badF l b (bF l b)) = false)→lbF l n s = none
 | 0,s,_ => rfl
 | n + 1,s,h3 => by
   unfold lbF
   rw [h3 s (Nat.le_refl _) (by omega)]
   exact lb_no n (s + 1) fun b hb hb2 => h3 b (by omega) (by omega)
theorem bdV_ok (l : List Int) (c : Nat) (zl : List Int) (hc : Coins l) : bdV l c zl := by
 unfold bdV bdV24 bdV23 bdV22 bdV21 bdV20 bdV19 bdV18 bdV17 bdV16 bdV15 bdV14 bdV13 bdV12 bdV11 bdV10 bdV9 bdV8 bdV7 bdV6 bdV5 bdV4 bdV3 bdV2 bdV1 bdV0
 have hl := last_rng hc
 have hp := hc.pos
 have hw := hc.few
 simp only [SS,reduceCtorEq,Arg.list,Arg.num,Arg.flag,intOf,andP,Nat.reduceLeDiff,Nat.reduceAdd,Nat.reduceMul,Nat.reduceLT,til_sc,nm_sl,uA_k,len_pred hc]
 refine ⟨⟨(0,[],0),⟨by simp,kept_0,fun b h => by simp at h⟩,⟨rfl,rfl⟩,by rw [wrap_in (by omega) (by omega)]; rfl,rfl⟩,fun x hx => ⟨fun h1 => ?_,fun h1 => ?_⟩⟩
 · obtain ⟨a,es,k⟩ := x
   obtain ⟨x1,hk,x3⟩ := hx
   simp only at x1 hk x3 h1
   simp only [kept_bF hc hk]
   have h5 : a≤100 := by omega
   have hA : ∀ r,AtT l c zl (AObj.ro (List.map (Value.int IntKind.i64) l) :: AObj.rw (Value.slice (some (ad0 0)) l.length c :: List.map (Value.int IntKind.i64) zl) none :: r) := fun r => ⟨rfl,rfl⟩
   have wk : IntKind.i64.wrap ((a : Int) - l.getD (l.length - 1) 0) = (a : Int) - lastF l := by unfold lastF at *; rw [wrap_in (by omega) (by omega)]
   rw [wk]
   have nx : IntKind.i64.wrap ((a : Int) + 1) = ((a + 1 : Nat) : Int) := wrap_succ (n := 10000) (by omega) (by omega)
   have e5 : badF l (a : Int) (l5 (bF l a 0) (bF l a 1) (bF l a 2) (bF l a 3) (bF l a 4)) = badF l a (bF l a) := rfl
   rw [e5]
   refine ⟨⟨hA _,rng_of hc,by omega,hk.1⟩,fun h2 => ⟨new_es hk.1 rfl (kept_fresh hc (by omega) hk),⟨at_z,hc,by omega,(bF_less hc (by omega)).small⟩,fun h3 => ?_,fun h3 => ⟨by omega,by omega,del_es (hk.1.snoc (bF_less hc (by omega))) rfl rfl,(a + 1,_,k + 1),⟨by simp; omega,kept_new hc (by omega) hk (can_of h2),fun b hb => ?_⟩,by simp; omega,map_same (kept_new hc (by omega) hk (can_of h2)).1,nx⟩⟩,fun h2 => ⟨by omega,by omega,del_es hk.1 rfl rfl,(a + 1,_,k),⟨by simp; omega,kept_old hc (by omega) hk (can_of h2),fun b hb => ?_⟩,by simp; omega,map_same (kept_old hc (by omega) hk (can_of h2)).1,nx⟩⟩
   · have e6 : lbF l 101 0 = some a := lb_at (by rw [can_of h2,h3]; rfl) 101 0 (by omega) (by omega) fun b _ hb => x3 b hb
     rw [bdVal,bdErr,e6]
   · by_cases e : b = a
     · rw [e,h3,Bool.and_false]
     · exact x3 b (by simp only at hb; omega)
   · by_cases e : b = a
     · rw [e,can_of h2,Bool.false_and]
     · exact x3 b (by simp only at hb; omega)
 · have e6 : lbF l 101 0 = none := lb_no 101 0 fun b _ hb => hx.2.2 b (by omega)
   rw [bdVal,bdErr,e6]
theorem bd0E_ok {l : List Int} {c : Nat} : VOk Try.prog (bd0E l c) := VOk.ofCt (CtOk.none.add ibCt_ok)
theorem bdE_ok {l : List Int} {c : Nat} {zl : List Int} : VOk Try.prog (bdE l c zl) := ⟨CtOk.none,ccOr_ok (ccIn_ok E0_ok mixed (inl_one Try.func93)) (ccIn_ok (chE_ok bd0E_ok) mixed (inl_one Try.func104)),E0_ok.yc,E0_ok.orc⟩
theorem bd_call (l : List Int) (c : Nat) (zl : List Int) (hc : Coins l) : Call Try.prog 79 [ptr0 1] [ros l,tillO l.length c zl] fun v H' => v = .tuple #[vi (bdVal l),vi (bdErr l)]∧H' = [ros l,tillO l.length c zl] :=
 Call.ofVcR (E := bdE l c zl) (H := [ros l,tillO l.length c zl]) (args := [ptr0 1]) (σ := fun b => b) (v2 := .tuple #[vi (bdVal l),vi (bdErr l)]) (H2 := [ros l,tillO l.length c zl]) bdE_ok mixed (c := bdB) (inv := fun _ => none) Try.func79 (by kernel_rfl) (cast (by kernel_rfl) (bdV_ok l c zl hc))
noncomputable def bdCt (l : List Int) (c : Nat) : List Value→Heap→Option (Option Prop × Value × Heap × List Nat) := fun args H => match args with
 | [.pointer (some ⟨1,0,none⟩)] => some (some (AtZ l c H∧Coins l),.tuple #[vi (bdVal l),vi (bdErr l)],H,[])
 | _ => none
theorem bdCt_ok {l : List Int} {c : Nat} : ∀ args H φ v H' k,bdCt l c args H = some (φ,v,H',k)→Asks φ→Call Try.prog 79 args H (fun v' H2 => v' = v∧H2 = H')∧Kept H H' k := fun args H φ v H' k h hφ => by
 unfold bdCt at h
 split at h <;> cases h
 obtain ⟨⟨zl,hA⟩,hc⟩ := hφ
 exact ⟨till_frame (rest := []) hA rfl (bd_call l c zl hc) (by simp [sc,sc2,sc1,sc0]),Kept.refl _ _⟩
end Go.Pier.Fl
