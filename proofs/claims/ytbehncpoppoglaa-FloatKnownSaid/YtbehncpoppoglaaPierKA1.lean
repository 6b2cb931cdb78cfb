import Derived.Test.YtbehncpoppoglaaPierZI
import Derived.IntWalk
import Derived.Test.YtbehncpoppoglaaPierW
set_option linter.unusedSimpArgs false
set_option linter.unusedVariables false
namespace Go.Pier
open Go
variable {P : Program} {ρ : Ren} {H H' : Heap} {w : World} {N n : Nat} {F : Fr} {a : Act}
def fresVar (P : Program) (F : Fr) (H : Heap) : ResultVar→Option (List Prop × Value)
 | .tmp k => match F.get k with | some v => some ([],v) | none => none
 | .cell k ty => match F.get k with
   | some (.pointer (some p)) => match symLoad P H ty p with
     | some (none,v) => some ([],v)
     | some (some φ,v) => some ([φ],v)
     | none => none
   | _ => none
def AskAll : List Prop→Prop
 | [] => True
 | φ :: r => Ob φ∧AskAll r
theorem AskAll.append : ∀ {a b : List Prop},AskAll (a ++ b)→AskAll a∧AskAll b
 | [],_,h => ⟨trivial,h⟩
 | _ :: _,_,h => ⟨⟨h.1,(AskAll.append h.2).1⟩,(AskAll.append h.2).2⟩
def fress (P : Program) (F : Fr) (H : Heap) : List ResultVar→Option (List Prop × List Value)
 | [] => some ([],[])
 | r :: rs => match fresVar P F H r,fress P F H rs with
   | some (φ,v),some (ψ,vs) => some (φ ++ ψ,v :: vs)
   | _,_ => none
def fresults (P : Program) (fn : Func) (F : Fr) (H : Heap) : Option (List Prop × Value) :=
 match fress P F H fn.results.toList with
 | some (φ,vs) => match vs with
   | [v] => some (φ,v)
   | vs => match vs.all (sc2 H.length) with | true => some (φ,.tuple vs.toArray) | false => none
 | none => none
theorem fresults_sound (R : Rel ρ H w) (hF : FrOk N H.length ρ F a) {fn : Func} {φ : List Prop} {v : Value} (h : fresults P fn F H = some (φ,v)) (hφ : AskAll φ) :
   (results fn a.tmps).run P w = .ok (ren ρ v) w∧sc H.length v = true := by
 have hf : ∀ (r : ResultVar) (φ : List Prop) (u : Value),fresVar P F H r = some (φ,u)→AskAll φ→((match r with | .tmp k => pure (a.tmps.getD k undef) | .cell a' ty => do loadVar ty (← asAddr (a.tmps.getD a' undef)) : Sem Value)).run P w = .ok (ren ρ u) w∧sc H.length u = true := by
   intro r φ u hu hφ
   cases r with
   | tmp k =>
     simp only [fresVar] at hu
     split at hu <;> simp only [Option.some.injEq,Prod.mk.injEq,reduceCtorEq] at hu
     rename_i v hv
     obtain ⟨rfl,rfl⟩ := hu
     obtain ⟨h1,h2⟩ := hF.val k _ hv
     exact ⟨by simp [h1],h2⟩
   | cell k ty =>
     simp only [fresVar] at hu
     split at hu <;> try (cases hu; done)
     rename_i p hp
     obtain ⟨ψ,hs,hψ⟩ : ∃ ψ,symLoad P H ty p = some (ψ,u)∧Asks ψ := by
       split at hu <;> simp only [Option.some.injEq,Prod.mk.injEq,reduceCtorEq] at hu
       · rename_i v hv; obtain ⟨rfl,rfl⟩ := hu; exact ⟨_,hv,trivial⟩
       · rename_i φ' v hv; obtain ⟨rfl,rfl⟩ := hu; exact ⟨_,hv,hφ.1.out⟩
     obtain ⟨k1,k2⟩ := aloadVar_sound (P := P) R (symLoad_sound hs hψ)
     refine ⟨?_,sc_of_sc2 k2⟩
     have e : a.tmps.getD k undef = .pointer (some (ρ.addr p)) := by rw [(hF.val k _ hp).1]; rfl
     simp only [e,asAddr,Sem.run_bind,Sem.run_pure,Result.andThen_ok,k1]
 have key : ∀ (rs : List ResultVar) (φ : List Prop) (l : List Value), fress P F H rs = some (φ, l) → AskAll φ →
     (rs.mapM fun r => (match r with | .tmp k => pure (a.tmps.getD k undef) | .cell a' ty => do loadVar ty (← asAddr (a.tmps.getD a' undef)) : Sem Value)).run P w = .ok (l.map (ren ρ)) w∧l.all (sc H.length) = true := by
   intro rs
   induction rs with
   | nil => intro φ l hl _; cases hl; exact ⟨by simp,rfl⟩
   | cons r rs ih =>
     intro φ l hl hφ
     simp only [fress] at hl
     split at hl <;> simp only [Option.some.injEq,Prod.mk.injEq,reduceCtorEq] at hl
     rename_i φ1 u ψ l' hu hl'
     obtain ⟨rfl,rfl⟩ := hl
     obtain ⟨a1,a2⟩ := hf r _ u hu (AskAll.append hφ).1
     obtain ⟨b1,b2⟩ := ih _ l' hl' (AskAll.append hφ).2
     refine ⟨?_,by simp [a2,b2]⟩
     simp only [List.mapM_cons,Sem.run_bind,a1,Result.andThen_ok,b1,Sem.run_pure,List.map_cons]
 unfold fresults at h
 split at h <;> try (cases h; done)
 rename_i ψ vs hvs
 have hψ : AskAll ψ := by
   split at h
   · simp only [Option.some.injEq,Prod.mk.injEq] at h; rw [h.1]; exact hφ
   · split at h <;> simp only [Option.some.injEq,Prod.mk.injEq,reduceCtorEq] at h
     rw [h.1]; exact hφ
 obtain ⟨k1,k2⟩ := key _ _ _ hvs hψ
 have hm : (results fn a.tmps).run P w = .ok (if h : (vs.map (ren ρ)).toArray.size = 1 then (vs.map (ren ρ)).toArray[0] else .tuple (vs.map (ren ρ)).toArray) w := by
   unfold results
   rw [Array.mapM_eq_mapM_toList]
   simp only [Sem.run_bind,Sem.run_map,Sem.run_pure]
   erw [k1]
   rfl
 rw [hm]
 split at h
 · simp only [Option.some.injEq,Prod.mk.injEq] at h
   obtain ⟨_,rfl⟩ := h
   refine ⟨by simp,by simpa using k2⟩
 · rename_i hne
   split at h <;> simp only [Option.some.injEq,Prod.mk.injEq,reduceCtorEq] at h
   rename_i hall
   obtain ⟨_,rfl⟩ := h
   refine ⟨?_,by simpa [sc] using hall⟩
   have hlen : ¬ (vs.map (ren ρ)).toArray.size = 1 := by
     simp only [List.size_toArray,List.length_map]
     intro hl
     obtain ⟨u,hu⟩ := List.length_eq_one_iff.1 hl
     exact hne u hu
   rw [dif_neg hlen]
   have e : vs.map (ren ρ) = vs.map (ren2 ρ) := List.map_congr_left fun u hu => ren_of_sc2 (List.all_eq_true.1 hall u hu)
   rw [e]
   simp [ren]
def retK (P : Program) (fn : Func) (R : Value→Heap→Prop) : KD := fun x _ F H =>
 match x with
 | .exit _ => False
 | _ => match fresults P fn F H with
   | some (φ,v) => AskAll φ∧Ob (R v H)
   | none => False
def argFr : Nat→List Value→Fr
 | _,[] => []
 | i,v :: r => (i,v) :: argFr (i + 1) r
theorem argFr_get : ∀ (l : List Value) (i k : Nat) (v : Value),(argFr i l).get k = some v→i≤k∧l[k - i]? = some v
 | [],_,_,_,h => by cases h
 | u :: l,i,k,v,h => by
   rw [argFr,Fr.get_cons] at h
   split at h
   · rename_i e; subst e; cases h; simp
   · rename_i hne
     obtain ⟨h1,h2⟩ := argFr_get l (i + 1) k v h
     refine ⟨by omega,?_⟩
     rw [show k - i = (k - (i + 1)) + 1 by omega]
     simpa using h2
theorem Call.ofBody {E : VEnv} (hct : VOk P E) (hm : P.follows .mixedOrders = true) {f : FuncId} {fn : Func} {c : Code} {args : List Value} {inv : Nat→Option LInv} {R : Value→Heap→Prop} {K : KD} (hf : P.funcs[f]? = some fn) (hb : fn.body = some c)
   (hK : ∀ x D F' H',K x D F' H'→(x = .normal∨x = .ret)∧∃ φ v,fresults P fn F' H' = some (φ,v)∧AskAll φ∧R v H')
   (h : vc P E H.length (args.length + (fn.ntmps - args.length)) true inv c [] (argFr 0 args) H K) : Call P f args H R := fun ρ w RR hs => by
 refine (callsIn_wide (n := 0)).1 (callsIn_of_wp_marks hf hb trivial ?_)
 have hsz : (args.map (ren ρ)).toArray.size = args.length := by simp
 let a : Act := { tmps := (args.map (ren ρ)).toArray ++ Array.replicate (fn.ntmps - (args.map (ren ρ)).toArray.size) undef,defers := [] }
 have hFr : FrOk (args.length + (fn.ntmps - args.length)) H.length ρ (argFr 0 args) a := by
   refine ⟨by simp [a],fun k v hk => ?_⟩
   obtain ⟨_,h2⟩ := argFr_get args 0 k v hk
   rw [Nat.sub_zero] at h2
   have hlt := (List.getElem?_eq_some_iff.1 h2).1
   refine ⟨?_,List.all_eq_true.1 hs v (List.mem_of_getElem? h2)⟩
   rw [Array.getD_eq_getD_getElem?,Array.getElem?_append_left (by simpa using hlt)]
   simp [h2]
 have hA : At (args.length + (fn.ntmps - args.length)) w.heap.size ρ H w H (argFr 0 args) a w := ⟨ρ,RR,Ext.refl _ _ _,hFr,⟨Nat.le_refl _,List.Pairwise.nil,by simp [a]⟩⟩
 refine wpIn_mono (F := Fence.wide) (n := 0) (vc_sound hct hm (ro := none) c [] _ H _ h w.heap.size ρ H w a w rfl hA) ?_
 rintro e a' w' ⟨x,F',H',rfl,⟨D,hk⟩,hA'⟩
 have key : (∃ φ v,fresults P fn F' H' = some (φ,v)∧AskAll φ∧R v H')→LeavesInM Fence.wide 0 P fn a'.tmps (fun e w' => ∃ ρ' v H',e = .returned (ren ρ' v)∧R v H'∧Rel ρ' H' w'∧Ext ρ H w ρ' H' w'∧sc H'.length v = true) a'.defers .returning w' := by
   rintro ⟨φ,v,h1,h2,h3⟩
   obtain ⟨ρ',R',X',hF',M'⟩ := hA'.ex
   refine leaves (fun w2 R2 X2 => ?_) a'.defers w' R' X' M'
   obtain ⟨r1,r2⟩ := fresults_sound (P := P) (w := w2) R2 hF' h1 h2
   exact ⟨_,r1,ρ',v,H',rfl,h3,R2,X2,r2⟩
 obtain ⟨hx,hr⟩ := hK x D F' H' hk
 cases x with
 | normal => exact key hr
 | ret => exact key hr
 | exit id => rcases hx with hx | hx <;> cases hx
theorem Call.ofVc {E : VEnv} (hct : VOk P E) (hm : P.follows .mixedOrders = true) {f : FuncId} {fn : Func} {c : Code} {args : List Value} {inv : Nat→Option LInv} {R : Value→Heap→Prop} (hf : P.funcs[f]? = some fn) (hb : fn.body = some c)
   (h : vc P E H.length (args.length + (fn.ntmps - args.length)) true inv c [] (argFr 0 args) H (retK P fn R)) : Call P f args H R :=
 Call.ofBody hct hm hf hb (fun x D F' H' hr => by
   have hr' : (x = .normal∨x = .ret)∧(match fresults P fn F' H' with | some (φ,v) => AskAll φ∧Ob (R v H') | none => False) := by
     cases x with
     | normal => exact ⟨.inl rfl,hr⟩
     | ret => exact ⟨.inr rfl,hr⟩
     | exit id => exact hr.elim
   refine ⟨hr'.1,?_⟩
   have hr' := hr'.2
   split at hr'
   · rename_i φ v he; exact ⟨φ,v,he,hr'.1,hr'.2.out⟩
   · exact hr'.elim) h
def retR (P : Program) (fn : Func) (n0 : Nat) (σ : Nat→Nat) (v2 : Value) (H2 : Heap) : KD := fun x _ F H =>
 match x with
 | .exit _ => False
 | _ => match fresults P fn F H with
   | some (φ,v) => match φ with
     | [] => Reach n0 σ [(0,v)] H [(0,v2)] H2
     | φ => AskAll φ∧Reach n0 σ [(0,v)] H [(0,v2)] H2
   | none => False
theorem Call.ofVcR {E : VEnv} (hct : VOk P E) (hm : P.follows .mixedOrders = true) {f : FuncId} {fn : Func} {c : Code} {args : List Value} {inv : Nat→Option LInv} {σ : Nat→Nat} {v2 : Value} {H2 : Heap} (hf : P.funcs[f]? = some fn) (hb : fn.body = some c)
   (h : vc P E H.length (args.length + (fn.ntmps - args.length)) true inv c [] (argFr 0 args) H (retR P fn H.length σ v2 H2)) : Call P f args H fun v H' => v = v2∧H' = H2 :=
 Call.anew ((Call.ofBody hct hm hf hb (R := fun v H' => Reach H.length σ [(0,v)] H' [(0,v2)] H2) (fun x D F' H' hr => by
   have hr' : (x = .normal∨x = .ret)∧(match fresults P fn F' H' with | some (φ,v) => (match φ with | [] => Reach H.length σ [(0,v)] H' [(0,v2)] H2 | φ => AskAll φ∧Reach H.length σ [(0,v)] H' [(0,v2)] H2) | none => False) := by
     cases x with
     | normal => exact ⟨.inl rfl,hr⟩
     | ret => exact ⟨.inr rfl,hr⟩
     | exit id => exact hr.elim
   refine ⟨hr'.1,?_⟩
   have hr' := hr'.2
   split at hr'
   · rename_i φ v he
     refine ⟨φ,v,he,?_⟩
     split at hr'
     · exact ⟨trivial,hr'⟩
     · exact hr'
   · exact hr'.elim) h).mono fun v H1 hr => by
     obtain ⟨a,b⟩ := hr.anew
     obtain ⟨b1,b2⟩ := b 0 v2 rfl
     exact ⟨σ,v2,H2,a,Option.some.inj b1,b2,rfl,rfl⟩)
def retC (P : Program) (fn : Func) (R : Value→Heap→Prop) : KD := fun x _ F H =>
 match x with
 | .exit _ => False
 | _ => match fresults P fn F H with
   | some (φ,v) => match φ with
     | [] => R v H
     | φ => AskAll φ∧R v H
   | none => False
structure InlE where
 f : Nat
 fn : Func
 inv : List Value→Heap→Nat→Option LInv := fun _ _ _ => none
def ccIn (P : Program) (E : VEnv) : List InlE→Cc
 | [],_,_,_ => none
 | e :: r,f,args,H => match Nat.beq e.f f with
   | true => match e.fn.body with
     | some c => some fun Q => vc P E H.length (args.length + (e.fn.ntmps - args.length)) true (e.inv args H) c [] (argFr 0 args) H (retC P e.fn Q)
     | none => none
   | false => ccIn P E r f args H
theorem ccIn_ok {E : VEnv} (hE : VOk P E) (hm : P.follows .mixedOrders = true) : ∀ {l : List InlE},(∀ e ∈ l,P.funcs[e.f]? = some e.fn)→CcOk P (ccIn P E l)
 | [],_,_,_,_,_,h => by cases h
 | e :: r,hl,f,args,H,T,h => fun Q hT => by
   unfold ccIn at h
   split at h
   · rename_i hf
     have hf := Nat.eq_of_beq_eq_true hf
     subst hf
     split at h <;> cases h
     rename_i c hc
     refine Call.ofBody hE hm (hl e List.mem_cons_self) hc (fun x D F' H' hr => ?_) hT
     have hr' : (x = .normal∨x = .ret)∧(match fresults P e.fn F' H' with | some (φ,v) => (match φ with | [] => Q v H' | φ => AskAll φ∧Q v H') | none => False) := by
       cases x with
       | normal => exact ⟨.inl rfl,hr⟩
       | ret => exact ⟨.inr rfl,hr⟩
       | exit id => exact hr.elim
     refine ⟨hr'.1,?_⟩
     have hr' := hr'.2
     split at hr'
     · rename_i φ v he
       refine ⟨φ,v,he,?_⟩
       split at hr'
       · exact ⟨trivial,hr'⟩
       · exact hr'
     · exact hr'.elim
   · exact ccIn_ok hE hm (fun e he => hl e (List.mem_cons_of_mem _ he)) f args H T h Q hT
def ccOr (a b : Cc) : Cc := fun f args H => match a f args H with | some T => some T | none => b f args H
theorem ccOr_ok {a b : Cc} (ha : CcOk P a) (hb : CcOk P b) : CcOk P (ccOr a b) := fun f args H T h => by
 unfold ccOr at h
 split at h
 · rename_i T' hT; cases h; exact ha f args H _ hT
 · exact hb f args H T h
def isNormal : AExit→Bool | .normal => true | _ => false
theorem isNormal_eq (x : AExit) : isNormal x = decide (x = .normal) := by cases x <;> rfl
def allLt (n : Nat) : List Nat→Bool
 | [] => true
 | k :: r => Nat.blt k n && allLt n r
theorem allLt_ok {n : Nat} : ∀ {l : List Nat},allLt n l = true→∀ k ∈ l,k < n
 | [],_,k,hk => by cases hk
 | j :: r,h,k,hk => by
   simp only [allLt,Bool.and_eq_true,Nat.blt_eq] at h
   rcases List.mem_cons.1 hk with rfl | hk
   · exact h.1
   · exact allLt_ok h.2 k hk
def yBody (P : Program) (E : VEnv) (n0 N : Nat) (inv : Nat→Option LInv) (b : Nat) (body : Code) (Q : Value→Heap→Prop) : KD := fun x D F1 H1 =>
 match x with
 | .normal => match H1[b]? with
   | some (.loop st pend t p a c) => match st,pend with
     | .ready,none => vc P E n0 N false inv body [] F1 (H1.set b (.loop .busy none t p a c)) fun x _ _ H3 => match H3[b]? with
       | some (.loop st pend t p a c) => match st,pend with
         | .busy,none => Q (.bool (isNormal x)) (H3.set b (roundEnd x t p a c))
         | _,_ => False
       | _ => False
     | _,_ => False
   | _ => False
 | _ => False
def ycIn (P : Program) (E : VEnv) (inv : Nat→Option LInv) : Yc := fun b args H => match H[b]? with
 | some (.loop st pend t ps assign body) => match st,pend with
   | .ready,none => match Nat.beq args.length ps.size && allLt t.size ps.toList with
     | true => some fun Q => vc P E H.length t.size false inv assign [] (frPuts (frOf 0 t.toList) (ps.toList.zip args)) H (yBody P E H.length t.size inv b body Q)
     | false => none
   | _,_ => none
 | _ => none
theorem ycIn_ok {E : VEnv} (hE : VOk P E) (hm : P.follows .mixedOrders = true) {inv : Nat→Option LInv} : YcOk P (ycIn P E inv) := fun b args H T h Q hT => by
 unfold ycIn at h
 split at h <;> try (cases h; done)
 rename_i st pend t ps assign body hb
 split at h <;> try (cases h; done)
 split at h <;> cases h
 rename_i hc
 simp only [Bool.and_eq_true] at hc
 refine Yield.ofVW hb (Nat.eq_of_beq_eq_true hc.1) (allLt_ok hc.2) fun l => (vc_sound hE hm (ro := some l) assign [] _ H _ hT).mono ?_
 rintro x F1 H1 ⟨D,hq⟩
 unfold yBody at hq
 split at hq <;> try (exact hq.elim)
 split at hq <;> try (exact hq.elim)
 rename_i st1 pend1 t1 p1 a1 c1 hb1
 split at hq <;> try (exact hq.elim)
 refine ⟨rfl,t1,p1,a1,c1,hb1,(vc_sound hE hm (ro := some l) body [] _ _ _ hq).mono ?_⟩
 rintro x F3 H3 ⟨D,hq⟩
 split at hq <;> try (exact hq.elim)
 rename_i st3 pend3 t3 p3 a3 c3 hb3
 split at hq <;> try (exact hq.elim)
 exact ⟨t3,p3,a3,c3,hb3,by rw [← isNormal_eq]; exact hq⟩
end Go.Pier
namespace Go.Pier
open Go
theorem ob_iff {p : Prop} : Ob p ↔ p := ⟨Ob.out,Ob.mk⟩
theorem map_nmap_int {σ : Nat→Nat} {k : IntKind} {l : List Int} : (l.map (Value.int k)).map (nmap1 σ) = l.map (Value.int k) := by
 rw [List.map_map]; exact List.map_congr_left fun _ _ => rfl
theorem all_sc_int {n : Nat} {k : IntKind} {l : List Int} : (l.map (Value.int k)).all (sc1 n) = true := by
 rw [List.all_map]; exact List.all_eq_true.2 fun _ _ => rfl
theorem sc_ro_int {n : Nat} {k : IntKind} {l : List Int} : AObj.sc n (.ro (l.map (Value.int k))) = true := all_sc_int
theorem sc_rw_int {n : Nat} {k : IntKind} {l : List Int} {r : Option Nat} : AObj.sc n (.rw (l.map (Value.int k)) r) = true := all_sc_int
theorem wrap_in {x : Int} (h1 : -9223372036854775808≤x) (h2 : x≤9223372036854775807) : IntKind.i64.wrap x = x := IntWalk.i64_in _ ⟨h1,h2⟩
end Go.Pier
namespace Go.Pier
open Go
variable {P : Program} {ρ : Ren} {H : Heap} {w : World}
def Still (H : Heap) : Prop := ∀ b,wr H b = false
theorem Still.nil : Still [] := fun b => by simp [wr]
theorem Still.push {o : AObj} (h : Still H) (ho : o.wr = false) : Still (H ++ [o]) := fun b => by
 rcases Nat.lt_trichotomy b H.length with hb | hb | hb
 · rw [wr_append_lt hb]; exact h b
 · subst hb; rw [wr_of_get (get_append_new H o)]; exact ho
 · cases hw : wr (H ++ [o]) b with
   | false => rfl
   | true => have := wr_lt hw; simp at this; omega
theorem Rel.bind (R : Rel ρ H w) (hst : Still H) {o : AObj} {p off k : Nat} (ho : o.wr = false) (hs : o.sc (H.length + 1) = true) (hn : ObjOk (ρ.bind H.length p off k) H.length w o) : Rel (ρ.bind H.length p off k) (H ++ [o]) w := by
 have hag := Ren.bind_agree ρ H.length p off k
 have hst' := hst.push (o := o) ho
 refine ⟨fun b o' hb => ?_,fun b b' hb => ?_,fun b b' _ hb' => ?_,fun b b' _ hb' => ?_,fun b o' hb => ?_⟩
 · have hlt := (List.getElem?_eq_some_iff.1 hb).1
   simp at hlt
   rcases Nat.lt_or_ge b H.length with h | h
   · rw [List.getElem?_append_left h] at hb
     exact (R.obj b o' hb).move hag h (R.scp b o' hb) (.inr rfl) (Below'.refl _ _ _ _)
   · have : b = H.length := by omega
     subst this
     rw [get_append_new] at hb
     cases hb
     exact hn
 · rw [hst' b] at hb; cases hb
 · rw [hst' b'] at hb'; cases hb'
 · rw [hst' b'] at hb'; cases hb'
 · have hlt := (List.getElem?_eq_some_iff.1 hb).1
   simp at hlt
   rcases Nat.lt_or_ge b H.length with h | h
   · rw [List.getElem?_append_left h] at hb
     exact AObj.sc_mono (by simp) (R.scp b o' hb)
   · have : b = H.length := by omega
     subst this
     rw [get_append_new] at hb
     cases hb
     simpa using hs
theorem Rel.bindRo (R : Rel ρ H w) (hst : Still H) {cs : List Value} {p off : Nat} (hp : p < w.heap.size) (hs : cs.all (sc1 H.length) = true) (hc : ∀ (i : Nat) (v : Value),cs[i]? = some v→w.cell? ⟨p,off + i,none⟩ = some (ren1 ρ v)) :
   Rel (ρ.bind H.length p off) (H ++ [.ro cs]) w := by
 refine R.bind hst rfl (List.all_eq_true.2 fun v hv => sc1_mono (Nat.le_succ _) (List.all_eq_true.1 hs v hv)) ⟨by simpa [Ren.bind] using hp,fun i v hi => ?_⟩
 rw [ren1_agree (Ren.bind_agree ρ H.length p off 0) (cells_sc hs hi),← hc i v hi]
 simp [Ren.bind]
theorem Rel.bindGone (R : Rel ρ H w) (hst : Still H) (p off k : Nat) : Rel (ρ.bind H.length p off k) (H ++ [.gone]) w := R.bind hst rfl rfl trivial
theorem Still.kept {ρ' : Ren} {H' : Heap} {w' : World} (h : Still H) (X : Ext ρ H w ρ' H' w') : ∀ k,k < w.heap.size→w'.heap[k]? = w.heap[k]? := fun k hk => X.keep k hk fun b hb => by rw [h b] at hb; cases hb
variable {K : Type}
def Reads (P : Program) (H : Heap) : Nat→TypeId→List Value→DataW K→Prop
 | 0,_,_,_ => False
 | f + 1,t,acs,d => match P.underlying t with
   | some .bool => ∃ b,acs = [.bool b]∧d = .lit (.bool b)
   | some (.int k) => ∃ n,acs = [.int k n]∧(Lit.int k n).wf = true∧d = .lit (.int k n)
   | some (.slice e) => (acs = [.slice none 0 0] ∧ d = .nil) ∨ (∃ b k, acs = [.slice (some ⟨b, 0, some k⟩) 0 1] ∧ d = .slice [] []) ∨
       ∃ b len cap cells ds sp,acs = [.slice (some ⟨b,0,none⟩) len cap]∧len≤cap∧cap≤maxLen∧d = .slice ds sp∧ds.length = len∧(len = 0∨H[b]? = some (.ro cells))∧cells.length = len * P.cellsOf e ∧
         ∀ i,i < len→∃ di,ds[i]? = some di∧Reads P H f e ((cells.drop (i * P.cellsOf e)).take (P.cellsOf e)) di
   | some (.struct fs) => ∃ ds : List (DataW K),d = .agg ds∧ds.length = fs.size∧∀ (i : Nat) (g : Field),fs.toList[i]? = some g→∃ di,ds[i]? = some di∧Reads P H f g.type ((acs.drop g.offset).take (P.cellsOf g.type)) di
   | _ => False
theorem Reads.more {X : Heap} : ∀ (f : Nat) {t : TypeId} {acs : List Value} {d : DataW K},Reads P H f t acs d→Reads P (H ++ X) f t acs d
 | 0,_,_,_,h => h
 | f + 1,t,acs,d,h => by
   unfold Reads at h ⊢
   split at h
   · exact h
   · exact h
   · rename_i e hu
     rcases h with h | h | ⟨b,len,cap,cells,ds,sp,h1,h2,h2',h3,h4,h5,h6,h7⟩
     · exact .inl h
     · exact .inr (.inl h)
     · refine .inr (.inr ⟨b,len,cap,cells,ds,sp,h1,h2,h2',h3,h4,?_,h6,fun i hi => ?_⟩)
       · rcases h5 with h5 | h5
         · exact .inl h5
         · exact .inr (by rw [List.getElem?_append_left (List.getElem?_eq_some_iff.1 h5).1]; exact h5)
       · obtain ⟨di,k1,k2⟩ := h7 i hi
         exact ⟨di,k1,k2.more f⟩
   · obtain ⟨ds,h1,h2,h3⟩ := h
     refine ⟨ds,h1,h2,fun i g hg => ?_⟩
     obtain ⟨di,k1,k2⟩ := h3 i g hg
     exact ⟨di,k1,k2.more f⟩
   · exact h
structure Got (P : Program) (w : World) (ρ : Ren) (H : Heap) (ρ' : Ren) (H' : Heap) : Prop where
 ext : ∃ X,H' = H ++ X
 agree : Agree H.length ρ ρ'
 rel : Rel ρ' H' w
 still : Still H'
theorem Got.refl (R : Rel ρ H w) (h : Still H) : Got P w ρ H ρ H := ⟨⟨[],by simp⟩,Agree.refl _ _,R,h⟩
theorem Got.trans {ρ1 ρ2 : Ren} {H1 H2 : Heap} (h : Got P w ρ H ρ1 H1) (k : Got P w ρ1 H1 ρ2 H2) : Got P w ρ H ρ2 H2 := by
 obtain ⟨X,rfl⟩ := h.ext
 obtain ⟨Y,rfl⟩ := k.ext
 exact ⟨⟨X ++ Y,by simp⟩,h.agree.trans k.agree (by simp),k.rel,k.still⟩
theorem Got.len {ρ1 : Ren} {H1 : Heap} (h : Got P w ρ H ρ1 H1) : H.length≤H1.length := by obtain ⟨X,rfl⟩ := h.ext; simp
section
variable {enc : TypeId × Value→K} {held : Bool}
end
end Go.Pier
namespace Go.Pier
open Go
variable {P : Program} {ρ : Ren} {H H' : Heap} {w : World} {f : FuncId} {args args0 : List Value} {H0 : Heap}
theorem Rel.keep {w' : World} (R : Rel ρ H w) (hsz : w.heap.size≤w'.heap.size) (hk : ∀ k,k < w.heap.size→w'.heap[k]? = w.heap[k]?) : Rel ρ H w' :=
 ⟨fun b o hb => by
   have h := R.obj b o hb
   have hlt := (List.getElem?_eq_some_iff.1 hb).1
   cases ho : o with
   | gone => trivial
   | _ =>
     rw [← ho]
     refine ObjOk.move (Agree.refl H.length ρ) hlt (R.scp b o hb) ?_ (Below'.of hsz fun cs e k hk' => hk k (by subst e; have := h.2.1; omega)) h
     by_cases hg : o = .gone
     · exact .inl hg
     · right
       refine hk _ ?_
       subst ho
       first
         | exact Nat.lt_of_lt_of_le h.1 h.2.1
         | exact h.1
         | (obtain ⟨_,cs',t,h1,_⟩ := h; exact (Array.getElem?_eq_some_iff.1 h1).1)
         | exact (Array.getElem?_eq_some_iff.1 h).1
         | exact (Array.getElem?_eq_some_iff.1 h.2).1
         | (obtain ⟨fn,df,h1⟩ := h; exact (Array.getElem?_eq_some_iff.1 h1).1),R.inj,R.sep,R.deep,R.scp⟩
theorem Ext.keep' {w' : World} (hsz : w.heap.size≤w'.heap.size) (hk : ∀ k,k < w.heap.size→w'.heap[k]? = w.heap[k]?) (h1 : w'.os = w.os) (h2 : w'.tape = w.tape) (h3 : w'.output = w.output) : Ext ρ H w ρ H w' :=
 ⟨Nat.le_refl _,fun _ _ => ⟨rfl,rfl,rfl⟩,hsz,fun k hk' _ => hk k hk',fun _ h => .inl h,fun _ h => .inl h,fun _ h => h,h1,h2,h3⟩
def intOf : Value→Int | .int _ n => n | _ => 0
def intsOf (cs : List Value) : List Int := cs.map intOf
theorem intsOf_map {k : IntKind} {l : List Int} : intsOf (l.map (.int k)) = l := by
 unfold intsOf
 rw [List.map_map]
 exact List.map_id' l
def cellsOf (H : Heap) (b : Nat) : Option (List Value) := match H[b]? with
 | some (.ro cs) => some cs
 | some (.rw cs _) => some cs
 | _ => none
def sliceInts (k : IntKind) (H : Heap) (v : Value) : Option (Prop × List Int) :=
 match v with
 | .slice (some a) n c => match cellsOf H a.block with
   | some cs => some ((cs.drop a.off).take n = (((intsOf cs).drop a.off).take n).map (.int k)∧a.off + n≤cs.length∧std a c = true,((intsOf cs).drop a.off).take n)
   | none => none
 | _ => none
theorem cellsOf_at (R : Rel ρ H w) {b : Nat} {cs : List Value} (h : cellsOf H b = some cs) : ρ.φ b < w.heap.size∧∀ (i : Nat) (v : Value),cs[i]? = some v→w.cell? ⟨ρ.φ b,ρ.δ b + i,none⟩ = some (ren1 ρ v) := by
 unfold cellsOf at h
 split at h <;> cases h
 · rename_i hb
   exact R.obj _ _ hb
 · rename_i r hb
   obtain ⟨_,cs',t,h1,h2,_⟩ := R.obj _ _ hb
   refine ⟨(Array.getElem?_eq_some_iff.1 h1).1,fun i v hi => ?_⟩
   simp only [World.cell?,h1]
   exact h2 i v hi
theorem Rel.handInts {ρ0 : Ren} (R : Rel ρ H w) (R0 : Rel ρ0 H0 w) (hst : Still H0) {k : IntKind} {v : Value} {φ : Prop} {l : List Int} (h : sliceInts k H v = some (φ,l)) (hφ : φ) :
   ∃ (ρ1 : Ren) (c : Nat),Agree H0.length ρ0 ρ1∧Rel ρ1 (H0 ++ [.ro (l.map (.int k))]) w∧Still (H0 ++ [.ro (l.map (.int k))])∧ren ρ1 (.slice (some ⟨H0.length,0,none⟩) l.length c) = ren ρ v := by
 unfold sliceInts at h
 split at h <;> try (cases h; done)
 rename_i a n c
 split at h <;> simp only [Option.some.injEq,Prod.mk.injEq,reduceCtorEq] at h
 rename_i cs hc
 obtain ⟨rfl,rfl⟩ := h
 obtain ⟨h1,h2,h3⟩ := hφ
 obtain ⟨k1,k2⟩ := cellsOf_at R hc
 have hlen : (((intsOf cs).drop a.off).take n).length = n := by
   rw [List.length_take,List.length_drop,intsOf,List.length_map]; omega
 have hcell : ∀ (i : Nat) (u : Value),((((intsOf cs).drop a.off).take n).map (Value.int k))[i]? = some u→w.cell? ⟨ρ.φ a.block,ρ.δ a.block + a.off + i,none⟩ = some (ren1 ρ0 u) := by
   intro i u hi
   have hu : ∃ m,u = .int k m := by
     rw [List.getElem?_map,Option.map_eq_some_iff] at hi
     obtain ⟨m,_,rfl⟩ := hi
     exact ⟨m,rfl⟩
   obtain ⟨m,rfl⟩ := hu
   rw [← h1,List.getElem?_take] at hi
   split at hi <;> try (cases hi; done)
   rw [List.getElem?_drop] at hi
   have := k2 _ _ hi
   rw [← Nat.add_assoc] at this
   exact this
 refine ⟨ρ0.bind H0.length (ρ.φ a.block) (ρ.δ a.block + a.off),ρ.cap a c,Ren.bind_agree _ _ _ _ _,R0.bindRo hst k1 (by rw [List.all_map]; exact List.all_eq_true.2 fun _ _ => rfl) hcell,hst.push rfl,?_⟩
 rw [hlen]
 have e1 : ren ρ (.slice (some a) n c) = .slice (some (ρ.addr a)) n (ρ.cap a c) := by
   show Value.slice (some (ρ.adr a c)) n (ρ.cap a c) = _
   rw [adr_std h3]
 rw [e1]
 show Value.slice (some ((ρ0.bind H0.length (ρ.φ a.block) (ρ.δ a.block + a.off)).adr ⟨H0.length,0,none⟩ (ρ.cap a c))) n _ = _
 have e2 : (ρ0.bind H0.length (ρ.φ a.block) (ρ.δ a.block + a.off)).adr ⟨H0.length,0,none⟩ (ρ.cap a c) = ρ.addr a := by
   rw [adr_std (std_none rfl),Ren.bind_addr]
   rfl
 rw [e2]
 rfl
theorem Rel.handHole {ρ0 : Ren} (R0 : Rel ρ0 H0 w) (hst : Still H0) (ρ : Ren) (b c : Nat) (s : Option Nat) :
   ∃ ρ1 : Ren,Agree H0.length ρ0 ρ1∧Rel ρ1 (H0 ++ [.gone]) w∧Still (H0 ++ [.gone])∧ren ρ1 (.slice (some ⟨H0.length,0,s⟩) 0 c) = ren ρ (.slice (some ⟨b,0,s⟩) 0 c) := by
 refine ⟨ρ0.bind H0.length (ρ.φ b) (ρ.δ b) (ρ.κ b),Ren.bind_agree _ _ _ _ _,R0.bindGone hst _ _ _,hst.push rfl,?_⟩
 show Value.slice (some (Ren.adr _ _ _)) 0 (Ren.cap _ _ _) = Value.slice (some (Ren.adr _ _ _)) 0 (Ren.cap _ _ _)
 cases s with
 | none => simp [Ren.adr,Ren.cap,Ren.addr,Ren.bind]
 | some k => cases c <;> simp [Ren.adr,Ren.cap,Ren.addr,Ren.bind]
inductive Arg where
 | plain (v : Value)
 | ints (k : IntKind) (l : List Int)
 | hole (s : Option Nat)
def canonA (caps : Nat→Nat) : Nat→List Arg→List Value
 | _,[] => []
 | i,.plain v :: r => v :: canonA caps i r
 | i,.ints _ l :: r => .slice (some ⟨i,0,none⟩) l.length (caps i) :: canonA caps (i + 1) r
 | i,.hole s :: r => .slice (some ⟨i,0,s⟩) 0 (caps i) :: canonA caps (i + 1) r
def canonH : List Arg→Heap
 | [] => []
 | .plain _ :: r => canonH r
 | .ints k l :: r => .ro (l.map (.int k)) :: canonH r
 | .hole _ :: r => .gone :: canonH r
def ReadA (H : Heap) : List Arg→List Value→Prop
 | [],[] => True
 | .plain u :: r,v :: vs => u = v∧sc 0 v = true∧ReadA H r vs
 | .ints k l :: r,v :: vs => (∃ φ,sliceInts k H v = some (φ,l)∧φ)∧ReadA H r vs
 | .hole s :: r,v :: vs => (∃ b c,v = .slice (some ⟨b,0,s⟩) 0 c)∧ReadA H r vs
 | _,_ => False
theorem canonA_congr {c c' : Nat→Nat} : ∀ (as : List Arg) (i : Nat),(∀ j,i≤j→c j = c' j)→canonA c i as = canonA c' i as
 | [],_,_ => rfl
 | .plain v :: r,i,h => by rw [canonA,canonA,canonA_congr r i h]
 | .ints k l :: r,i,h => by rw [canonA,canonA,canonA_congr r (i + 1) fun j hj => h j (by omega),h i (Nat.le_refl _)]
 | .hole s :: r,i,h => by rw [canonA,canonA,canonA_congr r (i + 1) fun j hj => h j (by omega),h i (Nat.le_refl _)]
theorem handAll (R : Rel ρ H w) : ∀ (as : List Arg) (vs : List Value) (ρ0 : Ren) (H0 : Heap),ReadA H as vs→Rel ρ0 H0 w→Still H0 →
   ∃ (ρ1 : Ren) (caps : Nat→Nat),Agree H0.length ρ0 ρ1∧Rel ρ1 (H0 ++ canonH as) w∧Still (H0 ++ canonH as)∧(canonA caps H0.length as).map (ren ρ1) = vs.map (ren ρ)∧(canonA caps H0.length as).all (sc (H0 ++ canonH as).length) = true
 | [],[],ρ0,H0,_,R0,hst => ⟨ρ0,fun _ => 0,Agree.refl _ _,by simpa [canonH] using R0,by simpa [canonH] using hst,rfl,rfl⟩
 | [],_ :: _,_,_,h,_,_ => h.elim
 | .plain u :: r,[],_,_,h,_,_ => h.elim
 | .ints k l :: r,[],_,_,h,_,_ => h.elim
 | .hole s :: r,[],_,_,h,_,_ => h.elim
 | .plain u :: r,v :: vs,ρ0,H0,h,R0,hst => by
   obtain ⟨rfl,h1,h2⟩ := h
   obtain ⟨ρ1,caps,k1,k2,k3,k4,k5⟩ := handAll R r vs ρ0 H0 h2 R0 hst
   refine ⟨ρ1,caps,k1,k2,k3,?_,?_⟩
   · simp only [canonA,List.map_cons,k4,ren_closed h1]
   · simp only [canonA,List.all_cons,Bool.and_eq_true]
     exact ⟨sc_mono (Nat.zero_le _) h1,k5⟩
 | .ints k l :: r,v :: vs,ρ0,H0,h,R0,hst => by
   obtain ⟨⟨φ,h1,hφ⟩,h2⟩ := h
   obtain ⟨ρ1,c,a1,R1,s1,e1⟩ := R.handInts R0 hst h1 hφ
   obtain ⟨ρ2,caps,a2,R2,s2,e2,e3⟩ := handAll R r vs ρ1 (H0 ++ [.ro (l.map (.int k))]) h2 R1 s1
   have hlen : (H0 ++ [AObj.ro (l.map (Value.int k))]).length = H0.length + 1 := by simp
   have happ : H0 ++ [AObj.ro (l.map (Value.int k))] ++ canonH r = H0 ++ canonH (.ints k l :: r) := by simp [canonH]
   rw [happ] at R2 s2 e3
   rw [hlen] at e2 e3 a2
   have hsc : sc (H0.length + 1) (.slice (some ⟨H0.length,0,none⟩) l.length c) = true := by
     show decide (H0.length < H0.length + 1) = true
     simp
   refine ⟨ρ2,fun j => if j = H0.length then c else caps j,a1.trans a2 (by omega),R2,s2,?_,?_⟩
   · simp only [canonA,List.map_cons,if_true]
     rw [canonA_congr (c' := caps) r _ fun j hj => if_neg (by omega),e2,ren_agree a2 hsc,e1]
   · simp only [canonA,List.all_cons,Bool.and_eq_true,if_true]
     rw [canonA_congr (c' := caps) r _ fun j hj => if_neg (by omega)]
     refine ⟨sc_mono ?_ hsc,e3⟩
     simp [canonH]
 | .hole s :: r,v :: vs,ρ0,H0,h,R0,hst => by
   obtain ⟨⟨b,c,rfl⟩,h2⟩ := h
   obtain ⟨ρ1,a1,R1,s1,e1⟩ := R0.handHole hst ρ b c s
   obtain ⟨ρ2,caps,a2,R2,s2,e2,e3⟩ := handAll R r vs ρ1 (H0 ++ [.gone]) h2 R1 s1
   have hlen : (H0 ++ [AObj.gone]).length = H0.length + 1 := by simp
   have happ : H0 ++ [AObj.gone] ++ canonH r = H0 ++ canonH (.hole s :: r) := by simp [canonH]
   rw [happ] at R2 s2 e3
   rw [hlen] at e2 e3 a2
   have hsc : sc (H0.length + 1) (.slice (some ⟨H0.length,0,s⟩) 0 c) = true := by
     show decide (H0.length < H0.length + 1) = true
     simp
   refine ⟨ρ2,fun j => if j = H0.length then c else caps j,a1.trans a2 (by omega),R2,s2,?_,?_⟩
   · simp only [canonA,List.map_cons,if_true]
     rw [canonA_congr (c' := caps) r _ fun j hj => if_neg (by omega),e2,ren_agree a2 hsc,e1]
   · simp only [canonA,List.all_cons,Bool.and_eq_true,if_true]
     rw [canonA_congr (c' := caps) r _ fun j hj => if_neg (by omega)]
     refine ⟨sc_mono ?_ hsc,e3⟩
     simp [canonH]
theorem Call.ofArgs {v0 : Value} {as : List Arg} {vs : List Value} (h : ∀ caps,Call P f (canonA caps 0 as) (canonH as) fun v _ => v = v0) (hv : sc 0 v0 = true) (hr : ReadA H as vs) : Call P f vs H fun v H' => v = v0∧H' = H := fun ρ w R _ => by
 have R00 : Rel ρ [] w := ⟨fun b o hb => by simp at hb,fun b b' hb => by simp [wr] at hb,fun b b' hb => by simp [isRo] at hb,fun b b' hb => by simp [isMix] at hb,fun b o hb => by simp at hb⟩
 obtain ⟨ρ0,caps,_,R0,hst,e,s0⟩ := handAll R as vs ρ [] hr R00 Still.nil
 simp only [List.nil_append,List.length_nil] at R0 hst e s0
 have := h caps ρ0 w R0 s0
 rw [e] at this
 refine this.mono ?_
 rintro e' w' ⟨ρ',v,H',rfl,rfl,R',X,s'⟩
 have hk := hst.kept X
 exact ⟨ρ,v,H,by rw [ren_closed hv,ren_closed hv],⟨rfl,rfl⟩,R.keep X.size hk,Ext.keep' X.size hk X.os X.tape X.output,sc_mono (Nat.zero_le _) hv⟩
end Go.Pier
namespace Go.Pier
open Go
variable {P : Program} {ρ : Ren} {H H' : Heap} {w : World} {f : FuncId}
def plainNew (N : Heap) : Prop := ∀ (j : Nat) (o : AObj),N[j]? = some o→o = .gone∨∃ cs r,o = .rw cs r∧cs.all (sc1 0) = true
def Alike (k : Nat) (ρ : Ren) (b : Nat) (ρ' : Ren) (c : Nat) : Prop := ∀ j,j < k→ρ.φ (b + j) = ρ'.φ (c + j)∧ρ.δ (b + j) = ρ'.δ (c + j)∧ρ.κ (b + j) = ρ'.κ (c + j)
end Go.Pier
