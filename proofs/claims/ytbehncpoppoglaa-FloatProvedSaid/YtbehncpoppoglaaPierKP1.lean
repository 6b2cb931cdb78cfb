import Derived.Test.YtbehncpoppoglaaPierZI
import Derived.IntWalk
import Derived.Test.YtbehncpoppoglaaPierW
import Derived.WalkKit
import Derived.ProofKit
import Derived.OpenShut
import Derived.Carry
import Derived.WideShapes
set_option linter.unusedSimpArgs false
set_option linter.unusedVariables false
namespace Go.Pier
open Go
variable {P : Program} {ρ : Ren} {H H' : Heap} {w : World} {N n : Nat} {F : Fr} {a : Act}
def fresVar (P : Program) (F : Fr) (H : Heap) : ResultVar→Option (List Prop × Value)
 | .tmp k => match F.get k with | some v => some ([],v) | none => none
 | .cell k ty => match F.get k with
   | some (.pointer (some p)) => match symLoad P H ty p with
     | some (none,v) => some ([],v)
     | some (some φ,v) => some ([φ],v)
     | none => none
   | _ => none
def AskAll : List Prop→Prop
 | [] => True
 | φ :: r => Ob φ∧AskAll r
theorem AskAll.append : ∀ {a b : List Prop},AskAll (a ++ b)→AskAll a∧AskAll b
 | [],_,h => ⟨trivial,h⟩
 | _ :: _,_,h => ⟨⟨h.1,(AskAll.append h.2).1⟩,(AskAll.append h.2).2⟩
def fress (P : Program) (F : Fr) (H : Heap) : List ResultVar→Option (List Prop × List Value)
 | [] => some ([],[])
 | r :: rs => match fresVar P F H r,fress P F H rs with
   | some (φ,v),some (ψ,vs) => some (φ ++ ψ,v :: vs)
   | _,_ => none
def fresults (P : Program) (fn : Func) (F : Fr) (H : Heap) : Option (List Prop × Value) :=
 match fress P F H fn.results.toList with
 | some (φ,vs) => match vs with
   | [v] => some (φ,v)
   | vs => match vs.all (sc2 H.length) with | true => some (φ,.tuple vs.toArray) | false => none
 | none => none
theorem fresults_sound (R : Rel ρ H w) (hF : FrOk N H.length ρ F a) {fn : Func} {φ : List Prop} {v : Value} (h : fresults P fn F H = some (φ,v)) (hφ : AskAll φ) :
   (results fn a.tmps).run P w = .ok (ren ρ v) w∧sc H.length v = true := by
 have hf : ∀ (r : ResultVar) (φ : List Prop) (u : Value),fresVar P F H r = some (φ,u)→AskAll φ→((match r with | .tmp k => pure (a.tmps.getD k undef) | .cell a' ty => do loadVar ty (← asAddr (a.tmps.getD a' undef)) : Sem Value)).run P w = .ok (ren ρ u) w∧sc H.length u = true := by
   intro r φ u hu hφ
   cases r with
   | tmp k =>
     simp only [fresVar] at hu
     split at hu <;> simp only [Option.some.injEq,Prod.mk.injEq,reduceCtorEq] at hu
     rename_i v hv
     obtain ⟨rfl,rfl⟩ := hu
     obtain ⟨h1,h2⟩ := hF.val k _ hv
     exact ⟨by simp [h1],h2⟩
   | cell k ty =>
     simp only [fresVar] at hu
     split at hu <;> try (cases hu; done)
     rename_i p hp
     obtain ⟨ψ,hs,hψ⟩ : ∃ ψ,symLoad P H ty p = some (ψ,u)∧Asks ψ := by
       split at hu <;> simp only [Option.some.injEq,Prod.mk.injEq,reduceCtorEq] at hu
       · rename_i v hv; obtain ⟨rfl,rfl⟩ := hu; exact ⟨_,hv,trivial⟩
       · rename_i φ' v hv; obtain ⟨rfl,rfl⟩ := hu; exact ⟨_,hv,hφ.1.out⟩
     obtain ⟨k1,k2⟩ := aloadVar_sound (P := P) R (symLoad_sound hs hψ)
     refine ⟨?_,sc_of_sc2 k2⟩
     have e : a.tmps.getD k undef = .pointer (some (ρ.addr p)) := by rw [(hF.val k _ hp).1]; rfl
     simp only [e,asAddr,Sem.run_bind,Sem.run_pure,Result.andThen_ok,k1]
 have key : ∀ (rs : List ResultVar) (φ : List Prop) (l : List Value), fress P F H rs = some (φ, l) → AskAll φ →
     (rs.mapM fun r => (match r with | .tmp k => pure (a.tmps.getD k undef) | .cell a' ty => do loadVar ty (← asAddr (a.tmps.getD a' undef)) : Sem Value)).run P w = .ok (l.map (ren ρ)) w∧l.all (sc H.length) = true := by
   intro rs
   induction rs with
   | nil => intro φ l hl _; cases hl; exact ⟨by simp,rfl⟩
   | cons r rs ih =>
     intro φ l hl hφ
     simp only [fress] at hl
     split at hl <;> simp only [Option.some.injEq,Prod.mk.injEq,reduceCtorEq] at hl
     rename_i φ1 u ψ l' hu hl'
     obtain ⟨rfl,rfl⟩ := hl
     obtain ⟨a1,a2⟩ := hf r _ u hu (AskAll.append hφ).1
     obtain ⟨b1,b2⟩ := ih _ l' hl' (AskAll.append hφ).2
     refine ⟨?_,by simp [a2,b2]⟩
     simp only [List.mapM_cons,Sem.run_bind,a1,Result.andThen_ok,b1,Sem.run_pure,List.map_cons]
 unfold fresults at h
 split at h <;> try (cases h; done)
 rename_i ψ vs hvs
 have hψ : AskAll ψ := by
   split at h
   · simp only [Option.some.injEq,Prod.mk.injEq] at h; rw [h.1]; exact hφ
   · split at h <;> simp only [Option.some.injEq,Prod.mk.injEq,reduceCtorEq] at h
     rw [h.1]; exact hφ
 obtain ⟨k1,k2⟩ := key _ _ _ hvs hψ
 have hm : (results fn a.tmps).run P w = .ok (if h : (vs.map (ren ρ)).toArray.size = 1 then (vs.map (ren ρ)).toArray[0] else .tuple (vs.map (ren ρ)).toArray) w := by
   unfold results
   rw [Array.mapM_eq_mapM_toList]
   simp only [Sem.run_bind,Sem.run_map,Sem.run_pure]
   erw [k1]
   rfl
 rw [hm]
 split at h
 · simp only [Option.some.injEq,Prod.mk.injEq] at h
   obtain ⟨_,rfl⟩ := h
   refine ⟨by simp,by simpa using k2⟩
 · rename_i hne
   split at h <;> simp only [Option.some.injEq,Prod.mk.injEq,reduceCtorEq] at h
   rename_i hall
   obtain ⟨_,rfl⟩ := h
   refine ⟨?_,by simpa [sc] using hall⟩
   have hlen : ¬ (vs.map (ren ρ)).toArray.size = 1 := by
     simp only [List.size_toArray,List.length_map]
     intro hl
     obtain ⟨u,hu⟩ := List.length_eq_one_iff.1 hl
     exact hne u hu
   rw [dif_neg hlen]
   have e : vs.map (ren ρ) = vs.map (ren2 ρ) := List.map_congr_left fun u hu => ren_of_sc2 (List.all_eq_true.1 hall u hu)
   rw [e]
   simp [ren]
def retK (P : Program) (fn : Func) (R : Value→Heap→Prop) : KD := fun x _ F H =>
 match x with
 | .exit _ => False
 | _ => match fresults P fn F H with
   | some (φ,v) => AskAll φ∧Ob (R v H)
   | none => False
def argFr : Nat→List Value→Fr
 | _,[] => []
 | i,v :: r => (i,v) :: argFr (i + 1) r
theorem argFr_get : ∀ (l : List Value) (i k : Nat) (v : Value),(argFr i l).get k = some v→i≤k∧l[k - i]? = some v
 | [],_,_,_,h => by cases h
 | u :: l,i,k,v,h => by
   rw [argFr,Fr.get_cons] at h
   split at h
   · rename_i e; subst e; cases h; simp
   · rename_i hne
     obtain ⟨h1,h2⟩ := argFr_get l (i + 1) k v h
     refine ⟨by omega,?_⟩
     rw [show k - i = (k - (i + 1)) + 1 by omega]
     simpa using h2
theorem Call.ofBody {E : VEnv} (hct : VOk P E) (hm : P.follows .mixedOrders = true) {f : FuncId} {fn : Func} {c : Code} {args : List Value} {inv : Nat→Option LInv} {R : Value→Heap→Prop} {K : KD} (hf : P.funcs[f]? = some fn) (hb : fn.body = some c)
   (hK : ∀ x D F' H',K x D F' H'→(x = .normal∨x = .ret)∧∃ φ v,fresults P fn F' H' = some (φ,v)∧AskAll φ∧R v H')
   (h : vc P E H.length (args.length + (fn.ntmps - args.length)) true inv c [] (argFr 0 args) H K) : Call P f args H R := fun ρ w RR hs => by
 refine (callsIn_wide (n := 0)).1 (callsIn_of_wp_marks hf hb trivial ?_)
 have hsz : (args.map (ren ρ)).toArray.size = args.length := by simp
 let a : Act := { tmps := (args.map (ren ρ)).toArray ++ Array.replicate (fn.ntmps - (args.map (ren ρ)).toArray.size) undef,defers := [] }
 have hFr : FrOk (args.length + (fn.ntmps - args.length)) H.length ρ (argFr 0 args) a := by
   refine ⟨by simp [a],fun k v hk => ?_⟩
   obtain ⟨_,h2⟩ := argFr_get args 0 k v hk
   rw [Nat.sub_zero] at h2
   have hlt := (List.getElem?_eq_some_iff.1 h2).1
   refine ⟨?_,List.all_eq_true.1 hs v (List.mem_of_getElem? h2)⟩
   rw [Array.getD_eq_getD_getElem?,Array.getElem?_append_left (by simpa using hlt)]
   simp [h2]
 have hA : At (args.length + (fn.ntmps - args.length)) w.heap.size ρ H w H (argFr 0 args) a w := ⟨ρ,RR,Ext.refl _ _ _,hFr,⟨Nat.le_refl _,List.Pairwise.nil,by simp [a]⟩⟩
 refine wpIn_mono (F := Fence.wide) (n := 0) (vc_sound hct hm (ro := none) c [] _ H _ h w.heap.size ρ H w a w rfl hA) ?_
 rintro e a' w' ⟨x,F',H',rfl,⟨D,hk⟩,hA'⟩
 have key : (∃ φ v,fresults P fn F' H' = some (φ,v)∧AskAll φ∧R v H')→LeavesInM Fence.wide 0 P fn a'.tmps (fun e w' => ∃ ρ' v H',e = .returned (ren ρ' v)∧R v H'∧Rel ρ' H' w'∧Ext ρ H w ρ' H' w'∧sc H'.length v = true) a'.defers .returning w' := by
   rintro ⟨φ,v,h1,h2,h3⟩
   obtain ⟨ρ',R',X',hF',M'⟩ := hA'.ex
   refine leaves (fun w2 R2 X2 => ?_) a'.defers w' R' X' M'
   obtain ⟨r1,r2⟩ := fresults_sound (P := P) (w := w2) R2 hF' h1 h2
   exact ⟨_,r1,ρ',v,H',rfl,h3,R2,X2,r2⟩
 obtain ⟨hx,hr⟩ := hK x D F' H' hk
 cases x with
 | normal => exact key hr
 | ret => exact key hr
 | exit id => rcases hx with hx | hx <;> cases hx
theorem Call.ofVc {E : VEnv} (hct : VOk P E) (hm : P.follows .mixedOrders = true) {f : FuncId} {fn : Func} {c : Code} {args : List Value} {inv : Nat→Option LInv} {R : Value→Heap→Prop} (hf : P.funcs[f]? = some fn) (hb : fn.body = some c)
   (h : vc P E H.length (args.length + (fn.ntmps - args.length)) true inv c [] (argFr 0 args) H (retK P fn R)) : Call P f args H R :=
 Call.ofBody hct hm hf hb (fun x D F' H' hr => by
   have hr' : (x = .normal∨x = .ret)∧(match fresults P fn F' H' with | some (φ,v) => AskAll φ∧Ob (R v H') | none => False) := by
     cases x with
     | normal => exact ⟨.inl rfl,hr⟩
     | ret => exact ⟨.inr rfl,hr⟩
     | exit id => exact hr.elim
   refine ⟨hr'.1,?_⟩
   have hr' := hr'.2
   split at hr'
   · rename_i φ v he; exact ⟨φ,v,he,hr'.1,hr'.2.out⟩
   · exact hr'.elim) h
def retR (P : Program) (fn : Func) (n0 : Nat) (σ : Nat→Nat) (v2 : Value) (H2 : Heap) : KD := fun x _ F H =>
 match x with
 | .exit _ => False
 | _ => match fresults P fn F H with
   | some (φ,v) => match φ with
     | [] => Reach n0 σ [(0,v)] H [(0,v2)] H2
     | φ => AskAll φ∧Reach n0 σ [(0,v)] H [(0,v2)] H2
   | none => False
theorem Call.ofVcR {E : VEnv} (hct : VOk P E) (hm : P.follows .mixedOrders = true) {f : FuncId} {fn : Func} {c : Code} {args : List Value} {inv : Nat→Option LInv} {σ : Nat→Nat} {v2 : Value} {H2 : Heap} (hf : P.funcs[f]? = some fn) (hb : fn.body = some c)
   (h : vc P E H.length (args.length + (fn.ntmps - args.length)) true inv c [] (argFr 0 args) H (retR P fn H.length σ v2 H2)) : Call P f args H fun v H' => v = v2∧H' = H2 :=
 Call.anew ((Call.ofBody hct hm hf hb (R := fun v H' => Reach H.length σ [(0,v)] H' [(0,v2)] H2) (fun x D F' H' hr => by
   have hr' : (x = .normal∨x = .ret)∧(match fresults P fn F' H' with | some (φ,v) => (match φ with | [] => Reach H.length σ [(0,v)] H' [(0,v2)] H2 | φ => AskAll φ∧Reach H.length σ [(0,v)] H' [(0,v2)] H2) | none => False) := by
     cases x with
     | normal => exact ⟨.inl rfl,hr⟩
     | ret => exact ⟨.inr rfl,hr⟩
     | exit id => exact hr.elim
   refine ⟨hr'.1,?_⟩
   have hr' := hr'.2
   split at hr'
   · rename_i φ v he
     refine ⟨φ,v,he,?_⟩
     split at hr'
     · exact ⟨trivial,hr'⟩
     · exact hr'
   · exact hr'.elim) h).mono fun v H1 hr => by
     obtain ⟨a,b⟩ := hr.anew
     obtain ⟨b1,b2⟩ := b 0 v2 rfl
     exact ⟨σ,v2,H2,a,Option.some.inj b1,b2,rfl,rfl⟩)
def retC (P : Program) (fn : Func) (R : Value→Heap→Prop) : KD := fun x _ F H =>
 match x with
 | .exit _ => False
 | _ => match fresults P fn F H with
   | some (φ,v) => match φ with
     | [] => R v H
     | φ => AskAll φ∧R v H
   | none => False
structure InlE where
 f : Nat
 fn : Func
 inv : List Value→Heap→Nat→Option LInv := fun _ _ _ => none
def ccIn (P : Program) (E : VEnv) : List InlE→Cc
 | [],_,_,_ => none
 | e :: r,f,args,H => match Nat.beq e.f f with
   | true => match e.fn.body with
     | some c => some fun Q => vc P E H.length (args.length + (e.fn.ntmps - args.length)) true (e.inv args H) c [] (argFr 0 args) H (retC P e.fn Q)
     | none => none
   | false => ccIn P E r f args H
theorem ccIn_ok {E : VEnv} (hE : VOk P E) (hm : P.follows .mixedOrders = true) : ∀ {l : List InlE},(∀ e ∈ l,P.funcs[e.f]? = some e.fn)→CcOk P (ccIn P E l)
 | [],_,_,_,_,_,h => by cases h
 | e :: r,hl,f,args,H,T,h => fun Q hT => by
   unfold ccIn at h
   split at h
   · rename_i hf
     have hf := Nat.eq_of_beq_eq_true hf
     subst hf
     split at h <;> cases h
     rename_i c hc
     refine Call.ofBody hE hm (hl e List.mem_cons_self) hc (fun x D F' H' hr => ?_) hT
     have hr' : (x = .normal∨x = .ret)∧(match fresults P e.fn F' H' with | some (φ,v) => (match φ with | [] => Q v H' | φ => AskAll φ∧Q v H') | none => False) := by
       cases x with
       | normal => exact ⟨.inl rfl,hr⟩
       | ret => exact ⟨.inr rfl,hr⟩
       | exit id => exact hr.elim
     refine ⟨hr'.1,?_⟩
     have hr' := hr'.2
     split at hr'
     · rename_i φ v he
       refine ⟨φ,v,he,?_⟩
       split at hr'
       · exact ⟨trivial,hr'⟩
       · exact hr'
     · exact hr'.elim
   · exact ccIn_ok hE hm (fun e he => hl e (List.mem_cons_of_mem _ he)) f args H T h Q hT
def ccOr (a b : Cc) : Cc := fun f args H => match a f args H with | some T => some T | none => b f args H
theorem ccOr_ok {a b : Cc} (ha : CcOk P a) (hb : CcOk P b) : CcOk P (ccOr a b) := fun f args H T h => by
 unfold ccOr at h
 split at h
 · rename_i T' hT; cases h; exact ha f args H _ hT
 · exact hb f args H T h
def isNormal : AExit→Bool | .normal => true | _ => false
theorem isNormal_eq (x : AExit) : isNormal x = decide (x = .normal) := by cases x <;> rfl
def allLt (n : Nat) : List Nat→Bool
 | [] => true
 | k :: r => Nat.blt k n && allLt n r
theorem allLt_ok {n : Nat} : ∀ {l : List Nat},allLt n l = true→∀ k ∈ l,k < n
 | [],_,k,hk => by cases hk
 | j :: r,h,k,hk => by
   simp only [allLt,Bool.and_eq_true,Nat.blt_eq] at h
   rcases List.mem_cons.1 hk with rfl | hk
   · exact h.1
   · exact allLt_ok h.2 k hk
def yBody (P : Program) (E : VEnv) (n0 N : Nat) (inv : Nat→Option LInv) (b : Nat) (body : Code) (Q : Value→Heap→Prop) : KD := fun x D F1 H1 =>
 match x with
 | .normal => match H1[b]? with
   | some (.loop st pend t p a c) => match st,pend with
     | .ready,none => vc P E n0 N false inv body [] F1 (H1.set b (.loop .busy none t p a c)) fun x _ _ H3 => match H3[b]? with
       | some (.loop st pend t p a c) => match st,pend with
         | .busy,none => Q (.bool (isNormal x)) (H3.set b (roundEnd x t p a c))
         | _,_ => False
       | _ => False
     | _,_ => False
   | _ => False
 | _ => False
def ycIn (P : Program) (E : VEnv) (inv : Nat→Option LInv) : Yc := fun b args H => match H[b]? with
 | some (.loop st pend t ps assign body) => match st,pend with
   | .ready,none => match Nat.beq args.length ps.size && allLt t.size ps.toList with
     | true => some fun Q => vc P E H.length t.size false inv assign [] (frPuts (frOf 0 t.toList) (ps.toList.zip args)) H (yBody P E H.length t.size inv b body Q)
     | false => none
   | _,_ => none
 | _ => none
theorem ycIn_ok {E : VEnv} (hE : VOk P E) (hm : P.follows .mixedOrders = true) {inv : Nat→Option LInv} : YcOk P (ycIn P E inv) := fun b args H T h Q hT => by
 unfold ycIn at h
 split at h <;> try (cases h; done)
 rename_i st pend t ps assign body hb
 split at h <;> try (cases h; done)
 split at h <;> cases h
 rename_i hc
 simp only [Bool.and_eq_true] at hc
 refine Yield.ofVW hb (Nat.eq_of_beq_eq_true hc.1) (allLt_ok hc.2) fun l => (vc_sound hE hm (ro := some l) assign [] _ H _ hT).mono ?_
 rintro x F1 H1 ⟨D,hq⟩
 unfold yBody at hq
 split at hq <;> try (exact hq.elim)
 split at hq <;> try (exact hq.elim)
 rename_i st1 pend1 t1 p1 a1 c1 hb1
 split at hq <;> try (exact hq.elim)
 refine ⟨rfl,t1,p1,a1,c1,hb1,(vc_sound hE hm (ro := some l) body [] _ _ _ hq).mono ?_⟩
 rintro x F3 H3 ⟨D,hq⟩
 split at hq <;> try (exact hq.elim)
 rename_i st3 pend3 t3 p3 a3 c3 hb3
 split at hq <;> try (exact hq.elim)
 exact ⟨t3,p3,a3,c3,hb3,by rw [← isNormal_eq]; exact hq⟩
end Go.Pier
namespace Go.Pier
open Go
theorem ob_iff {p : Prop} : Ob p ↔ p := ⟨Ob.out,Ob.mk⟩
theorem map_nmap_int {σ : Nat→Nat} {k : IntKind} {l : List Int} : (l.map (Value.int k)).map (nmap1 σ) = l.map (Value.int k) := by
 rw [List.map_map]; exact List.map_congr_left fun _ _ => rfl
theorem all_sc_int {n : Nat} {k : IntKind} {l : List Int} : (l.map (Value.int k)).all (sc1 n) = true := by
 rw [List.all_map]; exact List.all_eq_true.2 fun _ _ => rfl
theorem sc_ro_int {n : Nat} {k : IntKind} {l : List Int} : AObj.sc n (.ro (l.map (Value.int k))) = true := all_sc_int
theorem sc_rw_int {n : Nat} {k : IntKind} {l : List Int} {r : Option Nat} : AObj.sc n (.rw (l.map (Value.int k)) r) = true := all_sc_int
theorem wrap_in {x : Int} (h1 : -9223372036854775808≤x) (h2 : x≤9223372036854775807) : IntKind.i64.wrap x = x := IntWalk.i64_in _ ⟨h1,h2⟩
end Go.Pier
namespace Go.Pier
open Go
variable {P : Program} {ρ : Ren} {H : Heap} {w : World}
def Still (H : Heap) : Prop := ∀ b,wr H b = false
theorem Still.nil : Still [] := fun b => by simp [wr]
theorem Still.push {o : AObj} (h : Still H) (ho : o.wr = false) : Still (H ++ [o]) := fun b => by
 rcases Nat.lt_trichotomy b H.length with hb | hb | hb
 · rw [wr_append_lt hb]; exact h b
 · subst hb; rw [wr_of_get (get_append_new H o)]; exact ho
 · cases hw : wr (H ++ [o]) b with
   | false => rfl
   | true => have := wr_lt hw; simp at this; omega
theorem Rel.bind (R : Rel ρ H w) (hst : Still H) {o : AObj} {p off k : Nat} (ho : o.wr = false) (hs : o.sc (H.length + 1) = true) (hn : ObjOk (ρ.bind H.length p off k) H.length w o) : Rel (ρ.bind H.length p off k) (H ++ [o]) w := by
 have hag := Ren.bind_agree ρ H.length p off k
 have hst' := hst.push (o := o) ho
 refine ⟨fun b o' hb => ?_,fun b b' hb => ?_,fun b b' _ hb' => ?_,fun b b' _ hb' => ?_,fun b o' hb => ?_⟩
 · have hlt := (List.getElem?_eq_some_iff.1 hb).1
   simp at hlt
   rcases Nat.lt_or_ge b H.length with h | h
   · rw [List.getElem?_append_left h] at hb
     exact (R.obj b o' hb).move hag h (R.scp b o' hb) (.inr rfl) (Below'.refl _ _ _ _)
   · have : b = H.length := by omega
     subst this
     rw [get_append_new] at hb
     cases hb
     exact hn
 · rw [hst' b] at hb; cases hb
 · rw [hst' b'] at hb'; cases hb'
 · rw [hst' b'] at hb'; cases hb'
 · have hlt := (List.getElem?_eq_some_iff.1 hb).1
   simp at hlt
   rcases Nat.lt_or_ge b H.length with h | h
   · rw [List.getElem?_append_left h] at hb
     exact AObj.sc_mono (by simp) (R.scp b o' hb)
   · have : b = H.length := by omega
     subst this
     rw [get_append_new] at hb
     cases hb
     simpa using hs
theorem Rel.bindRo (R : Rel ρ H w) (hst : Still H) {cs : List Value} {p off : Nat} (hp : p < w.heap.size) (hs : cs.all (sc1 H.length) = true) (hc : ∀ (i : Nat) (v : Value),cs[i]? = some v→w.cell? ⟨p,off + i,none⟩ = some (ren1 ρ v)) :
   Rel (ρ.bind H.length p off) (H ++ [.ro cs]) w := by
 refine R.bind hst rfl (List.all_eq_true.2 fun v hv => sc1_mono (Nat.le_succ _) (List.all_eq_true.1 hs v hv)) ⟨by simpa [Ren.bind] using hp,fun i v hi => ?_⟩
 rw [ren1_agree (Ren.bind_agree ρ H.length p off 0) (cells_sc hs hi),← hc i v hi]
 simp [Ren.bind]
theorem Rel.bindGone (R : Rel ρ H w) (hst : Still H) (p off k : Nat) : Rel (ρ.bind H.length p off k) (H ++ [.gone]) w := R.bind hst rfl rfl trivial
theorem Still.kept {ρ' : Ren} {H' : Heap} {w' : World} (h : Still H) (X : Ext ρ H w ρ' H' w') : ∀ k,k < w.heap.size→w'.heap[k]? = w.heap[k]? := fun k hk => X.keep k hk fun b hb => by rw [h b] at hb; cases hb
variable {K : Type}
def Reads (P : Program) (H : Heap) : Nat→TypeId→List Value→DataW K→Prop
 | 0,_,_,_ => False
 | f + 1,t,acs,d => match P.underlying t with
   | some .bool => ∃ b,acs = [.bool b]∧d = .lit (.bool b)
   | some (.int k) => ∃ n,acs = [.int k n]∧(Lit.int k n).wf = true∧d = .lit (.int k n)
   | some (.slice e) => (acs = [.slice none 0 0] ∧ d = .nil) ∨ (∃ b k, acs = [.slice (some ⟨b, 0, some k⟩) 0 1] ∧ d = .slice [] []) ∨
       ∃ b len cap cells ds sp,acs = [.slice (some ⟨b,0,none⟩) len cap]∧len≤cap∧cap≤maxLen∧d = .slice ds sp∧ds.length = len∧(len = 0∨H[b]? = some (.ro cells))∧cells.length = len * P.cellsOf e ∧
         ∀ i,i < len→∃ di,ds[i]? = some di∧Reads P H f e ((cells.drop (i * P.cellsOf e)).take (P.cellsOf e)) di
   | some (.struct fs) => ∃ ds : List (DataW K),d = .agg ds∧ds.length = fs.size∧∀ (i : Nat) (g : Field),fs.toList[i]? = some g→∃ di,ds[i]? = some di∧Reads P H f g.type ((acs.drop g.offset).take (P.cellsOf g.type)) di
   | _ => False
theorem Reads.more {X : Heap} : ∀ (f : Nat) {t : TypeId} {acs : List Value} {d : DataW K},Reads P H f t acs d→Reads P (H ++ X) f t acs d
 | 0,_,_,_,h => h
 | f + 1,t,acs,d,h => by
   unfold Reads at h ⊢
   split at h
   · exact h
   · exact h
   · rename_i e hu
     rcases h with h | h | ⟨b,len,cap,cells,ds,sp,h1,h2,h2',h3,h4,h5,h6,h7⟩
     · exact .inl h
     · exact .inr (.inl h)
     · refine .inr (.inr ⟨b,len,cap,cells,ds,sp,h1,h2,h2',h3,h4,?_,h6,fun i hi => ?_⟩)
       · rcases h5 with h5 | h5
         · exact .inl h5
         · exact .inr (by rw [List.getElem?_append_left (List.getElem?_eq_some_iff.1 h5).1]; exact h5)
       · obtain ⟨di,k1,k2⟩ := h7 i hi
         exact ⟨di,k1,k2.more f⟩
   · obtain ⟨ds,h1,h2,h3⟩ := h
     refine ⟨ds,h1,h2,fun i g hg => ?_⟩
     obtain ⟨di,k1,k2⟩ := h3 i g hg
     exact ⟨di,k1,k2.more f⟩
   · exact h
structure Got (P : Program) (w : World) (ρ : Ren) (H : Heap) (ρ' : Ren) (H' : Heap) : Prop where
 ext : ∃ X,H' = H ++ X
 agree : Agree H.length ρ ρ'
 rel : Rel ρ' H' w
 still : Still H'
theorem Got.refl (R : Rel ρ H w) (h : Still H) : Got P w ρ H ρ H := ⟨⟨[],by simp⟩,Agree.refl _ _,R,h⟩
theorem Got.trans {ρ1 ρ2 : Ren} {H1 H2 : Heap} (h : Got P w ρ H ρ1 H1) (k : Got P w ρ1 H1 ρ2 H2) : Got P w ρ H ρ2 H2 := by
 obtain ⟨X,rfl⟩ := h.ext
 obtain ⟨Y,rfl⟩ := k.ext
 exact ⟨⟨X ++ Y,by simp⟩,h.agree.trans k.agree (by simp),k.rel,k.still⟩
theorem Got.len {ρ1 : Ren} {H1 : Heap} (h : Got P w ρ H ρ1 H1) : H.length≤H1.length := by obtain ⟨X,rfl⟩ := h.ext; simp
theorem map_ren1_agree {n : Nat} {ρ ρ' : Ren} (h : Agree n ρ ρ') {l : List Value} (hl : l.all (sc1 n) = true) : l.map (ren1 ρ') = l.map (ren1 ρ) :=
 List.map_congr_left fun v hv => ren1_agree h (List.all_eq_true.1 hl v hv)
theorem all_sc1_mono {n m : Nat} (h : n≤m) {l : List Value} (hl : l.all (sc1 n) = true) : l.all (sc1 m) = true := List.all_eq_true.2 fun v hv => sc1_mono h (List.all_eq_true.1 hl v hv)
def fieldsFrom (P : Program) : List Field→Nat→Option Nat
 | [],n => some n
 | g :: gs,n => if g.offset = n then fieldsFrom P gs (n + P.cellsOf g.type) else none
def simple (P : Program) : Nat→TypeId→Bool
 | 0,_ => false
 | f + 1,t => match P.underlying t with
   | some .bool | some (.int _) => true
   | some (.slice e) => simple P f e && decide (0 < P.cellsOf e)
   | some (.struct fs) => fs.toList.all (fun g => simple P f g.type) && decide (fieldsFrom P fs.toList 0 = some (P.cellsOf t))
   | _ => false
theorem mapM_some {α β : Type} {f : α→Option β} : ∀ {l : List α} {xs : List β},l.mapM f = some xs→xs.length = l.length∧∀ (i : Nat) (a : α),l[i]? = some a→∃ x,xs[i]? = some x∧f a = some x
 | [],xs,h => by
   simp at h
   subst h
   exact ⟨rfl,fun i a hi => by simp at hi⟩
 | a :: l,xs,h => by
   rw [List.mapM_cons] at h
   simp only [Option.bind_eq_bind,Option.bind_eq_some_iff,Option.pure_def,Option.some.injEq] at h
   obtain ⟨x,h1,ys,h2,rfl⟩ := h
   obtain ⟨k1,k2⟩ := mapM_some h2
   refine ⟨by simp [k1],fun i b hi => ?_⟩
   cases i with
   | zero => simp at hi; subst hi; exact ⟨x,rfl,h1⟩
   | succ i => simpa using k2 i b (by simpa using hi)
theorem add_add (a : Addr) (m j : Nat) : (a.add m).add j = a.add (m + j) := by
 unfold Addr.add
 by_cases hm : m = 0
 · subst hm; simp
 · by_cases hj : j = 0
   · subst hj; simp [hm]
   · simp [hm,hj,Nat.add_assoc]
theorem cells_some {a : Addr} {n : Nat} {cs : List Value} (h : w.cells? 0 a n = some cs) : cs.length = n∧∀ (j : Nat) (v : Value),cs[j]? = some v→w.cell? (a.add j) = some v := by
 unfold World.cells? at h
 rw [if_pos (Nat.zero_le _)] at h
 obtain ⟨h1,h2⟩ := mapM_some h
 simp only [List.length_range] at h1
 refine ⟨h1,fun j v hj => ?_⟩
 have hlt := (List.getElem?_eq_some_iff.1 hj).1
 obtain ⟨x,k1,k2⟩ := h2 j j (by rw [List.getElem?_range (by omega)])
 rw [hj] at k1
 cases k1
 exact k2
section
variable {enc : TypeId × Value→K} {held : Bool}
def ReadOk (P : Program) (w : World) (enc : TypeId × Value→K) (held : Bool) (f : Nat) (t : TypeId) : Prop :=
 ∀ (cs : List Value) (d : DataW K) (ps : List MemPlace),DataW.trod enc P w 0 (fun _ => true) held f t cs = some (d,ps)→∀ (ρ : Ren) (H : Heap),Rel ρ H w→Still H →
   ∃ (ρ' : Ren) (H' : Heap) (acs : List Value),Got P w ρ H ρ' H'∧acs.map (ren1 ρ') = cs∧acs.all (sc1 H'.length) = true∧Reads P H' f t acs d
theorem row_ok {f : Nat} {e : TypeId} (ih : ReadOk P w enc held f e) {a : Addr} {len : Nat} {xs : List (DataW K × List MemPlace)}
   (hx : ∀ i,i < len→∃ x,xs[i]? = some x∧(w.cells? 0 (a.add (i * P.cellsOf e)) (P.cellsOf e)).bind (DataW.trod enc P w 0 (fun _ => true) held f e) = some x) (R : Rel ρ H w) (hst : Still H) : ∀ n,n≤len →
   ∃ (ρ' : Ren) (H' : Heap) (cells : List Value),Got P w ρ H ρ' H'∧cells.length = n * P.cellsOf e∧cells.all (sc1 H'.length) = true∧(∀ (j : Nat) (v : Value),cells[j]? = some v→w.cell? (a.add j) = some (ren1 ρ' v)) ∧
     ∀ i,i < n→∃ x,xs[i]? = some x∧Reads P H' f e ((cells.drop (i * P.cellsOf e)).take (P.cellsOf e)) x.1
 | 0,_ => ⟨ρ,H,[],Got.refl R hst,by simp,rfl,fun j v hj => by simp at hj,fun i hi => by omega⟩
 | n + 1,hn => by
   obtain ⟨ρ1,H1,cells,g1,l1,s1,r1,e1⟩ := row_ok ih hx R hst n (by omega)
   obtain ⟨x,hxn,hb⟩ := hx n (by omega)
   simp only [Option.bind_eq_some_iff] at hb
   obtain ⟨cs,hcs,htr⟩ := hb
   obtain ⟨c1,c2⟩ := cells_some hcs
   obtain ⟨ρ2,H2,acs,g2,m2,s2,r2⟩ := ih cs x.1 x.2 htr ρ1 H1 g1.rel g1.still
   have hacl : acs.length = P.cellsOf e := by rw [← c1,← m2,List.length_map]
   refine ⟨ρ2,H2,cells ++ acs,g1.trans g2,by rw [List.length_append,l1,hacl,Nat.add_mul,Nat.one_mul],by rw [List.all_append,all_sc1_mono g2.len s1,s2]; rfl,fun j v hj => ?_,fun i hi => ?_⟩
   · rcases Nat.lt_or_ge j cells.length with h | h
     · rw [List.getElem?_append_left h] at hj
       rw [r1 j v hj,ren1_agree g2.agree (cells_sc s1 hj)]
     · rw [List.getElem?_append_right h] at hj
       have := c2 (j - cells.length) (ren1 ρ2 v) (by rw [← m2,List.getElem?_map,hj]; rfl)
       rw [add_add,l1] at this
       rw [← this]
       congr 2
       omega
   · by_cases hin : i < n
     · obtain ⟨y,k1,k2⟩ := e1 i hin
       obtain ⟨X,rfl⟩ := g2.ext
       refine ⟨y,k1,?_⟩
       have hle : i * P.cellsOf e + P.cellsOf e≤cells.length := by
         rw [l1,← Nat.succ_mul]; exact Nat.mul_le_mul_right _ hin
       rw [List.drop_append_of_le_length (by omega),List.take_append_of_le_length (by rw [List.length_drop]; omega)]
       exact k2.more f
     · have : i = n := by omega
       subst this
       refine ⟨x,hxn,?_⟩
       rw [← l1,List.drop_left,← hacl,List.take_length]
       exact r2
theorem fieldsFrom_le : ∀ {gs : List Field} {n m : Nat},fieldsFrom P gs n = some m→n≤m∧∀ g ∈ gs,n≤g.offset
 | [],n,m,h => by cases h; exact ⟨Nat.le_refl _,fun g hg => by cases hg⟩
 | g :: gs,n,m,h => by
   simp only [fieldsFrom] at h
   split at h <;> try (cases h; done)
   rename_i ho
   obtain ⟨h1,h2⟩ := fieldsFrom_le h
   refine ⟨by omega,fun g' hg' => ?_⟩
   rcases List.mem_cons.1 hg' with rfl | hg'
   · omega
   · have := h2 g' hg'; omega
theorem fields_ok {f : Nat} {cs : List Value} : ∀ (gs : List Field) (n : Nat) (xs : List (DataW K × List MemPlace)) (ρ : Ren) (H : Heap),(∀ g ∈ gs,ReadOk P w enc held f g.type)→fieldsFrom P gs n = some cs.length →
   (∀ (i : Nat) (g : Field),gs[i]? = some g→∃ x,xs[i]? = some x∧DataW.trod enc P w 0 (fun _ => true) held f g.type ((cs.drop g.offset).take (P.cellsOf g.type)) = some x)→Rel ρ H w→Still H →
   ∃ (ρ' : Ren) (H' : Heap) (acs : List Value),Got P w ρ H ρ' H'∧acs.map (ren1 ρ') = cs.drop n∧acs.all (sc1 H'.length) = true ∧
     ∀ (i : Nat) (g : Field),gs[i]? = some g→∃ x,xs[i]? = some x∧Reads P H' f g.type ((acs.drop (g.offset - n)).take (P.cellsOf g.type)) x.1
 | [],n,xs,ρ,H,_,hf,_,R,hst => by
   simp only [fieldsFrom,Option.some.injEq] at hf
   subst hf
   exact ⟨ρ,H,[],Got.refl R hst,by simp,rfl,fun i g hi => by simp at hi⟩
 | g :: gs,n,xs,ρ,H,ih,hf,hx,R,hst => by
   simp only [fieldsFrom] at hf
   split at hf <;> try (cases hf; done)
   rename_i ho
   obtain ⟨hle,hoff⟩ := fieldsFrom_le hf
   obtain ⟨x,hx0,htr⟩ := hx 0 g rfl
   obtain ⟨ρ1,H1,a1,g1,m1,s1,r1⟩ := ih g List.mem_cons_self _ x.1 x.2 htr ρ H R hst
   rw [ho] at m1
   have hl1 : a1.length = P.cellsOf g.type := by
     have := congrArg List.length m1
     rw [List.length_map,List.length_take,List.length_drop] at this
     omega
   obtain ⟨ρ2,H2,a2,g2,m2,s2,r2⟩ := fields_ok gs (n + P.cellsOf g.type) xs.tail ρ1 H1 (fun g' hg' => ih g' (List.mem_cons_of_mem _ hg')) hf (fun i g' hi => by
     obtain ⟨y,k1,k2⟩ := hx (i + 1) g' (by simpa using hi)
     exact ⟨y,by cases xs with
       | nil => simp at k1
       | cons _ _ => simpa using k1,k2⟩) g1.rel g1.still
   refine ⟨ρ2,H2,a1 ++ a2,g1.trans g2,?_,by rw [List.all_append,all_sc1_mono g2.len s1,s2]; rfl,fun i g' hi => ?_⟩
   · rw [List.map_append,map_ren1_agree g2.agree s1,m1,m2,← List.drop_drop,List.take_append_drop]
   · cases i with
     | zero =>
       simp at hi
       subst hi
       refine ⟨x,hx0,?_⟩
       obtain ⟨X,rfl⟩ := g2.ext
       rw [ho,Nat.sub_self,List.drop_zero,← hl1,List.take_left]
       exact r1.more f
     | succ i =>
       have hi' : gs[i]? = some g' := by simpa using hi
       obtain ⟨y,k1,k2⟩ := r2 i g' hi'
       have hge := hoff g' (List.mem_of_getElem? hi')
       refine ⟨y,by cases xs with
         | nil => simp at k1
         | cons _ _ => simpa using k1,?_⟩
       have : (a1 ++ a2).drop (g'.offset - n) = a2.drop (g'.offset - (n + P.cellsOf g.type)) := by
         rw [List.drop_append,List.drop_eq_nil_of_le (by omega),List.nil_append,hl1]
         congr 1; omega
       rw [this]
       exact k2
theorem trod_bool {f : Nat} {t : TypeId} {cs : List Value} {d : DataW K} {ps : List MemPlace} (hu : P.underlying t = some .bool) (h : DataW.trod enc P w 0 (fun _ => true) held (f + 1) t cs = some (d,ps)) : ∃ b,cs = [.bool b]∧d = .lit (.bool b) := by
 unfold DataW.trod at h
 split at h <;> simp_all
theorem trod_int {f : Nat} {t : TypeId} {k : IntKind} {cs : List Value} {d : DataW K} {ps : List MemPlace} (hu : P.underlying t = some (.int k)) (h : DataW.trod enc P w 0 (fun _ => true) held (f + 1) t cs = some (d,ps)) :
   ∃ n,cs = [.int k n]∧(Lit.int k n).wf = true∧d = .lit (.int k n) := by
 unfold DataW.trod at h
 split at h <;> simp_all
theorem trod_slice {f : Nat} {t e : TypeId} {cs : List Value} {d : DataW K} {ps : List MemPlace} (hu : P.underlying t = some (.slice e)) (h : DataW.trod enc P w 0 (fun _ => true) held (f + 1) t cs = some (d,ps)) :
   (cs = [.slice none 0 0]∧d = .nil)∨∃ a len cap,cs = [.slice (some a) len cap]∧len≤cap∧cap≤maxLen∧∃ elems rest : List (DataW K × List MemPlace),
     (List.range len).mapM (fun i => (w.cells? 0 (a.add (i * P.cellsOf e)) (P.cellsOf e)).bind (DataW.trod enc P w 0 (fun _ => true) held f e)) = some elems ∧
     (List.range (cap - len)).mapM (fun j => (w.cells? 0 (a.add ((len + j) * P.cellsOf e)) (P.cellsOf e)).bind (DataW.trod enc P w 0 (fun _ => true) held f e)) = some rest∧d = .slice (elems.map (·.1)) (rest.map (·.1)) := by
 unfold DataW.trod at h
 split at h
 all_goals first
   | (exfalso; simp_all; done)
   | skip
 · simp only [Option.some.injEq,Prod.mk.injEq] at h
   exact .inl ⟨rfl,h.1.symm⟩
 · rename_i e' a len cap heq
   rw [hu] at heq
   cases heq
   simp only [if_true] at h
   split at h <;> try (cases h; done)
   rename_i hc
   simp only [Option.bind_eq_some_iff,Option.map_eq_some_iff,Prod.mk.injEq] at h
   obtain ⟨elems,h1,rest,h2,h3,_⟩ := h
   exact .inr ⟨a,len,cap,rfl,hc.2.1,hc.2.2,elems,rest,h1,h2,h3.symm⟩
theorem trod_struct {f : Nat} {t : TypeId} {fs : Array Field} {cs : List Value} {d : DataW K} {ps : List MemPlace} (hu : P.underlying t = some (.struct fs)) (h : DataW.trod enc P w 0 (fun _ => true) held (f + 1) t cs = some (d,ps)) :
   cs.length = P.cellsOf t∧∃ xs : List (DataW K × List MemPlace),fs.toList.mapM (fun g => DataW.trod enc P w 0 (fun _ => true) held f g.type ((cs.drop g.offset).take (P.cellsOf g.type))) = some xs∧d = .agg (xs.map (·.1)) := by
 unfold DataW.trod at h
 split at h
 all_goals first
   | (exfalso; simp_all; done)
   | skip
 · rename_i fs' heq
   rw [hu] at heq
   cases heq
   split at h <;> try (cases h; done)
   rename_i hl
   simp only [Option.map_eq_some_iff,Prod.mk.injEq] at h
   obtain ⟨xs,h1,h2,_⟩ := h
   exact ⟨hl,xs,h1,h2.symm⟩
theorem cell_none {a : Addr} {v : Value} (h : w.cell? a = some v) : a.spot = none∧a.block < w.heap.size := by
 unfold World.cell? at h
 split at h <;> try (cases h; done)
 rename_i c t fr hb
 refine ⟨?_,(Array.getElem?_eq_some_iff.1 hb).1⟩
 cases hs : a.spot with
 | none => rfl
 | some k => rw [hs] at h; simp at h
theorem addr_plain {a : Addr} (h : a.spot = none) (j : Nat) : a.add j = ⟨a.block,a.off + j,none⟩ := by
 obtain ⟨b,o,s⟩ := a
 simp only at h
 subst h
 unfold Addr.add
 split
 · rename_i h0; subst h0; rfl
 · rfl
theorem read_ok : ∀ (f : Nat) (t : TypeId),simple P f t = true→ReadOk P w enc held f t
 | 0,_,h => by cases h
 | f + 1,t,hs => by
   intro cs d ps h ρ H R hst
   unfold simple at hs
   split at hs <;> try (cases hs; done)
   · rename_i hu
     obtain ⟨b,rfl,rfl⟩ := trod_bool hu h
     refine ⟨ρ,H,[.bool b],Got.refl R hst,rfl,rfl,?_⟩
     unfold Reads
     rw [hu]
     exact ⟨b,rfl,rfl⟩
   · rename_i k hu
     obtain ⟨n,rfl,hw,rfl⟩ := trod_int hu h
     refine ⟨ρ,H,[.int k n],Got.refl R hst,rfl,rfl,?_⟩
     unfold Reads
     rw [hu]
     exact ⟨n,rfl,hw,rfl⟩
   · rename_i e hu
     simp only [Bool.and_eq_true,decide_eq_true_eq] at hs
     obtain ⟨hse,hc⟩ := hs
     rcases trod_slice hu h with ⟨rfl,rfl⟩ | ⟨a,len,cap,rfl,hle,hcap,elems,rest,h1,h2,rfl⟩
     · refine ⟨ρ,H,[.slice none 0 0],Got.refl R hst,rfl,rfl,?_⟩
       unfold Reads
       rw [hu]
       exact .inl ⟨rfl,rfl⟩
     obtain ⟨l1,l2⟩ := mapM_some h1
     obtain ⟨l3,l4⟩ := mapM_some h2
     rw [List.length_range] at l1 l3
     have hlast : (H ++ [AObj.gone]).length = H.length + 1 := by simp
     by_cases hl0 : len = 0
     · subst hl0
       have he : elems = [] := List.length_eq_zero_iff.1 l1
       subst he
       by_cases hsp : a.spot = none
       · refine ⟨ρ.bind H.length a.block a.off,H ++ [.gone],[.slice (some ⟨H.length,0,none⟩) 0 cap],⟨⟨[.gone],rfl⟩,Ren.bind_agree _ _ _ _ _,R.bindGone hst _ _ _,hst.push rfl⟩,?_,by simp [sc1,sc0],?_⟩
         · have : (⟨a.block,a.off,none⟩ : Addr) = a := by rw [← hsp]
           simp [ren1,ren0,Ren.adr,Ren.cap,Ren.addr,Ren.bind,this]
         · unfold Reads
           rw [hu]
           exact .inr (.inr ⟨H.length,0,cap,[],[],_,rfl,Nat.zero_le _,hcap,rfl,rfl,.inl rfl,by simp,fun i hi => by omega⟩)
       · have hcap0 : cap = 0 := by
           rcases Nat.eq_zero_or_pos cap with h0 | h0
           · exact h0
           · exfalso
             obtain ⟨x,_,hb⟩ := l4 0 0 (by rw [List.getElem?_range (by omega)])
             simp only [Option.bind_eq_some_iff] at hb
             obtain ⟨cs,hcs,_⟩ := hb
             obtain ⟨c1,c2⟩ := cells_some hcs
             have h0' : cs[0]? = some cs[0] := List.getElem?_eq_getElem (by omega)
             have := c2 0 _ h0'
             simp only [Nat.add_zero,Nat.zero_mul,add_add] at this
             have ha : a.add 0 = a := by simp [Addr.add]
             rw [ha] at this
             exact hsp (cell_none this).1
         subst hcap0
         obtain ⟨k,hk⟩ : ∃ k,a.spot = some k := by
           cases hx : a.spot with
           | none => exact absurd hx hsp
           | some k => exact ⟨k,rfl⟩
         have hr : rest = [] := List.length_eq_zero_iff.1 (by simpa using l3)
         subst hr
         refine ⟨ρ.bind H.length a.block a.off k,H ++ [.gone],[.slice (some ⟨H.length,0,some k⟩) 0 1],⟨⟨[.gone],rfl⟩,Ren.bind_agree _ _ _ _ _,R.bindGone hst _ _ _,hst.push rfl⟩,?_,by simp [sc1,sc0],?_⟩
         · have : (⟨a.block,a.off,some k⟩ : Addr) = a := by rw [← hk]
           simp [ren1,ren0,Ren.adr,Ren.cap,Ren.bind,this]
         · unfold Reads
           rw [hu]
           exact .inr (.inl ⟨H.length,k,rfl,rfl⟩)
     · obtain ⟨ρ1,H1,cells,g1,k1,k2,k3,k4⟩ := row_ok (read_ok f e hse) (a := a) (len := len) (xs := elems) (fun i hi => l2 i i (by rw [List.getElem?_range hi])) R hst len (Nat.le_refl _)
       have hpos : 0 < cells.length := by rw [k1]; exact Nat.mul_pos (by omega) hc
       have hcell := k3 0 cells[0] (List.getElem?_eq_getElem hpos)
       have ha : a.add 0 = a := by simp [Addr.add]
       rw [ha] at hcell
       obtain ⟨hsp,hblk⟩ := cell_none hcell
       have hro := g1.rel.bindRo g1.still (cs := cells) (p := a.block) (off := a.off) hblk k2 (fun i v hi => by rw [← addr_plain hsp]; exact k3 i v hi)
       have g2 : Got P w ρ1 H1 (ρ1.bind H1.length a.block a.off) (H1 ++ [.ro cells]) := ⟨⟨[.ro cells],rfl⟩,Ren.bind_agree _ _ _ _ _,hro,g1.still.push rfl⟩
       refine ⟨_,_,[.slice (some ⟨H1.length,0,none⟩) len cap],g1.trans g2,?_,by simp [sc1,sc0],?_⟩
       · have : (⟨a.block,a.off,none⟩ : Addr) = a := by rw [← hsp]
         simp [ren1,ren0,Ren.adr,Ren.cap,Ren.addr,Ren.bind,this]
       · unfold Reads
         rw [hu]
         refine .inr (.inr ⟨H1.length,len,cap,cells,elems.map (·.1),rest.map (·.1),rfl,hle,hcap,rfl,by rw [List.length_map,l1],.inr (get_append_new _ _),k1,fun i hi => ?_⟩)
         obtain ⟨x,m1,m2⟩ := k4 i hi
         exact ⟨x.1,by rw [List.getElem?_map,m1]; rfl,m2.more f⟩
   · rename_i fs hu
     simp only [Bool.and_eq_true,decide_eq_true_eq,List.all_eq_true] at hs
     obtain ⟨hsf,hoff⟩ := hs
     obtain ⟨hl,xs,h1,rfl⟩ := trod_struct hu h
     obtain ⟨l1,l2⟩ := mapM_some h1
     obtain ⟨ρ1,H1,acs,g1,m1,m2,m3⟩ := fields_ok fs.toList 0 xs ρ H (fun g hg => read_ok f g.type (hsf g hg)) (by rw [hoff,hl]) (fun i g hi => l2 i g hi) R hst
     refine ⟨ρ1,H1,acs,g1,by simpa using m1,m2,?_⟩
     unfold Reads
     rw [hu]
     refine ⟨xs.map (·.1),rfl,by rw [List.length_map,l1]; simp,fun i g hi => ?_⟩
     obtain ⟨x,k1,k2⟩ := m3 i g hi
     exact ⟨x.1,by rw [List.getElem?_map,k1]; rfl,by simpa using k2⟩
end
end Go.Pier
namespace Go.Pier
open Go
variable {P : Program} {ρ : Ren} {H H' : Heap} {w : World} {f : FuncId} {args args0 : List Value} {H0 : Heap}
theorem Rel.keep {w' : World} (R : Rel ρ H w) (hsz : w.heap.size≤w'.heap.size) (hk : ∀ k,k < w.heap.size→w'.heap[k]? = w.heap[k]?) : Rel ρ H w' :=
 ⟨fun b o hb => by
   have h := R.obj b o hb
   have hlt := (List.getElem?_eq_some_iff.1 hb).1
   cases ho : o with
   | gone => trivial
   | _ =>
     rw [← ho]
     refine ObjOk.move (Agree.refl H.length ρ) hlt (R.scp b o hb) ?_ (Below'.of hsz fun cs e k hk' => hk k (by subst e; have := h.2.1; omega)) h
     by_cases hg : o = .gone
     · exact .inl hg
     · right
       refine hk _ ?_
       subst ho
       first
         | exact Nat.lt_of_lt_of_le h.1 h.2.1
         | exact h.1
         | (obtain ⟨_,cs',t,h1,_⟩ := h; exact (Array.getElem?_eq_some_iff.1 h1).1)
         | exact (Array.getElem?_eq_some_iff.1 h).1
         | exact (Array.getElem?_eq_some_iff.1 h.2).1
         | (obtain ⟨fn,df,h1⟩ := h; exact (Array.getElem?_eq_some_iff.1 h1).1),R.inj,R.sep,R.deep,R.scp⟩
theorem Ext.keep' {w' : World} (hsz : w.heap.size≤w'.heap.size) (hk : ∀ k,k < w.heap.size→w'.heap[k]? = w.heap[k]?) (h1 : w'.os = w.os) (h2 : w'.tape = w.tape) (h3 : w'.output = w.output) : Ext ρ H w ρ H w' :=
 ⟨Nat.le_refl _,fun _ _ => ⟨rfl,rfl,rfl⟩,hsz,fun k hk' _ => hk k hk',fun _ h => .inl h,fun _ h => .inl h,fun _ h => h,h1,h2,h3⟩
def intOf : Value→Int | .int _ n => n | _ => 0
def intsOf (cs : List Value) : List Int := cs.map intOf
theorem intsOf_map {k : IntKind} {l : List Int} : intsOf (l.map (.int k)) = l := by
 unfold intsOf
 rw [List.map_map]
 exact List.map_id' l
def cellsOf (H : Heap) (b : Nat) : Option (List Value) := match H[b]? with
 | some (.ro cs) => some cs
 | some (.rw cs _) => some cs
 | _ => none
def sliceInts (k : IntKind) (H : Heap) (v : Value) : Option (Prop × List Int) :=
 match v with
 | .slice (some a) n c => match cellsOf H a.block with
   | some cs => some ((cs.drop a.off).take n = (((intsOf cs).drop a.off).take n).map (.int k)∧a.off + n≤cs.length∧std a c = true,((intsOf cs).drop a.off).take n)
   | none => none
 | _ => none
theorem cellsOf_at (R : Rel ρ H w) {b : Nat} {cs : List Value} (h : cellsOf H b = some cs) : ρ.φ b < w.heap.size∧∀ (i : Nat) (v : Value),cs[i]? = some v→w.cell? ⟨ρ.φ b,ρ.δ b + i,none⟩ = some (ren1 ρ v) := by
 unfold cellsOf at h
 split at h <;> cases h
 · rename_i hb
   exact R.obj _ _ hb
 · rename_i r hb
   obtain ⟨_,cs',t,h1,h2,_⟩ := R.obj _ _ hb
   refine ⟨(Array.getElem?_eq_some_iff.1 h1).1,fun i v hi => ?_⟩
   simp only [World.cell?,h1]
   exact h2 i v hi
theorem Rel.handInts {ρ0 : Ren} (R : Rel ρ H w) (R0 : Rel ρ0 H0 w) (hst : Still H0) {k : IntKind} {v : Value} {φ : Prop} {l : List Int} (h : sliceInts k H v = some (φ,l)) (hφ : φ) :
   ∃ (ρ1 : Ren) (c : Nat),Agree H0.length ρ0 ρ1∧Rel ρ1 (H0 ++ [.ro (l.map (.int k))]) w∧Still (H0 ++ [.ro (l.map (.int k))])∧ren ρ1 (.slice (some ⟨H0.length,0,none⟩) l.length c) = ren ρ v := by
 unfold sliceInts at h
 split at h <;> try (cases h; done)
 rename_i a n c
 split at h <;> simp only [Option.some.injEq,Prod.mk.injEq,reduceCtorEq] at h
 rename_i cs hc
 obtain ⟨rfl,rfl⟩ := h
 obtain ⟨h1,h2,h3⟩ := hφ
 obtain ⟨k1,k2⟩ := cellsOf_at R hc
 have hlen : (((intsOf cs).drop a.off).take n).length = n := by
   rw [List.length_take,List.length_drop,intsOf,List.length_map]; omega
 have hcell : ∀ (i : Nat) (u : Value),((((intsOf cs).drop a.off).take n).map (Value.int k))[i]? = some u→w.cell? ⟨ρ.φ a.block,ρ.δ a.block + a.off + i,none⟩ = some (ren1 ρ0 u) := by
   intro i u hi
   have hu : ∃ m,u = .int k m := by
     rw [List.getElem?_map,Option.map_eq_some_iff] at hi
     obtain ⟨m,_,rfl⟩ := hi
     exact ⟨m,rfl⟩
   obtain ⟨m,rfl⟩ := hu
   rw [← h1,List.getElem?_take] at hi
   split at hi <;> try (cases hi; done)
   rw [List.getElem?_drop] at hi
   have := k2 _ _ hi
   rw [← Nat.add_assoc] at this
   exact this
 refine ⟨ρ0.bind H0.length (ρ.φ a.block) (ρ.δ a.block + a.off),ρ.cap a c,Ren.bind_agree _ _ _ _ _,R0.bindRo hst k1 (by rw [List.all_map]; exact List.all_eq_true.2 fun _ _ => rfl) hcell,hst.push rfl,?_⟩
 rw [hlen]
 have e1 : ren ρ (.slice (some a) n c) = .slice (some (ρ.addr a)) n (ρ.cap a c) := by
   show Value.slice (some (ρ.adr a c)) n (ρ.cap a c) = _
   rw [adr_std h3]
 rw [e1]
 show Value.slice (some ((ρ0.bind H0.length (ρ.φ a.block) (ρ.δ a.block + a.off)).adr ⟨H0.length,0,none⟩ (ρ.cap a c))) n _ = _
 have e2 : (ρ0.bind H0.length (ρ.φ a.block) (ρ.δ a.block + a.off)).adr ⟨H0.length,0,none⟩ (ρ.cap a c) = ρ.addr a := by
   rw [adr_std (std_none rfl),Ren.bind_addr]
   rfl
 rw [e2]
 rfl
theorem Rel.handHole {ρ0 : Ren} (R0 : Rel ρ0 H0 w) (hst : Still H0) (ρ : Ren) (b c : Nat) (s : Option Nat) :
   ∃ ρ1 : Ren,Agree H0.length ρ0 ρ1∧Rel ρ1 (H0 ++ [.gone]) w∧Still (H0 ++ [.gone])∧ren ρ1 (.slice (some ⟨H0.length,0,s⟩) 0 c) = ren ρ (.slice (some ⟨b,0,s⟩) 0 c) := by
 refine ⟨ρ0.bind H0.length (ρ.φ b) (ρ.δ b) (ρ.κ b),Ren.bind_agree _ _ _ _ _,R0.bindGone hst _ _ _,hst.push rfl,?_⟩
 show Value.slice (some (Ren.adr _ _ _)) 0 (Ren.cap _ _ _) = Value.slice (some (Ren.adr _ _ _)) 0 (Ren.cap _ _ _)
 cases s with
 | none => simp [Ren.adr,Ren.cap,Ren.addr,Ren.bind]
 | some k => cases c <;> simp [Ren.adr,Ren.cap,Ren.addr,Ren.bind]
inductive Arg where
 | plain (v : Value)
 | ints (k : IntKind) (l : List Int)
 | hole (s : Option Nat)
def canonA (caps : Nat→Nat) : Nat→List Arg→List Value
 | _,[] => []
 | i,.plain v :: r => v :: canonA caps i r
 | i,.ints _ l :: r => .slice (some ⟨i,0,none⟩) l.length (caps i) :: canonA caps (i + 1) r
 | i,.hole s :: r => .slice (some ⟨i,0,s⟩) 0 (caps i) :: canonA caps (i + 1) r
def canonH : List Arg→Heap
 | [] => []
 | .plain _ :: r => canonH r
 | .ints k l :: r => .ro (l.map (.int k)) :: canonH r
 | .hole _ :: r => .gone :: canonH r
def ReadA (H : Heap) : List Arg→List Value→Prop
 | [],[] => True
 | .plain u :: r,v :: vs => u = v∧sc 0 v = true∧ReadA H r vs
 | .ints k l :: r,v :: vs => (∃ φ,sliceInts k H v = some (φ,l)∧φ)∧ReadA H r vs
 | .hole s :: r,v :: vs => (∃ b c,v = .slice (some ⟨b,0,s⟩) 0 c)∧ReadA H r vs
 | _,_ => False
theorem canonA_congr {c c' : Nat→Nat} : ∀ (as : List Arg) (i : Nat),(∀ j,i≤j→c j = c' j)→canonA c i as = canonA c' i as
 | [],_,_ => rfl
 | .plain v :: r,i,h => by rw [canonA,canonA,canonA_congr r i h]
 | .ints k l :: r,i,h => by rw [canonA,canonA,canonA_congr r (i + 1) fun j hj => h j (by omega),h i (Nat.le_refl _)]
 | .hole s :: r,i,h => by rw [canonA,canonA,canonA_congr r (i + 1) fun j hj => h j (by omega),h i (Nat.le_refl _)]
theorem handAll (R : Rel ρ H w) : ∀ (as : List Arg) (vs : List Value) (ρ0 : Ren) (H0 : Heap),ReadA H as vs→Rel ρ0 H0 w→Still H0 →
   ∃ (ρ1 : Ren) (caps : Nat→Nat),Agree H0.length ρ0 ρ1∧Rel ρ1 (H0 ++ canonH as) w∧Still (H0 ++ canonH as)∧(canonA caps H0.length as).map (ren ρ1) = vs.map (ren ρ)∧(canonA caps H0.length as).all (sc (H0 ++ canonH as).length) = true
 | [],[],ρ0,H0,_,R0,hst => ⟨ρ0,fun _ => 0,Agree.refl _ _,by simpa [canonH] using R0,by simpa [canonH] using hst,rfl,rfl⟩
 | [],_ :: _,_,_,h,_,_ => h.elim
 | .plain u :: r,[],_,_,h,_,_ => h.elim
 | .ints k l :: r,[],_,_,h,_,_ => h.elim
 | .hole s :: r,[],_,_,h,_,_ => h.elim
 | .plain u :: r,v :: vs,ρ0,H0,h,R0,hst => by
   obtain ⟨rfl,h1,h2⟩ := h
   obtain ⟨ρ1,caps,k1,k2,k3,k4,k5⟩ := handAll R r vs ρ0 H0 h2 R0 hst
   refine ⟨ρ1,caps,k1,k2,k3,?_,?_⟩
   · simp only [canonA,List.map_cons,k4,ren_closed h1]
   · simp only [canonA,List.all_cons,Bool.and_eq_true]
     exact ⟨sc_mono (Nat.zero_le _) h1,k5⟩
 | .ints k l :: r,v :: vs,ρ0,H0,h,R0,hst => by
   obtain ⟨⟨φ,h1,hφ⟩,h2⟩ := h
   obtain ⟨ρ1,c,a1,R1,s1,e1⟩ := R.handInts R0 hst h1 hφ
   obtain ⟨ρ2,caps,a2,R2,s2,e2,e3⟩ := handAll R r vs ρ1 (H0 ++ [.ro (l.map (.int k))]) h2 R1 s1
   have hlen : (H0 ++ [AObj.ro (l.map (Value.int k))]).length = H0.length + 1 := by simp
   have happ : H0 ++ [AObj.ro (l.map (Value.int k))] ++ canonH r = H0 ++ canonH (.ints k l :: r) := by simp [canonH]
   rw [happ] at R2 s2 e3
   rw [hlen] at e2 e3 a2
   have hsc : sc (H0.length + 1) (.slice (some ⟨H0.length,0,none⟩) l.length c) = true := by
     show decide (H0.length < H0.length + 1) = true
     simp
   refine ⟨ρ2,fun j => if j = H0.length then c else caps j,a1.trans a2 (by omega),R2,s2,?_,?_⟩
   · simp only [canonA,List.map_cons,if_true]
     rw [canonA_congr (c' := caps) r _ fun j hj => if_neg (by omega),e2,ren_agree a2 hsc,e1]
   · simp only [canonA,List.all_cons,Bool.and_eq_true,if_true]
     rw [canonA_congr (c' := caps) r _ fun j hj => if_neg (by omega)]
     refine ⟨sc_mono ?_ hsc,e3⟩
     simp [canonH]
 | .hole s :: r,v :: vs,ρ0,H0,h,R0,hst => by
   obtain ⟨⟨b,c,rfl⟩,h2⟩ := h
   obtain ⟨ρ1,a1,R1,s1,e1⟩ := R0.handHole hst ρ b c s
   obtain ⟨ρ2,caps,a2,R2,s2,e2,e3⟩ := handAll R r vs ρ1 (H0 ++ [.gone]) h2 R1 s1
   have hlen : (H0 ++ [AObj.gone]).length = H0.length + 1 := by simp
   have happ : H0 ++ [AObj.gone] ++ canonH r = H0 ++ canonH (.hole s :: r) := by simp [canonH]
   rw [happ] at R2 s2 e3
   rw [hlen] at e2 e3 a2
   have hsc : sc (H0.length + 1) (.slice (some ⟨H0.length,0,s⟩) 0 c) = true := by
     show decide (H0.length < H0.length + 1) = true
     simp
   refine ⟨ρ2,fun j => if j = H0.length then c else caps j,a1.trans a2 (by omega),R2,s2,?_,?_⟩
   · simp only [canonA,List.map_cons,if_true]
     rw [canonA_congr (c' := caps) r _ fun j hj => if_neg (by omega),e2,ren_agree a2 hsc,e1]
   · simp only [canonA,List.all_cons,Bool.and_eq_true,if_true]
     rw [canonA_congr (c' := caps) r _ fun j hj => if_neg (by omega)]
     refine ⟨sc_mono ?_ hsc,e3⟩
     simp [canonH]
theorem Call.ofArgs {v0 : Value} {as : List Arg} {vs : List Value} (h : ∀ caps,Call P f (canonA caps 0 as) (canonH as) fun v _ => v = v0) (hv : sc 0 v0 = true) (hr : ReadA H as vs) : Call P f vs H fun v H' => v = v0∧H' = H := fun ρ w R _ => by
 have R00 : Rel ρ [] w := ⟨fun b o hb => by simp at hb,fun b b' hb => by simp [wr] at hb,fun b b' hb => by simp [isRo] at hb,fun b b' hb => by simp [isMix] at hb,fun b o hb => by simp at hb⟩
 obtain ⟨ρ0,caps,_,R0,hst,e,s0⟩ := handAll R as vs ρ [] hr R00 Still.nil
 simp only [List.nil_append,List.length_nil] at R0 hst e s0
 have := h caps ρ0 w R0 s0
 rw [e] at this
 refine this.mono ?_
 rintro e' w' ⟨ρ',v,H',rfl,rfl,R',X,s'⟩
 have hk := hst.kept X
 exact ⟨ρ,v,H,by rw [ren_closed hv,ren_closed hv],⟨rfl,rfl⟩,R.keep X.size hk,Ext.keep' X.size hk X.os X.tape X.output,sc_mono (Nat.zero_le _) hv⟩
end Go.Pier
namespace Go.Pier
open Go
variable {P : Program} {ρ : Ren} {H H' : Heap} {w : World} {f : FuncId}
def plainNew (N : Heap) : Prop := ∀ (j : Nat) (o : AObj),N[j]? = some o→o = .gone∨∃ cs r,o = .rw cs r∧cs.all (sc1 0) = true
def Alike (k : Nat) (ρ : Ren) (b : Nat) (ρ' : Ren) (c : Nat) : Prop := ∀ j,j < k→ρ.φ (b + j) = ρ'.φ (c + j)∧ρ.δ (b + j) = ρ'.δ (c + j)∧ρ.κ (b + j) = ρ'.κ (c + j)
theorem Call.ofArgsNew {mk : Nat→Value} {N : Heap} {as : List Arg} {vs : List Value} (h : ∀ caps,Call P f (canonA caps 0 as) (canonH as) fun v H' => v = mk (canonH as).length∧H' = canonH as ++ N) (hN : plainNew N)
   (hmk : ∀ ρ b ρ' c,Alike N.length ρ b ρ' c→ren ρ (mk b) = ren ρ' (mk c)) (hsc : sc (H.length + N.length) (mk H.length) = true) (hr : ReadA H as vs) : Call P f vs H fun v H' => v = mk H.length∧H' = H ++ N := fun ρ w R _ => by
 have R00 : Rel ρ [] w := ⟨fun b o hb => by simp at hb,fun b b' hb => by simp [wr] at hb,fun b b' hb => by simp [isRo] at hb,fun b b' hb => by simp [isMix] at hb,fun b o hb => by simp at hb⟩
 obtain ⟨ρ0,caps,_,R0,hst,e,s0⟩ := handAll R as vs ρ [] hr R00 Still.nil
 simp only [List.nil_append,List.length_nil] at R0 hst e s0
 have := h caps ρ0 w R0 s0
 rw [e] at this
 refine this.mono ?_
 rintro e' w' ⟨ρ',v,H',rfl,⟨rfl,rfl⟩,R',X,s'⟩
 have hk := hst.kept X
 generalize hm : (canonH as).length = m at *
 let ρ2 : Ren := ⟨fun b => if b < H.length then ρ.φ b else if b < H.length + N.length then ρ'.φ (m + (b - H.length)) else ρ.φ b,
   fun b => if b < H.length then ρ.δ b else if b < H.length + N.length then ρ'.δ (m + (b - H.length)) else ρ.δ b,
   fun b => if b < H.length then ρ.κ b else if b < H.length + N.length then ρ'.κ (m + (b - H.length)) else ρ.κ b⟩
 have hag : Agree H.length ρ ρ2 := fun b hb => by simp [ρ2,hb]
 have hal : Alike N.length ρ2 H.length ρ' m := fun j hj => by
   have h1 : ¬ H.length + j < H.length := by omega
   simp [ρ2,h1,hj]
 have hnew : ∀ {j : Nat} {o : AObj},N[j]? = some o→(canonH as ++ N)[m + j]? = some o := fun {j o} hj => by
   rw [List.getElem?_append_right (by omega),hm]
   rw [show m + j - m = j by omega]; exact hj
 have hfresh : ∀ j,wr N j = true→w.heap.size≤ρ2.φ (H.length + j) := fun j hj => by
   have hlt := wr_lt hj
   obtain ⟨o,ho,hw⟩ := getWr hj
   have h1 : wr (canonH as ++ N) (m + j) = true := by rw [wr_of_get (hnew ho)]; exact hw
   rw [(hal j hlt).1]
   rcases X.wr _ h1 with h2 | ⟨_,h2 | ⟨b0,h2,_⟩⟩
   · rw [hst] at h2; cases h2
   · exact h2
   · rw [hst] at h2; cases h2
 have hwN : ∀ {b : Nat},wr (H ++ N) b = true→(b < H.length∧wr H b = true)∨(H.length≤b∧b < H.length + N.length∧wr N (b - H.length) = true) := fun {b} hb => by
   rcases Nat.lt_or_ge b H.length with h1 | h1
   · exact .inl ⟨h1,by rw [← hb]; exact wr_congr (List.getElem?_append_left h1).symm⟩
   · have h2 := wr_lt hb
     rw [List.length_append] at h2
     obtain ⟨o,ho,hw⟩ := getWr hb
     rw [List.getElem?_append_right h1] at ho
     exact .inr ⟨h1,h2,by rw [wr_of_get ho]; exact hw⟩
 have hrN : ∀ {b : Nat},isRo (H ++ N) b = true→b < H.length∧isRo H b = true := fun {b} hb => by
   obtain ⟨o,ho,hro⟩ := getRo hb
   rcases Nat.lt_or_ge b H.length with h1 | h1
   · rw [List.getElem?_append_left h1] at ho
     exact ⟨h1,by rw [isRo_of_get ho]; exact hro⟩
   · rw [List.getElem?_append_right h1] at ho
     rcases hN _ _ ho with rfl | ⟨cs,r,rfl,_⟩ <;> cases hro
 have hmN : ∀ {b : Nat},isMix (H ++ N) b = true→b < H.length∧isMix H b = true := fun {b} hb => by
   obtain ⟨cs,ho⟩ := getMix hb
   rcases Nat.lt_or_ge b H.length with h1 | h1
   · rw [List.getElem?_append_left h1] at ho
     exact ⟨h1,by rw [isMix_of_get ho]; rfl⟩
   · rw [List.getElem?_append_right h1] at ho
     rcases hN _ _ ho with h | ⟨cs,r,h,_⟩ <;> cases h
 have hold : ∀ {b : Nat},wr H b = true∨isRo H b = true→ρ.φ b < w.heap.size := fun {b} hb => by
   rcases hb with hb | hb
   · exact R.phys_lt hb
   · obtain ⟨o,ho,hro⟩ := getRo hb
     have := R.obj b o ho
     cases o <;> first | (cases hro; done) | exact this.1
 have hrel : Rel ρ2 (H ++ N) w' := by
   have Rk := R.keep X.size hk
   refine ⟨fun b o hb => ?_,fun b b' hb hb' he => ?_,fun b b' hb hb' he => ?_,fun b b' hb hb' => ?_,fun b o hb => ?_⟩
   · rcases Nat.lt_or_ge b H.length with h1 | h1
     · rw [List.getElem?_append_left h1] at hb
       exact (Rk.obj b o hb).move hag h1 (R.scp b o hb) (.inr rfl) (Below'.refl _ _ _ _)
     · rw [List.getElem?_append_right h1] at hb
       rcases hN _ _ hb with rfl | ⟨cs,r,rfl,hcs⟩
       · trivial
       · have hlt := (List.getElem?_eq_some_iff.1 hb).1
         obtain ⟨k1,k2,k3⟩ := hal (b - H.length) hlt
         rw [show H.length + (b - H.length) = b by omega] at k1 k2 k3
         obtain ⟨d0,cs',t,d1,d2,d3⟩ := R'.obj _ _ (hnew hb)
         refine ⟨fun e => by rw [k2]; exact d0 e,cs',t,by rw [k1]; exact d1,fun i u hi => ?_,?_⟩
         · have hu := List.all_eq_true.1 hcs u (List.mem_of_getElem? hi)
           rw [k2,ren1_closed hu,d2 i u hi,ren1_closed hu]
         · cases r <;> simpa [k2,k3] using d3
   · rcases hwN hb with ⟨h1,h2⟩ | ⟨h1,h2,h3⟩ <;> rcases hwN hb' with ⟨g1,g2⟩ | ⟨g1,g2,g3⟩
     · rw [(hag b h1).1,(hag b' g1).1] at he
       exact R.inj b b' h2 g2 he
     · rw [(hag b h1).1] at he
       have := hold (.inl h2)
       have k := hfresh _ g3
       rw [show H.length + (b' - H.length) = b' by omega] at k
       omega
     · rw [(hag b' g1).1] at he
       have := hold (.inl g2)
       have k := hfresh _ h3
       rw [show H.length + (b - H.length) = b by omega] at k
       omega
     · have k1 := (hal (b - H.length) (by omega)).1
       have k2 := (hal (b' - H.length) (by omega)).1
       rw [show H.length + (b - H.length) = b by omega] at k1
       rw [show H.length + (b' - H.length) = b' by omega] at k2
       rw [k1,k2] at he
       obtain ⟨o,ho,hw⟩ := getWr h3
       obtain ⟨o',ho',hw'⟩ := getWr g3
       have := R'.inj _ _ (by rw [wr_of_get (hnew ho)]; exact hw) (by rw [wr_of_get (hnew ho')]; exact hw') he
       omega
   · obtain ⟨h1,h2⟩ := hrN hb
     rcases hwN hb' with ⟨g1,g2⟩ | ⟨g1,g2,g3⟩
     · rw [(hag b h1).1,(hag b' g1).1] at he
       exact R.sep b b' h2 g2 he
     · rw [(hag b h1).1] at he
       have := hold (.inr h2)
       have k := hfresh _ g3
       rw [show H.length + (b' - H.length) = b' by omega] at k
       omega
   · obtain ⟨h1,h2⟩ := hmN hb
     rw [(hag b h1).2.2]
     rcases hwN hb' with ⟨g1,g2⟩ | ⟨g1,g2,g3⟩
     · rw [(hag b' g1).1]; exact R.deep b b' h2 g2
     · have k := hfresh _ g3
       rw [show H.length + (b' - H.length) = b' by omega] at k
       exact Nat.le_trans (R.mix_lt h2).2 k
   · rcases Nat.lt_or_ge b H.length with h1 | h1
     · rw [List.getElem?_append_left h1] at hb
       exact AObj.sc_mono (by simp) (R.scp b o hb)
     · rw [List.getElem?_append_right h1] at hb
       rcases hN _ _ hb with rfl | ⟨cs,r,rfl,hcs⟩
       · rfl
       · exact List.all_eq_true.2 fun u hu => sc1_mono (Nat.zero_le _) (List.all_eq_true.1 hcs u hu)
 refine ⟨ρ2,mk H.length,H ++ N,by rw [hmk _ _ _ _ hal],⟨rfl,rfl⟩,hrel,⟨by simp,fun b hb => ?_,X.size,fun k hk' _ => hk k hk',fun b hb => ?_,fun b hb => .inl (hrN hb).2,fun b hb => (hmN hb).2,X.os,X.tape,X.output⟩,by simpa using hsc⟩
 · rcases hb with hb | hb
   · exact hag b hb
   · rw [List.length_append] at hb
     have h1 : ¬ b < H.length := by omega
     have h2 : ¬ b < H.length + N.length := by omega
     simp [ρ2,h1,h2]
 · rcases hwN hb with ⟨h1,h2⟩ | ⟨h1,h2,h3⟩
   · exact .inl h2
   · refine .inr ⟨h1,.inl ?_⟩
     have k := hfresh _ h3
     rw [show H.length + (b - H.length) = b by omega] at k
     exact k
end Go.Pier
namespace Go.Pier
open Go
theorem Rel.empty (ρ : Ren) (w : World) : Rel ρ [] w := ⟨fun b o h => by simp at h,fun b b' h => by simp [wr] at h,fun b b' h => by simp [isRo] at h,fun b b' h => by simp [isMix] at h,fun b o h => by simp at h⟩
end Go.Pier
namespace Go.Pier
open Go Go.RowKit
variable {P : Program} {ρ : Ren} {H : Heap} {w : World} {K : Type} {enc : TypeId × Value→K} {held : Bool}
theorem simple_succ : ∀ (n : Nat) (t : TypeId),simple P n t = true→simple P (n + 1) t = true
 | 0,_,h => by cases h
 | n + 1,t,h => by
   unfold simple at h ⊢
   split at h
   · rfl
   · rfl
   · simp only [Bool.and_eq_true] at h ⊢
     exact ⟨simple_succ n _ h.1,h.2⟩
   · simp only [Bool.and_eq_true,List.all_eq_true] at h ⊢
     exact ⟨fun g hg => simple_succ n _ (h.1 g hg),h.2⟩
   · cases h
theorem simple_le {n m : Nat} {t : TypeId} (hn : n≤m) (h : simple P n t = true) : simple P m t = true := by
 induction hn with
 | refl => exact h
 | step _ ih => exact simple_succ _ _ ih
theorem trod_le {n m : Nat} {t : TypeId} {cs : List Value} {x : DataW K × List MemPlace} (hn : n≤m) (h : DataW.trod enc P w 0 (fun _ => true) held n t cs = some x) : DataW.trod enc P w 0 (fun _ => true) held m t cs = some x := by
 induction hn with
 | refl => exact h
 | step _ ih => exact DataW.trod_succ _ _ _ _ ih
def shapeV (P : Program) (t : TypeId) (v : Value) : Prop := match P.underlying t with
 | some (.struct _) => ∃ cs : Array Value,v = .agg cs∧cs.size = P.cellsOf t
 | _ => ∀ cs : Array Value,v ≠ .agg cs
theorem shape_agg {N base : Nat} {t : TypeId} {cs : Array Value} (hs : simple P N t = true) (hok : Value.okWide P w .any base t (.agg cs)) : ∃ fs,P.underlying t = some (.struct fs)∧cs.size = P.cellsOf t := by
 cases N with
 | zero => cases hs
 | succ N =>
   unfold simple at hs
   split at hs
   · rename_i h; obtain ⟨b,hb⟩ := WideShapes.okWide_bool h hok; cases hb
   · rename_i k h; obtain ⟨b,hb⟩ := WideShapes.okWide_int h hok; cases hb
   · rename_i e h; obtain ⟨a,l,c,hb⟩ := WideShapes.okWide_slice h hok; cases hb
   · rename_i fs h; obtain ⟨cs',hb,hc⟩ := WideShapes.okWide_struct h hok; cases hb; exact ⟨fs,h,hc⟩
   · cases hs
theorem shape_other {base : Nat} {t : TypeId} {v : Value} (hv : ∀ cs : Array Value,v ≠ .agg cs) (hok : Value.okWide P w .any base t v) (a : Value) (ha : ∀ cs : Array Value,a ≠ .agg cs) : shapeV P t a := by
 unfold shapeV
 split
 · rename_i fs h; obtain ⟨cs',hb,hc⟩ := WideShapes.okWide_struct h hok; exact absurd hb (hv _)
 · exact ha
def ReadsV (P : Program) (H : Heap) (t : TypeId) (v : Value) (d : DataW K) : Prop := shapeV P t v∧∃ f,Reads P H f t v.cells.toList d
theorem ReadsV.more {X : Heap} {t : TypeId} {v : Value} {d : DataW K} (h : ReadsV P H t v d) : ReadsV P (H ++ X) t v d := let ⟨s,f,h⟩ := h; ⟨s,f,h.more f⟩
theorem arg_ok {N : Nat} {t : TypeId} {v : Value} {d : DataW K} {ps : List MemPlace} {base : Nat} (hs : simple P N t = true) (hok : Value.okWide P w .any base t v) (h : DataW.Trod enc P w 0 (fun _ => true) held t v d ps) (R : Rel ρ H w) (hst : Still H) :
   ∃ (ρ' : Ren) (H' : Heap) (av : Value),Got P w ρ H ρ' H'∧ren ρ' av = v∧sc2 H'.length av = true∧ReadsV P H' t av d := by
 obtain ⟨f,hf⟩ := h
 have hf' := trod_le (Nat.le_max_left f N) hf
 have hs' := simple_le (Nat.le_max_right f N) hs
 obtain ⟨ρ',H',acs,g,m,s,r⟩ := read_ok (enc := enc) (held := held) (w := w) _ t hs' _ d ps hf' ρ H R hst
 by_cases hagg : ∃ cs,v = .agg cs
 · obtain ⟨cs,rfl⟩ := hagg
   obtain ⟨fs,hu,hc⟩ := shape_agg hs hok
   refine ⟨ρ',H',.agg acs.toArray,g,?_,?_,?_,⟨_,r⟩⟩
   rotate_left 2
   · unfold shapeV
     rw [hu]
     refine ⟨_,rfl,?_⟩
     rw [← hc,← Array.length_toList,← Array.length_toList,← (show acs.map (ren1 ρ') = cs.toList from m),List.length_map]
   · show Value.agg (acs.toArray.map (ren1 ρ')) = .agg cs
     congr 1
     apply Array.toList_inj.1
     rw [Array.toList_map]
     exact m
   · show acs.toArray.all (sc1 H'.length) = true
     simpa using s
 · have hc : v.cells.toList = [v] := by
     cases v <;> first | rfl | exact absurd ⟨_,rfl⟩ hagg
   rw [hc] at m
   match acs,m,s,r with
   | [a],m,s,r =>
     simp only [List.map_cons,List.map_nil,List.cons.injEq,and_true] at m
     have sa : sc1 H'.length a = true := by simpa using s
     refine ⟨ρ',H',a,g,?_,sc2_of_sc1 sa,shape_other (fun cs e => hagg ⟨cs,e⟩) hok a (fun cs e => by subst e; simp [sc1,sc0] at sa),⟨max f N,?_⟩⟩
     · rw [ren_of_sc2 (sc2_of_sc1 sa),ren2_of_sc1 sa]; exact m
     · have : a.cells.toList = [a] := by
         cases a <;> first | rfl | (simp [sc1,sc0] at sa)
       rw [this]
       exact r
def ReadsAll (P : Program) (H : Heap) : List TypeId→List Value→List (DataW K)→Prop
 | [],[],[] => True
 | t :: ts,v :: vs,d :: ds => ReadsV P H t v d∧ReadsAll P H ts vs ds
 | _,_,_ => False
theorem args_ok {N base : Nat} : ∀ {ts : List TypeId} {vs : List Value} {ds : List (DataW K)} {ps : List MemPlace} {ρ : Ren} {H : Heap},ts.all (simple P N) = true→(∀ (j : Nat) (t : TypeId) (v : Value),ts[j]? = some t→vs[j]? = some v→Value.okWide P w .any base t v) →
   DataW.TrodAll enc P w 0 (fun _ => true) held ts vs ds ps→Rel ρ H w→Still H →
   ∃ (ρ' : Ren) (H' : Heap) (avs : List Value),Got P w ρ H ρ' H'∧avs.map (ren ρ') = vs∧avs.all (sc H'.length) = true∧ReadsAll P H' ts avs ds
 | [],[],[],_,ρ,H,_,_,_,R,hst => ⟨ρ,H,[],Got.refl R hst,rfl,rfl,trivial⟩
 | t :: ts,v :: vs,d :: ds,ps,ρ,H,hs,hok,h,R,hst => by
   simp only [List.all_cons,Bool.and_eq_true] at hs
   obtain ⟨p,q,h1,h2,rfl⟩ := h
   obtain ⟨ρ1,H1,av,g1,m1,s1,r1⟩ := arg_ok hs.1 (hok 0 t v rfl rfl) h1 R hst
   obtain ⟨ρ2,H2,avs,g2,m2,s2,r2⟩ := args_ok hs.2 (fun j t' v' hj hv => hok (j + 1) t' v' (by simpa using hj) (by simpa using hv)) h2 g1.rel g1.still
   obtain ⟨X,rfl⟩ := g2.ext
   refine ⟨ρ2,_,av :: avs,g1.trans g2,?_,?_,r1.more,r2⟩
   · rw [List.map_cons,ren_agree g2.agree (sc_of_sc2 s1),m1,m2]
   · rw [List.all_cons,s2,Bool.and_true]
     exact sc_mono g2.len (sc_of_sc2 s1)
 | [],[],_ :: _,_,_,_,_,_,h,_,_ => h.elim
 | [],_ :: _,[],_,_,_,_,_,h,_,_ => h.elim
 | [],_ :: _,_ :: _,_,_,_,_,_,h,_,_ => h.elim
 | _ :: _,[],[],_,_,_,_,_,h,_,_ => h.elim
 | _ :: _,[],_ :: _,_,_,_,_,_,h,_,_ => h.elim
 | _ :: _,_ :: _,[],_,_,_,_,_,h,_,_ => h.elim
theorem open_call {N base : Nat} {f : FuncId} {ts : List TypeId} {args : Array Value} {ds : List (DataW K)} {ps : List MemPlace} (hs : ts.all (simple P N) = true)
   (hok : ∀ (j : Nat) (t : TypeId) (v : Value),ts[j]? = some t→args[j]? = some v→Value.okWide P w .any base t v) (h : DataW.TrodAll enc P w 0 (fun _ => true) held ts args.toList ds ps)
   (law : ∀ (H : Heap) (avs : List Value),Still H→ReadsAll P H ts avs ds→Call P f avs H fun v _ => v = .bool true) :
   Calls P f args w fun e w' => e = .returned (.bool true)∧Below w.heap.size w w' := by
 obtain ⟨ρ',H',avs,g,m,s,r⟩ := args_ok (ρ := ⟨fun _ => 0,fun _ => 0,fun _ => 0⟩) (H := []) hs (fun j t v hj hv => hok j t v hj (by simpa using hv)) h (Rel.empty _ _) Still.nil
 have hc := law H' avs g.still r ρ' w g.rel s
 have : (avs.map (ren ρ')).toArray = args := by rw [m]
 rw [this] at hc
 refine hc.mono ?_
 rintro e w' ⟨ρ2,v,H2,rfl,rfl,_,X,_⟩
 exact ⟨rfl,⟨X.os,X.tape,X.output,X.size,g.still.kept X⟩⟩
end Go.Pier
