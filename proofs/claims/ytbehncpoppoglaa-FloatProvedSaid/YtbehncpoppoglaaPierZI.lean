import Derived.Test.YtbehncpoppoglaaPierKP0
set_option linter.unusedSimpArgs false
set_option linter.unusedVariables false
namespace Go.Pier
open Go
variable {P : Program} {ρ : Ren} {H H' : Heap} {w : World}
variable {ct : Ct} {E : VEnv} {N base : Nat} {ρ0 : Ren} {H0 : Heap} {w0 : World} {F : Fr} {a : Act} {D : Dec} {ops : Array Oper} {o : Oper} {i : Nat} {ro : Option Nat}
open Classical in
noncomputable def ctCall (ct : Ct) : CallFn := fun k args H => match k with
 | .fn f => match ct f args H with
   | some (φ,v,H',l) => if Asks φ then some (v,H',l) else none
   | none => none
 | .round _ => none
theorem ctCall_ok (hct : CtOk P ct) : CallOk P (ctCall ct) := by
 intro f args H v H' l h
 unfold ctCall at h
 split at h
 · rename_i f
   split at h
   · rename_i φ v' H1 l' hc
     split at h
     · rename_i hφ
       cases h
       exact hct _ _ _ _ _ _ _ hc hφ
     · cases h
   · cases h
 · cases h
def apLen (env : Operand→Option Value) (o : Oper) : Option (Nat × Nat × Nat) :=
 match o.op with
 | .call c => match c.callee with
   | .builtin .append => match envs env c.args.toList with
     | some [.slice (some a) n cp,.slice _ m _] => match a.spot with
       | some _ => none
       | none => some (n,m,cp)
     | _ => none
   | _ => none
 | _ => none
theorem apLen_log {env : Operand→Option Value} {n m c : Nat} (h : apLen env o = some (n,m,c)) (hc : ¬ n + m≤c) : evLog env o = [] := by
 unfold apLen at h
 split at h <;> try (cases h; done)
 rename_i cl hop
 split at h <;> try (cases h; done)
 rename_i hcal
 split at h <;> try (cases h; done)
 rename_i a n' cp x m' y hargs
 split at h <;> cases h
 rename_i hs
 unfold evLog
 rw [hop]
 simp only [hcal,hargs,logBuiltin,hs,if_neg hc]
def apIn (env : Operand→Option Value) (o : Oper) : Option (Nat × Nat × Nat × Nat) :=
 match o.op with
 | .call c => match c.callee with
   | .builtin .append => match envs env c.args.toList with
     | some [.slice (some a) n cp,.slice _ m _] => match a.spot with
       | some _ => none
       | none => some (n,m,cp,a.block)
     | _ => none
   | _ => none
 | _ => none
theorem apIn_log {env : Operand→Option Value} {n m c b : Nat} (h : apIn env o = some (n,m,c,b)) (hc : n + m≤c) : evLog env o = [b] := by
 unfold apIn at h
 split at h <;> try (cases h; done)
 rename_i cl hop
 split at h <;> try (cases h; done)
 rename_i hcal
 split at h <;> try (cases h; done)
 rename_i a n' cp x m' y hargs
 split at h <;> cases h
 rename_i hs
 unfold evLog
 rw [hop]
 simp only [hcal,hargs,logBuiltin,hs,if_pos hc]
def apAsk (ap : Bool) (env : Operand→Option Value) (o : Oper) (φ : Prop) : Prop × List Nat :=
 match ap with
 | true => match apIn env o with
   | some (n,m,c,b) => (φ∧n + m≤c,[b])
   | none => (φ,evLog env o)
 | false => (φ,evLog env o)
theorem apAsk_ok {ap : Bool} {env : Operand→Option Value} {φ : Prop} (h : (apAsk ap env o φ).1) : φ∧(apAsk ap env o φ).2 = evLog env o := by
 unfold apAsk at h ⊢
 cases ap with
 | false => exact ⟨h,rfl⟩
 | true =>
   simp only at h ⊢
   cases hi : apIn env o with
   | none => rw [hi] at h; exact ⟨h,rfl⟩
   | some q =>
     obtain ⟨n,m,c,b⟩ := q
     rw [hi] at h
     exact ⟨h.1,(apIn_log hi h.2).symm⟩
def sRun (P : Program) (E : VEnv) (o : Oper) (tm : Array Value) (G : Heap) : Option (Option Prop × Value × Heap × List Nat) :=
 match E.orc (aeval tm) G o with
 | some (φ,v,F) => match E.ap with
   | true => match apAsk true (aeval tm) o φ with
     | (ψ,l) => some (some ψ,v.getD undef,F,l)
   | false => some (some φ,v.getD undef,F,evLog (aeval tm) o)
 | none => match symOp P (aeval tm) G o with
 | some (φ,v,F) => match apLen (aeval tm) o with
   | some (n,m,c) => some (some (andP φ (¬ n + m≤c)),v.getD undef,F,[])
   | none => some (φ,v.getD undef,F,evLog (aeval tm) o)
 | none => match evOp P (aeval tm) G o with
   | some (.enter f args,H1) => E.ct f args H1
   | _ => none
theorem sRun_sound (hE : VOk P E) {tm : Array Value} {G : Heap} {φ : Option Prop} {V : Value} {F : Heap} {l : List Nat} (hw : Region.wanted o (yielded ops tm) = true) (h : sRun P E o tm G = some (φ,V,F,l)) (hφ : Asks φ) :
   runOp P (ctCall E.ct) ops o tm G = some (V,F,l) := by
 unfold sRun at h
 unfold runOp
 rw [if_pos hw]
 split at h
 · rename_i ψ v F' hs
   split at h
   · split at h
     rename_i ψ2 l2 ha
     simp only [Option.some.injEq,Prod.mk.injEq] at h
     obtain ⟨rfl,rfl,rfl,rfl⟩ := h
     have k := apAsk_ok (ap := true) (env := aeval tm) (o := o) (φ := ψ) (by rw [ha]; exact hφ)
     rw [ha] at k
     obtain ⟨k1,k2⟩ := k
     have k2 : l2 = evLog (aeval tm) o := k2
     rw [hE.orc _ _ _ _ _ _ hs k1,k2]
     cases v <;> rfl
   · simp only [Option.some.injEq,Prod.mk.injEq] at h
     obtain ⟨rfl,rfl,rfl,rfl⟩ := h
     rw [hE.orc _ _ _ _ _ _ hs hφ]
     cases v <;> rfl
 split at h
 · rename_i ψ v F' hs
   split at h
   · rename_i n m c hl
     simp only [Option.some.injEq,Prod.mk.injEq] at h
     obtain ⟨rfl,rfl,rfl,rfl⟩ := h
     obtain ⟨h1,h2⟩ := andP_iff.1 hφ
     rw [symOp_sound hs h1]
     have := apLen_log hl h2
     cases v <;> simp only [outOf,this] <;> rfl
   · simp only [Option.some.injEq,Prod.mk.injEq] at h
     obtain ⟨rfl,rfl,rfl,rfl⟩ := h
     rw [symOp_sound hs hφ]
     cases v <;> rfl
 · split at h
   · rename_i f args H1 he
     rw [he]
     simp only [ctCall,h,if_pos hφ]
   · cases h
def dAfter (P : Program) (ops : Array Oper) (ms : List Nat) (i : Nat) (o : Oper) (s : DSt) (r : Value × Heap × List Nat) : Option DSt :=
 let mi := ms.getD i 0
 let un := s.effs.filter fun e => !mi.testBit e.j
 let hide := un.flatMap (·.T) ++ extraH ops o (aeval s.tm) s.G.length
 let E := maskH s.G hide
 let g := s.G.length
 match r with
 | (V,F,l) =>
   let old := l.filter fun b => decide (b < g)
   let x := softPick mi old (s.recs.map (·.g)) s.hides
   if (old.all fun b => !isGone E b) && (old.isEmpty || seenX x mi old 0 (s.recs.map (·.g)) s.hides) &&
      (onceB x && x.all fun q => match s.recs[q.1]? with | some r => softB P ops s.sf F old r.g r.E (aeval r.tm) (fun oj => Region.wanted oj (yielded ops r.tm)) r.V r.T.isEmpty q.1 q.2 | none => false) && sc F.length V &&
      (un.all fun e => decide (e.hi≤e.lo) || (nm (avoid e.lo e.hi) V && (old.all fun b => match F[b]? with | some o => o.nm (avoid e.lo e.hi) | none => true) && (F.drop g).all (·.nm (avoid e.lo e.hi)))) then
     let T := old ++ List.range' g (F.length - g)
     some { sf := sfPut i x s.sf, recs := s.recs ++ [{ g, E, F, T, V, tm := s.tm }], hides := s.hides ++ [hide], effs := if T.isEmpty then s.effs else s.effs ++ [{ j := i, lo := g, hi := F.length, T }],
            Gs := s.Gs ++ [s.G],G := showH s.G F hide,tm := aput s.tm o.dst V }
   else none
def dSees (ops : Array Oper) (ms : List Nat) (i : Nat) (o : Oper) (s : DSt) : Heap := maskH s.G ((s.effs.filter fun e => !(ms.getD i 0).testBit e.j).flatMap (·.T) ++ extraH ops o (aeval s.tm) s.G.length)
theorem dstep_eq {call : CallFn} {ms : List Nat} {s : DSt} : dstep P call ops ms i o s = (runOp P call ops o s.tm (dSees ops ms i o s)).bind (dAfter P ops ms i o s) := rfl
def symV (P : Program) (Ev : VEnv) (env : Operand→Option Value) (G : Heap) (o : Oper) : Option (Option Prop × Value) :=
 match Ev.orc env G o with
 | some (φ,v,_) => match v with | some v => some (some φ,v) | none => none
 | none => match symOp P env G o with
   | some (φ,v,_) => match v with | some v => some (φ,v) | none => none
   | none => none
theorem symV_sound (hE : VOk P E) {env : Operand→Option Value} {G : Heap} {φ : Option Prop} {v : Value} (h : symV P E env G o = some (φ,v)) (hφ : Asks φ) : ∃ H2,evOp P env G o = some (.value v,H2) := by
 unfold symV at h
 split at h
 · rename_i ψ u H2 hs
   split at h <;> cases h
   exact ⟨H2,hE.orc _ _ _ _ _ _ hs hφ⟩
 · split at h
   · rename_i ψ u H2 hs
     split at h <;> cases h
     exact ⟨H2,symOp_sound hs hφ⟩
   · cases h
def softA (P : Program) (ops : Array Oper) (sf : List (Nat × Nat × Nat)) (old : List Nat) (g : Nat) (G : Heap) (env : Operand→Option Value) (te : Bool) (i b : Nat) : Bool :=
 (match sfGet sf i with | none => true | some _ => false) && (match ops[i]? with | some oi => (match rowOf P env G oi with | none => true | some _ => false) | none => true) && (old.contains b && (te && (decide (b < g) && !isGone G b)))
def softQ (P : Program) (Ev : VEnv) (ops : Array Oper) (sf : List (Nat × Nat × Nat)) (F : Heap) (old : List Nat) (g : Nat) (G : Heap) (env : Operand→Option Value) (want : Oper→Bool) (V : Value) (te : Bool) (i b : Nat) : Option Prop :=
 match softA P ops sf old g G env te i b with
 | true => match F[b]?,ops[i]? with
   | some o',some oi => match want oi && still oi.op with
     | true => match symV P Ev env (G.set b o') oi with
       | some (φ,v) => match φ with
         | some φ => some (o'.sc g = true∧φ∧eqV v V = true)
         | none => some (o'.sc g = true∧eqV v V = true)
       | none => none
     | false => none
   | _,_ => none
 | false => none
theorem softQ_sound (hE : VOk P E) {sf : List (Nat × Nat × Nat)} {G : Heap} {old : List Nat} {g i b : Nat} {G0 : Heap} {env : Operand→Option Value} {want : Oper→Bool} {V : Value} {te : Bool} {ψ : Prop} (h : softQ P E ops sf G old g G0 env want V te i b = some ψ) (hψ : ψ) :
   softB P ops sf G old g G0 env want V te i b = true := by
 unfold softQ at h
 split at h <;> try (cases h; done)
 rename_i hA
 unfold softA at hA
 split at h <;> try (cases h; done)
 rename_i o' oi ho' hoi
 split at h <;> try (cases h; done)
 rename_i hw
 simp only [Bool.and_eq_true] at hw
 split at h <;> try (cases h; done)
 rename_i φ v hs
 have key : o'.sc g = true∧Asks φ∧eqV v V = true := by
   split at h <;> cases h
   · exact hψ
   · exact ⟨hψ.1,trivial,hψ.2⟩
 obtain ⟨H2,he⟩ := symV_sound hE hs key.2.1
 unfold softB
 simp only [Bool.and_eq_true] at hA ⊢
 obtain ⟨⟨a1,a2⟩,a3,a4,a5,a6⟩ := hA
 refine ⟨⟨a1,a2⟩,a3,a4,a5,a6,?_⟩
 rw [ho',hoi]
 simp only [Bool.and_eq_true]
 refine ⟨hw.1,key.1,hw.2,?_⟩
 rw [he]
 exact key.2.2
def softAll (f : Nat × Nat→Option Prop) : List (Nat × Nat)→Option Prop
 | [] => some True
 | q :: r => match f q,softAll f r with
   | some a,some b => some (a∧b)
   | _,_ => none
theorem softAll_get {f : Nat × Nat→Option Prop} : ∀ {l : List (Nat × Nat)} {ψ : Prop},softAll f l = some ψ→ψ→∀ q ∈ l,∃ a,f q = some a∧a
 | [],_,_,_,q,hq => by cases hq
 | p :: r,ψ,h,hψ,q,hq => by
   unfold softAll at h
   split at h <;> cases h
   rename_i a b ha hb
   rcases List.mem_cons.1 hq with rfl | hq
   · exact ⟨a,ha,hψ.1⟩
   · exact softAll_get hb hψ.2 q hq
def dAfterS (P : Program) (Ev : VEnv) (ops : Array Oper) (ms : List Nat) (i : Nat) (o : Oper) (s : DSt) (r : Value × Heap × List Nat) : Option (Option Prop × DSt) :=
 match softPick (ms.getD i 0) (r.2.2.filter fun b => decide (b < s.G.length)) (s.recs.map (·.g)) s.hides with
 | [] => match dAfter P ops ms i o s r with
   | some s' => some (none,s')
   | none => none
 | x =>
   let mi := ms.getD i 0
   let un := s.effs.filter fun e => !mi.testBit e.j
   let hide := un.flatMap (·.T) ++ extraH ops o (aeval s.tm) s.G.length
   let E := maskH s.G hide
   let g := s.G.length
   match r with
   | (V,F,l) =>
     let old := l.filter fun b => decide (b < g)
     match (old.all fun b => !isGone E b) && (old.isEmpty || seenX x mi old 0 (s.recs.map (·.g)) s.hides) && onceB x && sc F.length V &&
        (un.all fun e => decide (e.hi≤e.lo) || (nm (avoid e.lo e.hi) V && (old.all fun b => match F[b]? with | some o => o.nm (avoid e.lo e.hi) | none => true) && (F.drop g).all (·.nm (avoid e.lo e.hi)))) with
     | true => match softAll (fun q => match s.recs[q.1]? with | some r => softQ P Ev ops s.sf F old r.g r.E (aeval r.tm) (fun oj => Region.wanted oj (yielded ops r.tm)) r.V r.T.isEmpty q.1 q.2 | none => none) x with
       | some ψ =>
         let T := old ++ List.range' g (F.length - g)
         some (some ψ,DSt.mk (sfPut i x s.sf) (s.recs ++ [DRec.mk g E F T V s.tm]) (s.hides ++ [hide]) (if T.isEmpty then s.effs else s.effs ++ [Eff.mk i g F.length T]) (s.Gs ++ [s.G]) (showH s.G F hide) (aput s.tm o.dst V))
       | none => none
     | false => none
theorem dAfterS_sound (hE : VOk P E) {ms : List Nat} {s s' : DSt} {r : Value × Heap × List Nat} {ψ : Option Prop} (h : dAfterS P E ops ms i o s r = some (ψ,s')) (hψ : Asks ψ) : dAfter P ops ms i o s r = some s' := by
 unfold dAfterS at h
 split at h
 · split at h <;> cases h
   assumption
 · rename_i x hx
   obtain ⟨V,F,l⟩ := r
   simp only at h
   split at h <;> try (cases h; done)
   rename_i hc
   split at h <;> cases h
   rename_i ψ hs
   simp only [Bool.and_eq_true] at hc
   obtain ⟨⟨⟨⟨c1,c2⟩,c3⟩,c4⟩,c5⟩ := hc
   unfold dAfter
   simp only
   rw [if_pos]
   simp only [Bool.and_eq_true]
   refine ⟨⟨⟨⟨c1,c2⟩,c3,List.all_eq_true.2 fun q hq => ?_⟩,c4⟩,c5⟩
   obtain ⟨a,ha,hka⟩ := softAll_get hs hψ q hq
   split at ha
   · exact softQ_sound hE ha hka
   · cases ha
section
variable (P) (E : VEnv)
def vdRun (ops : Array Oper) (ms : List Nat) (i : Nat) (o : Oper) (D : Dec) (s : DSt) (K : Dec→DSt→Prop) : Prop :=
 match symRow P (aeval s.tm) (dSees ops ms i o s) o with
 | some q => vRowK q (dSees ops ms i o s) fun v H1 => match dAfter P ops ms i o s (v,H1,[]) with
   | some s' => K (dnew D o) s'
   | none => False
 | none => match sRun P E o s.tm (dSees ops ms i o s) with
 | some (φ,r) => match dAfterS P E ops ms i o s r with
   | some (ψ,s') => match φ,ψ with
     | none,none => K (dnew D o) s'
     | some φ,none => Ob φ∧K (dnew D o) s'
     | none,some ψ => Ob ψ∧K (dnew D o) s'
     | some φ,some ψ => Ob φ∧Ob ψ∧K (dnew D o) s'
   | none => False
 | none => False
def vdNot (ops : Array Oper) (ms : List Nat) (i : Nat) (o : Oper) (D : Dec) (s : DSt) (K : Dec→DSt→Prop) : Prop :=
 match dAfter P ops ms i o s (undef,dSees ops ms i o s,[]) with
 | some s' => K (dput D o.dst) s'
 | none => False
def vdStep (ops : Array Oper) (ms : List Nat) (i : Nat) (o : Oper) (D : Dec) (s : DSt) (K : Dec→DSt→Prop) : Prop :=
 match o.guard with
 | none => vdRun P E ops ms i o D s K
 | some (j,want) => match (ops[j]?).bind (·.dst) with
   | none => False
   | some d => match s.tm.getD d undef with
     | .bool b => match dget D d with
       | some b' => match b,b' with
         | true,true => match want with | true => vdRun P E ops ms i o D s K | false => vdNot P ops ms i o D s K
         | false,false => match want with | true => vdNot P ops ms i o D s K | false => vdRun P E ops ms i o D s K
         | _,_ => False
       | none => (b = want→vdRun P E ops ms i o ((d,want) :: D) { s with tm := s.tm.setIfInBounds d (.bool want) } K)∧(b = (!want)→vdNot P ops ms i o ((d,!want) :: D) { s with tm := s.tm.setIfInBounds d (.bool (!want)) } K)
     | .tuple _ => vdNot P ops ms i o D s K
     | _ => False
def vdGo (ops : Array Oper) (ms : List Nat) : Nat→List Oper→Dec→DSt→(Dec→DSt→Prop)→Prop
 | _,[],D,s,K => K D s
 | i,o :: r,D,s,K => vdStep P E ops ms i o D s fun D s => vdGo ops ms (i + 1) r D s K
def vDraw (N : Nat) (ops : Array Oper) (D : Dec) (F : Fr) (H : Heap) (K : Dec→Fr→Heap→Prop) : Prop :=
 match staticOk ops (masks ops) && readsOk F N ops with
 | true => vdGo P E ops (masks ops) 0 ops.toList D { sf := [],recs := [],hides := [],effs := [],Gs := [],G := H,tm := frT N F } fun D s => K D (drawF ops s.tm F) s.G
 | false => False
end
theorem vdRun_sound (hE : VOk P E) {ms : List Nat} {s : DSt} {K : Dec→DSt→Prop} (hw : Region.wanted o (yielded ops s.tm) = true) (h : vdRun P E ops ms i o D s K) : ∃ s' D',dstep P (ctCall E.ct) ops ms i o s = some s'∧K D' s' := by
 unfold vdRun at h
 split at h
 · rename_i q hrow
   obtain ⟨v,H1,h1,h2,h3⟩ := symRow_sound hrow h
   split at h3 <;> try (exact h3.elim)
   rename_i s' hs
   refine ⟨s',_,?_,h3⟩
   rw [dstep_eq]
   have : runOp P (ctCall E.ct) ops o s.tm (dSees ops ms i o s) = some (v,H1,[]) := by
     unfold runOp
     rw [if_pos hw,h2]
     simp only [h1]
   rw [this]
   exact hs
 split at h <;> try (exact h.elim)
 rename_i φ r hr
 obtain ⟨V,F,l⟩ := r
 split at h <;> try (exact h.elim)
 rename_i ψ s' hs
 obtain ⟨hφ,hψ,hk⟩ : Asks φ∧Asks ψ∧K (dnew D o) s' := by
   split at h
   · exact ⟨trivial,trivial,h⟩
   · exact ⟨h.1.out,trivial,h.2⟩
   · exact ⟨trivial,h.1.out,h.2⟩
   · exact ⟨h.1.out,h.2.1.out,h.2.2⟩
 have hs := dAfterS_sound hE hs hψ
 refine ⟨s',_,?_,hk⟩
 rw [dstep_eq,sRun_sound hE hw hr hφ]
 exact hs
theorem vdNot_sound {ms : List Nat} {s : DSt} {K : Dec→DSt→Prop} (hw : Region.wanted o (yielded ops s.tm) = false) (h : vdNot P ops ms i o D s K) : ∃ s' D',dstep P (ctCall E.ct) ops ms i o s = some s'∧K D' s' := by
 unfold vdNot at h
 split at h <;> try (exact h.elim)
 rename_i s' hs
 refine ⟨s',_,?_,h⟩
 rw [dstep_eq]
 have : runOp P (ctCall E.ct) ops o s.tm (dSees ops ms i o s) = some (undef,dSees ops ms i o s,[]) := by
   unfold runOp
   rw [if_neg (by rw [hw]; exact Bool.false_ne_true)]
 rw [this]
 exact hs
theorem yielded_t {t : Array Value} {d j : Nat} (hd : (ops[j]?).bind (·.dst) = some d) : yielded ops t j = match t.getD d undef with | .bool b => some b | _ => none := by
 unfold yielded
 rw [hd]
 simp only [Option.bind_some,Array.getD_eq_getD_getElem?]
 cases t[d]? with
 | none => rfl
 | some v => cases v <;> rfl
theorem set_same {t : Array Value} {d : Nat} {v : Value} (h : t.getD d undef = v) (hv : v ≠ undef) : t.setIfInBounds d v = t := by
 apply Array.ext_getElem?
 intro k
 rw [Array.getElem?_setIfInBounds]
 split
 · rename_i e
   subst e
   rw [Array.getD_eq_getD_getElem?] at h
   cases hk : t[d]? with
   | none => rw [hk] at h; exact absurd h.symm hv
   | some u =>
     rw [hk] at h
     have hlt := (Array.getElem?_eq_some_iff.1 hk).1
     rw [if_pos hlt,← h]; rfl
 · rfl
theorem vdStep_sound (hE : VOk P E) {ms : List Nat} {s : DSt} {K : Dec→DSt→Prop} (h : vdStep P E ops ms i o D s K) : ∃ s' D',dstep P (ctCall E.ct) ops ms i o s = some s'∧K D' s' := by
 unfold vdStep at h
 split at h
 · rename_i hg
   exact vdRun_sound hE (by simp [Region.wanted,hg]) h
 · rename_i j want hg
   split at h <;> try (exact h.elim)
   rename_i d hd
   split at h
   · rename_i b hb
     have hy : yielded ops s.tm j = some b := by rw [yielded_t hd,hb]
     have hyes : b = want→Region.wanted o (yielded ops s.tm) = true := fun e => by simp [Region.wanted,hg,hy,e]
     have hno : b = (!want)→Region.wanted o (yielded ops s.tm) = false := fun e => by subst e; cases want <;> simp [Region.wanted,hg,hy]
     split at h
     · split at h
       · cases want with
         | true => exact vdRun_sound hE (hyes rfl) h
         | false => exact vdNot_sound (hno rfl) h
       · cases want with
         | true => exact vdNot_sound (hno rfl) h
         | false => exact vdRun_sound hE (hyes rfl) h
       · exact h.elim
     · by_cases e : b = want
       · have h1 := h.1 e
         rw [set_same (by rw [hb,e]) (by simp [undef])] at h1
         exact vdRun_sound hE (hyes e) h1
       · have e' : b = !want := by cases b <;> cases want <;> simp_all
         have h1 := h.2 e'
         rw [set_same (by rw [hb,e']) (by simp [undef])] at h1
         exact vdNot_sound (hno e') h1
   · rename_i vs hb
     have hy : yielded ops s.tm j = none := by rw [yielded_t hd,hb]
     exact vdNot_sound (by simp [Region.wanted,hg,hy]) h
   · exact h.elim
theorem vdGo_sound (hE : VOk P E) {ms : List Nat} {K : Dec→DSt→Prop} : ∀ (r : List Oper) (i : Nat) (D : Dec) (s : DSt),vdGo P E ops ms i r D s K→∃ s' D',drun P (ctCall E.ct) ops ms i r s = some s'∧K D' s'
 | [],_,D,s,h => ⟨s,D,rfl,h⟩
 | o :: r,i,D,s,h => by
   obtain ⟨s1,D1,h1,h2⟩ := vdStep_sound hE (show vdStep P E ops ms i o D s _ from h)
   obtain ⟨s2,D2,h3,h4⟩ := vdGo_sound hE r (i + 1) D1 s1 h2
   exact ⟨s2,D2,by simp only [drun,h1,Option.bind_some]; exact h3,h4⟩
theorem vDraw_sound (hE : VOk P E) (hm : P.follows .mixedOrders = true) {n0 id : Nat} {K : AExit→Dec→Fr→Heap→Prop} (h : vDraw P E N ops D F H (K .normal)) : VW n0 N ro P (.region id ops true) H F (fun x F H => ∃ D,K x D F H) := by
 unfold vDraw at h
 split at h <;> try (exact h.elim)
 rename_i hs
 simp only [Bool.and_eq_true] at hs
 obtain ⟨s',D',h1,h2⟩ := vdGo_sound hE _ _ _ _ h
 refine VW.draw (ctCall_ok hE.ct) hm (t' := s'.tm) (H' := s'.G) (l := (s'.effs.flatMap (·.T)).filter fun b => decide (b < H.length)) hs.2 ?_ ⟨D',h2⟩
 unfold evDraw
 rw [if_pos hs.1,h1]
 rfl
structure LShape (I : Type 1) where
 X : Type
 ok : X→Prop
 F : X→Fr
 H : X→Heap
 μ : X→Nat
 sub : X→Nat→Option I
inductive LInv : Type 1 where
 | mk (shapes : List (LShape LInv)) (σ0 : Nat→Nat→Nat) (σ : Nat→Nat→List (Nat→Nat))
def LInv.shapes : LInv→List (LShape LInv) | .mk s _ _ => s
def LInv.σ0 : LInv→Nat→Nat→Nat | .mk _ s _ => s
def LInv.σ : LInv→Nat→Nat→List (Nat→Nat) | .mk _ _ s => s
def LInv.one (X : Type) (ok : X→Prop) (F : X→Fr) (H : X→Heap) (μ : X→Nat) (sub : X→Nat→Option LInv := fun _ _ => none) : LInv := .mk [⟨X,ok,F,H,μ,sub⟩] (fun _ b => b) (fun _ _ => [fun b => b])
def invOf (id : Nat) (I : LInv) : Nat→Option LInv := fun k => match Nat.beq k id with | true => some I | false => none
def allBelow (p : Nat→Bool) : Nat→Bool
 | 0 => true
 | n + 1 => p n && allBelow p n
theorem allBelow_iff {p : Nat→Bool} : ∀ {n : Nat},allBelow p n = true→∀ i,i < n→p i = true
 | 0,_,i,hi => by omega
 | n + 1,h,i,hi => by
   simp only [allBelow,Bool.and_eq_true] at h
   by_cases e : i = n
   · rw [e]; exact h.1
   · exact allBelow_iff h.2 i (by omega)
def nameOk (n0 : Nat) (σ : Nat→Nat) (n : Nat) : Bool :=
 Nat.ble n0 n && (allBelow (fun b => Nat.beq (σ b) b) n0 && allBelow (fun b => allBelow (fun c => Nat.beq b c || !Nat.beq (σ b) (σ c)) n) n)
def objEq (σ : Nat→Nat) (n : Nat) (o' o : AObj) : Prop := Ob (o' = omap σ o∧o.sc n = true)
def valEq (σ : Nat→Nat) (n : Nat) (u v : Value) : Prop :=
 match u,v with
 | .int k a,.int k' b => match eqKind k k' with | true => Ob (a = b) | false => False
 | .bool a,.bool b => Ob (a = b)
 | u,v => match sc n v with | true => Ob (u = nmap σ v) | false => False
def objsOk (σ : Nat→Nat) (H : Heap) (n : Nat) : Nat→Heap→Prop
 | _,[] => True
 | i,o :: r => match o with
   | .gone => objsOk σ H n (i + 1) r
   | o => match H[σ i]? with
     | some o' => objEq σ n o' o∧objsOk σ H n (i + 1) r
     | none => False
def frsOk (σ : Nat→Nat) (F : Fr) (n : Nat) : Fr→Prop
 | [] => True
 | (k,v) :: r => match F.get k with
   | some u => valEq σ n u v∧frsOk σ F n r
   | none => False
def Reach (n0 : Nat) (σ : Nat→Nat) (F : Fr) (H : Heap) (F2 : Fr) (H2 : Heap) : Prop :=
 match nameOk n0 σ H2.length with
 | true => objsOk σ H H2.length 0 H2∧frsOk σ F H2.length F2
 | false => False
theorem valEq_iff {σ : Nat→Nat} {n : Nat} {u v : Value} (h : valEq σ n u v) : u = nmap σ v∧sc n v = true := by
 unfold valEq at h
 split at h
 · split at h
   · rename_i hk
     rw [eqKind_eq hk,h.out]
     exact ⟨rfl,rfl⟩
   · exact h.elim
 · rw [h.out]; exact ⟨rfl,rfl⟩
 · split at h
   · exact ⟨h.out,by assumption⟩
   · exact h.elim
theorem objsOk_get {σ : Nat→Nat} {n : Nat} : ∀ {H2 : Heap} {i : Nat},objsOk σ H n i H2→∀ (b : Nat) (o : AObj),H2[b]? = some o→o = .gone∨(H[σ (i + b)]? = some (omap σ o)∧o.sc n = true)
 | [],_,_,b,o,hb => by simp at hb
 | o :: r,i,h,0,o',hb => by
   cases hb
   unfold objsOk at h
   split at h
   · exact .inl rfl
   · split at h
     · rename_i u hu
       right
       rw [Nat.add_zero,hu,h.1.out.1]
       exact ⟨rfl,h.1.out.2⟩
     · exact h.elim
 | o :: r,i,h,b + 1,o',hb => by
   have h2 : objsOk σ H n (i + 1) r := by
     unfold objsOk at h
     split at h
     · exact h
     · split at h
       · exact h.2
       · exact h.elim
   have := objsOk_get h2 b o' (by simpa using hb)
   rw [show i + 1 + b = i + (b + 1) by omega] at this
   exact this
theorem frsOk_get {σ : Nat→Nat} {n : Nat} : ∀ {F2 : Fr},frsOk σ F n F2→∀ k v,F2.get k = some v→F.get k = some (nmap σ v)∧sc n v = true
 | [],_,k,v,hk => by cases hk
 | (k0,v0) :: r,h,k,v,hk => by
   unfold frsOk at h
   split at h
   · rename_i u hu
     rw [Fr.get_cons] at hk
     split at hk
     · rename_i e; subst e; cases hk
       obtain ⟨h1,h2⟩ := valEq_iff h.1
       rw [hu,h1]; exact ⟨rfl,h2⟩
     · exact frsOk_get h.2 k v hk
   · exact h.elim
theorem Reach.anew {n0 : Nat} {σ : Nat→Nat} {F2 : Fr} {H2 : Heap} (h : Reach n0 σ F H F2 H2) : Anew n0 σ H H2∧∀ k v,F2.get k = some v→F.get k = some (nmap σ v)∧sc H2.length v = true := by
 unfold Reach at h
 split at h
 case h_2 => exact h.elim
 rename_i h1
 obtain ⟨h2,h3⟩ := h
 simp only [nameOk,Bool.and_eq_true] at h1
 obtain ⟨k1,k2,k3⟩ := h1
 refine ⟨⟨Nat.le_of_ble_eq_true k1,fun b hb => Nat.eq_of_beq_eq_true (allBelow_iff k2 b hb),fun b o hb => ?_,fun b b' o hb hb' _ _ _ he => ?_,fun b o hb => ?_⟩,frsOk_get h3⟩
 · have := objsOk_get h2 b o hb
   simp only [Nat.zero_add] at this
   exact this.imp id And.left
 · have := allBelow_iff (allBelow_iff k3 b hb) b' hb'
   simp only [Bool.or_eq_true,Bool.not_eq_true'] at this
   rcases this with h | h
   · exact Nat.eq_of_beq_eq_true h
   · exact absurd he (Nat.ne_of_beq_eq_false h)
 · rcases objsOk_get h2 b o hb with rfl | h
   · rfl
   · exact h.2
abbrev KD := AExit→Dec→Fr→Heap→Prop
def thenD (N : Dec→Fr→Heap→Prop) (K : KD) : KD
 | .normal => N
 | x => K x
def blockD (id : Nat) (K : KD) : KD
 | .exit j => match Nat.beq j id with | true => K .normal | false => K (.exit j)
 | x => K x
def enterS (n0 : Nat) (σ : Nat→Nat→Nat) (F : Fr) (H : Heap) : Nat→List (LShape LInv)→Prop
 | _,[] => False
 | j,s :: r => match r with
   | [] => ∃ y,Ob (s.ok y)∧Reach n0 (σ j) F H (s.F y) (s.H y)
   | r => (∃ y,Ob (s.ok y)∧Reach n0 (σ j) F H (s.F y) (s.H y))∨enterS n0 σ F H (j + 1) r
def orS (p : (Nat→Nat)→Prop) : List (Nat→Nat)→Prop
 | [] => False
 | σ :: r => match r with
   | [] => p σ
   | r => p σ∨orS p r
theorem orS_get {p : (Nat→Nat)→Prop} : ∀ {l : List (Nat→Nat)},orS p l→∃ σ,p σ
 | [],h => h.elim
 | σ :: r,h => by
   unfold orS at h
   split at h
   · exact ⟨σ,h⟩
   · rcases h with h | h
     · exact ⟨σ,h⟩
     · exact orS_get h
def againS (n0 : Nat) (σ : Nat→List (Nat→Nat)) (m : Nat) (F : Fr) (H : Heap) : Nat→List (LShape LInv)→Prop
 | _,[] => False
 | j,s :: r => match r with
   | [] => orS (fun τ => ∃ y,Ob (s.ok y)∧Ob (s.μ y < m)∧Reach n0 τ F H (s.F y) (s.H y)) (σ j)
   | r => orS (fun τ => ∃ y,Ob (s.ok y)∧Ob (s.μ y < m)∧Reach n0 τ F H (s.F y) (s.H y)) (σ j)∨againS n0 σ m F H (j + 1) r
def allS (p : Nat→LShape LInv→Prop) : Nat→List (LShape LInv)→Prop
 | _,[] => True
 | j,s :: r => match r with
   | [] => p j s
   | r => p j s∧allS p (j + 1) r
theorem enterS_get {n0 : Nat} {σ : Nat→Nat→Nat} {F : Fr} {H : Heap} : ∀ {l : List (LShape LInv)} {j : Nat},enterS n0 σ F H j l→∃ (i : Nat) (s : LShape LInv) (y : s.X),l[i]? = some s∧s.ok y∧Reach n0 (σ (j + i)) F H (s.F y) (s.H y)
 | [],_,h => h.elim
 | s :: r,j,h => by
   unfold enterS at h
   split at h
   · obtain ⟨y,h1,h2⟩ := h
     exact ⟨0,s,y,rfl,h1.out,h2⟩
   · rcases h with ⟨y,h1,h2⟩ | h
     · exact ⟨0,s,y,rfl,h1.out,h2⟩
     · obtain ⟨i,s',y,h1,h2,h3⟩ := enterS_get h
       exact ⟨i + 1,s',y,h1,h2,by rw [show j + (i + 1) = j + 1 + i by omega]; exact h3⟩
theorem againS_get {n0 : Nat} {σ : Nat→List (Nat→Nat)} {m : Nat} {F : Fr} {H : Heap} : ∀ {l : List (LShape LInv)} {j : Nat},againS n0 σ m F H j l→∃ (i : Nat) (s : LShape LInv) (y : s.X) (τ : Nat→Nat),l[i]? = some s∧s.ok y∧s.μ y < m∧Reach n0 τ F H (s.F y) (s.H y)
 | [],_,h => h.elim
 | s :: r,j,h => by
   unfold againS at h
   split at h
   · obtain ⟨τ,y,h1,h2,h3⟩ := orS_get h
     exact ⟨0,s,y,τ,rfl,h1.out,h2.out,h3⟩
   · rcases h with h | h
     · obtain ⟨τ,y,h1,h2,h3⟩ := orS_get h
       exact ⟨0,s,y,τ,rfl,h1.out,h2.out,h3⟩
     · obtain ⟨i,s',y,τ,h1,h2,h3,h4⟩ := againS_get h
       exact ⟨i + 1,s',y,τ,h1,h2,h3,h4⟩
theorem allS_get {p : Nat→LShape LInv→Prop} : ∀ {l : List (LShape LInv)} {j i : Nat} {s : LShape LInv},allS p j l→l[i]? = some s→p (j + i) s
 | [],_,i,_,_,hi => by simp at hi
 | s :: r,j,i,s',h,hi => by
   have hh : p j s∧(r = []∨allS p (j + 1) r) := by
     unfold allS at h
     split at h
     · exact ⟨h,.inl rfl⟩
     · exact ⟨h.1,.inr h.2⟩
   cases i with
   | zero => cases hi; exact hh.1
   | succ i =>
     simp only [List.getElem?_cons_succ] at hi
     rcases hh.2 with rfl | h2
     · simp at hi
     · rw [show j + (i + 1) = j + 1 + i by omega]; exact allS_get h2 hi
def roundD (n0 : Nat) (I : LInv) (i m : Nat) (K : KD) : KD
 | .normal => fun _ F H => againS n0 (I.σ i) m F H 0 I.shapes
 | e => K e
def condV (F : Fr) (D : Dec) (o : Operand) (y n : Dec→Fr→Prop) : Prop :=
 match o with
 | .tmp k => match F.get k with
   | some (.bool b) => match dget D k with
     | some b' => match b,b' with
       | true,true => y D F
       | false,false => n D F
       | _,_ => False
     | none => (b = true→y ((k,true) :: D) ((k,.bool true) :: F))∧(b = false→n ((k,false) :: D) ((k,.bool false) :: F))
   | _ => False
 | _ => False
def pendD (pend : Option Code) (D : Dec) (F : Fr) (H : Heap) (K : KD) : Prop :=
 match pend with
 | none => K .normal D F H
 | some c => match c with
   | .exit id => K (.exit id) D F H
   | .ret => K .ret D F H
   | _ => False
def rangeEndD (n : Nat) (D : Dec) (F : Fr) (K : KD) (H2 : Heap) : Prop :=
 match H2[n]? with
 | some (.loop st pend _ _ _ _) => match st with
   | .busy => False
   | _ => pendD pend D F (H2.set n .gone) K
 | _ => False
def vRange (P : Program) (E : VEnv) (N : Nat) (g : Operand) (ps : Array Tmp) (assign body : Code) (D : Dec) (F : Fr) (H : Heap) (K : KD) : Prop :=
 match fenv F g with
 | some (.func (.func gf) a cap) => match fnOk P gf with
   | true => vCall E gf (a.toList ++ [.func (.yield H.length) #[] #[]] ++ cap.toList) (H ++ [.loop .ready none (frJ N F) ps assign body]) fun _ H2 => rangeEndD H.length D F K H2
   | false => False
 | _ => False
theorem vCall_sound (hE : VOk P E) {f : FuncId} {args : List Value} {Q : Value→Heap→Prop} (h : vCall E f args H Q) : Call P f args H Q := by
 unfold vCall at h
 split at h
 · rename_i T hT; exact hE.cc _ _ _ _ hT _ h
 · split at h
   · rename_i v H2 l hc; exact (hE.ct _ _ _ _ _ _ _ hc trivial).1.mono fun v' H' ⟨e1,e2⟩ => by subst e1; subst e2; exact h
   · rename_i φ v H2 l hc; exact (hE.ct _ _ _ _ _ _ _ hc h.1.out).1.mono fun v' H' ⟨e1,e2⟩ => by subst e1; subst e2; exact h.2
   · exact h.elim
theorem vRange_sound (hE : VOk P E) {n0 : Nat} {g : Operand} {ps : Array Tmp} {assign body : Code} {K : KD} (h : vRange P E N g ps assign body D F H K) : VW n0 N none P (.rangeFunc g ps assign body) H F (fun x F H => ∃ D,K x D F H) := by
 unfold vRange at h
 split at h <;> try (exact h.elim)
 rename_i gf a cap hg
 split at h <;> try (exact h.elim)
 rename_i hok
 refine VW.rangeFunc hg hok ((vCall_sound hE h).mono fun v H2 hq => ?_)
 unfold rangeEndD at hq
 unfold rangeEndV
 split at hq <;> try (exact hq.elim)
 rename_i st pend t ps1 as1 bd1 hb
 rw [hb]
 simp only
 split at hq
 · exact hq.elim
 · rename_i hne
   unfold pendD at hq
   unfold pendV
   split
   · exact hne rfl
   · split at hq
     · exact ⟨_,hq⟩
     · split at hq
       · exact ⟨_,hq⟩
       · exact ⟨_,hq⟩
       · exact hq.elim
section
variable (P) (E : VEnv) (n0 N : Nat) (top : Bool)
def vc : (Nat→Option LInv)→Code→Dec→Fr→Heap→KD→Prop
 | _,.skip,D,F,H,K => K .normal D F H
 | _,.label _,D,F,H,K => K .normal D F H
 | _,.exit id,D,F,H,K => K (.exit id) D F H
 | _,.ret,D,F,H,K => K .ret D F H
 | _,.region _ ops false,D,F,H,K => vSeq P E N ops ops.toList D F H (K .normal)
 | _,.region _ ops true,D,F,H,K => vDraw P E N ops D F H (K .normal)
 | inv,.seq a b,D,F,H,K => vc inv a D F H (thenD (fun D F H => vc inv b D F H K) K)
 | inv,.cond o a b,D,F,H,K => condV F D o (fun D F => vc inv a D F H K) (fun D F => vc inv b D F H K)
 | inv,.block id c,D,F,H,K => match c with
   | .loop b => match inv id with
     | some I => enterS n0 I.σ0 F H 0 I.shapes∧allS (fun i s => ∀ x,Ob (s.ok x)→vc (s.sub x) b [] (s.F x) (s.H x) (roundD n0 I i (s.μ x) (blockD id K))) 0 I.shapes
     | none => False
   | c => vc inv c D F H (blockD id K)
 | inv,.scope c,D,F,H,K => vc inv c D F H K
 | _,.rangeFunc g ps a b,D,F,H,K => match top with
   | true => vRange P E N g ps a b D F H K
   | false => False
 | _,_,_,_,_,_ => False
end
def vTop (ro : Option Nat) : Bool := match ro with | none => true | some _ => false
theorem At.reach {n0 : Nat} {σ : Nat→Nat} {F2 : Fr} {H2 : Heap} (hA : At N base ρ0 H0 w0 H F a w) (hn : H0.length = n0) (h : Reach n0 σ F H F2 H2) : At N base ρ0 H0 w0 H2 F2 a w := by
 obtain ⟨h1,h2⟩ := h.anew
 subst hn
 exact hA.anew h1 h2
theorem vc_sound (hct : VOk P E) (hm : P.follows .mixedOrders = true) {n0 : Nat} {ro : Option Nat} : ∀ {inv : Nat→Option LInv} (c : Code) (D : Dec) (F : Fr) (H : Heap) (K : KD),vc P E n0 N (vTop ro) inv c D F H K→VW n0 N ro P c H F (fun x F H => ∃ D,K x D F H)
 | _,.skip,D,F,H,K,h => VW.skip ⟨D,h⟩
 | _,.label _,D,F,H,K,h => VW.label ⟨D,h⟩
 | _,.exit _,D,F,H,K,h => VW.exit ⟨D,h⟩
 | _,.ret,D,F,H,K,h => VW.ret ⟨D,h⟩
 | _,.region id ops false,D,F,H,K,h => fun base ρ0 H0 w0 a w hn hA => by
   refine wpIn_region ?_
   rw [List.range_eq_range',← Array.length_toList]
   exact vSeq_sound hct ops.toList 0 D F H a w rfl h hA fun D F H a w h1 h2 => ⟨.normal,F,H,rfl,⟨D,h1⟩,h2⟩
 | _,.region id ops true,D,F,H,K,h => vDraw_sound hct hm h
 | _, .seq x y, D, F, H, K, h => VW.seq ((vc_sound hct hm x D F H _ h).mono fun e F H ⟨D, h1⟩ => by
     cases e with
     | normal => exact vc_sound hct hm y D F H K h1
     | exit id => exact ⟨D,h1⟩
     | ret => exact ⟨D,h1⟩)
 | _,.cond o x y,D,F,H,K,h => by
   simp only [vc] at h
   unfold condV at h
   split at h <;> try (exact h.elim)
   rename_i k
   split at h <;> try (exact h.elim)
   rename_i b hb
   split at h
   · split at h
     · exact VW.cond (b := true) hb (vc_sound hct hm x D F H K h)
     · exact VW.cond (b := false) hb (vc_sound hct hm y D F H K h)
     · exact h.elim
   · refine VW.cond (b := b) hb ?_
     intro base ρ0 H0 w0 a w hn hA
     cases b with
     | true => exact vc_sound hct hm x _ _ H K (h.1 rfl) base ρ0 H0 w0 a w hn (hA.learn hb)
     | false => exact vc_sound hct hm y _ _ H K (h.2 rfl) base ρ0 H0 w0 a w hn (hA.learn hb)
 | inv,.block id c,D,F,H,K,h => by
   have hblk : ∀ {F : Fr} {H : Heap},VW n0 N ro P c H F (fun x F H => ∃ D,blockD id K x D F H)→VW n0 N ro P (.block id c) H F (fun x F H => ∃ D,K x D F H) := fun hv =>
     VW.block (hv.mono fun e F H ⟨D,h1⟩ => by
       cases e with
       | normal => exact ⟨D,h1⟩
       | ret => exact ⟨D,h1⟩
       | exit j =>
         simp only [blockD] at h1
         simp only [blockK]
         cases hj : Nat.beq j id with
         | true => rw [hj] at h1; exact ⟨D,h1⟩
         | false => rw [hj] at h1; exact ⟨D,h1⟩)
   refine hblk ?_
   match c,h with
   | .loop b,h =>
     simp only [vc] at h
     split at h
     · rename_i I _
       obtain ⟨h0,h3⟩ := h
       obtain ⟨i0,s0,x0,h4,h1,h2⟩ := enterS_get h0
       intro base ρ0 H0 w0 a w hn hA
       refine VW.loopInv (I := fun m F H => ∃ (i : Nat) (s : LShape LInv) (x : s.X),I.shapes[i]? = some s∧s.ok x∧F = s.F x∧H = s.H x∧m = s.μ x) (m := s0.μ x0) (fun m F H ⟨i,s,x,k0,k1,k2,k3,k4⟩ => ?_) ⟨i0,s0,x0,h4,h1,rfl,rfl,rfl⟩ base ρ0 H0 w0 a w hn (hA.reach hn h2)
       subst k2; subst k3; subst k4
       intro base ρ0 H0 w0 a w hn hA
       refine wpIn_mono (vc_sound hct hm b [] (s.F x) (s.H x) _ (allS_get h3 k0 x ⟨k1⟩) base ρ0 H0 w0 a w hn hA) ?_
       rintro e a w' ⟨ex,F',H',rfl,⟨D',q1⟩,q2⟩
       cases ex with
       | normal =>
         obtain ⟨i',s',y,τ,q3,q4,q5,q6⟩ := againS_get q1
         exact ⟨.normal,s'.F y,s'.H y,rfl,⟨_,q5,i',s',y,q3,q4,rfl,rfl,rfl⟩,q2.reach hn q6⟩
       | exit j => exact ⟨.exit j,F',H',rfl,⟨D',q1⟩,q2⟩
       | ret => exact ⟨.ret,F',H',rfl,⟨D',q1⟩,q2⟩
     · exact h.elim
   | .skip,h | .label _,h | .exit _,h | .ret,h | .region ..,h | .seq ..,h | .cond ..,h | .block ..,h | .scope _,h | .rangeFunc ..,h | .goto _,h | .refuse _,h =>
     exact vc_sound (inv := inv) hct hm _ D F H (blockD id K) h
 | _,.scope c,D,F,H,K,h => VW.scope (vc_sound hct hm c D F H K (by simpa only [vc] using h))
 | _,.rangeFunc g ps a b,D,F,H,K,h => by
   simp only [vc] at h
   cases ro with
   | some l => exact h.elim
   | none => exact vRange_sound hct h
 | _,.loop _,_,_,_,_,h | _,.goto _,_,_,_,_,h | _,.refuse _,_,_,_,_,h => by simp only [vc] at h
end Go.Pier
