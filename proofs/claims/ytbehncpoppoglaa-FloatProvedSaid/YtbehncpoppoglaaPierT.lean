import Derived.Test.YtbehncpoppoglaaPierS
set_option linter.unusedSimpArgs false
set_option linter.unusedVariables false
namespace Go.Pier
open Go
variable {P : Program} {ρ : Ren} {H H' : Heap} {w : World} {ro : Option Nat} {t : Array Value} {c : Code} {Q : AExit→Array Value→Heap→Prop}
theorem Rel.congrRen {ρ ρ' : Ren} {H : Heap} {w : World} (h : Agree H.length ρ ρ') (R : Rel ρ H w) : Rel ρ' H w := by
 refine ⟨fun b o hb => (R.obj b o hb).move h (List.getElem?_eq_some_iff.1 hb).1 (R.scp b o hb) (.inr rfl) (Below'.refl _ _ _ _),fun b b' hb hb' he => R.inj b b' hb hb' ?_,fun b b' hb hb' => ?_,fun b b' hb hb' => ?_,R.scp⟩
 · rw [← (h b (wr_lt hb)).1,← (h b' (wr_lt hb')).1]; exact he
 · rw [(h b (isRo_lt hb)).1,(h b' (wr_lt hb')).1]; exact R.sep b b' hb hb'
 · rw [(h b (isMix_lt hb)).2.2,(h b' (wr_lt hb')).1]; exact R.deep b b' hb hb'
def forgetAll (H : Heap) : List Nat→Heap
 | [] => H
 | b :: bs => forgetAll (H.set b .gone) bs
theorem Call.gc {f : FuncId} {args : List Value} {H1 E : Heap} {v1 : Value} (h : Call P f args H fun v H' => v = v1∧H' = H1) (hl : H.length≤E.length) (hl1 : E.length≤H1.length) (hsub : ∀ b,b < E.length→E[b]? = some .gone∨E[b]? = H1[b]?)
   (hsc : (∀ (b : Nat) (o : AObj),H[b]? = some o→o.sc H.length = true)→∀ (b : Nat) (o : AObj),E[b]? = some o→o.sc E.length = true) (hv : sc E.length v1 = true) : Call P f args H fun v H' => v = v1∧H' = E := fun ρ w RR hs => by
 refine (h ρ w RR hs).mono ?_
 rintro e w' ⟨ρ',v,H',rfl,⟨rfl,rfl⟩,R',X,s'⟩
 have Rt : Rel ρ' E w' := R'.sub hsub (hsc RR.scp)
 have hwr : ∀ b,wr E b = true→wr H' b = true := fun b hb => by
   rcases hsub b (wr_lt hb) with h1 | h1
   · rw [wr_of_get h1] at hb; cases hb
   · rw [← wr_congr h1]; exact hb
 have hro : ∀ b,isRo E b = true→isRo H' b = true := fun b hb => by
   rcases hsub b (isRo_lt hb) with h1 | h1
   · rw [isRo_of_get h1] at hb; cases hb
   · rw [← isRo_congr h1]; exact hb
 have hmx : ∀ b,isMix E b = true→isMix H' b = true := fun b hb => by
   rcases hsub b (isMix_lt hb) with h1 | h1
   · rw [isMix_of_get h1] at hb; cases hb
   · rw [← isMix_congr h1]; exact hb
 let ρ2 : Ren := ⟨fun b => if b < E.length then ρ'.φ b else ρ.φ b,fun b => if b < E.length then ρ'.δ b else ρ.δ b,fun b => if b < E.length then ρ'.κ b else ρ.κ b⟩
 have hag : Agree E.length ρ' ρ2 := fun b hb => by simp [ρ2,hb]
 refine ⟨ρ2,v,_,by rw [ren_agree hag hv],⟨rfl,rfl⟩,Rel.congrRen hag Rt,⟨hl,fun b hb => ?_,X.size,X.keep,fun b hb => ?_,fun b hb => by rw [(hag b (isRo_lt hb)).1]; exact X.ro b (hro b hb),fun b hb => X.mix b (hmx b hb),X.os,X.tape,X.output⟩,hv⟩
 · rcases Nat.lt_or_ge b E.length with h1 | h1
   · have := X.agree b (.inl (by omega))
     simp only [ρ2,h1,if_true]; exact this
   · have : ¬ b < E.length := by omega
     simp [ρ2,this]
 · have hlt := wr_lt hb
   have he : ρ2.φ b = ρ'.φ b := by simp [ρ2,hlt]
   rcases X.wr b (hwr b hb) with h1 | ⟨h1,h2⟩
   · exact .inl h1
   · exact .inr ⟨h1,by rw [he]; exact h2⟩
def bl0 : Value→List Nat
 | .pointer (some a) | .slice (some a) _ _ => [a.block]
 | .map (some r) => [r]
 | _ => []
def bl1 : Value→List Nat
 | .func f a b => (match f with | .yield l => [l] | _ => []) ++ (a.toList.flatMap bl0 ++ b.toList.flatMap bl0)
 | v => bl0 v
def bl2 : Value→List Nat
 | .agg cs => cs.toList.flatMap bl1
 | v => bl1 v
def bl : Value→List Nat
 | .tuple vs => vs.toList.flatMap bl2
 | v => bl2 v
def kids (H : Heap) (b : Nat) : List Nat := match H[b]? with
 | some (.rw cs _) | some (.ro cs) => cs.flatMap bl1
 | some (.map es _) => es.flatMap fun e => bl2 e.val
 | some (.iter m _ _ _) => [m]
 | some (.loop _ _ t _ _ _) => t.toList.flatMap bl
 | _ => []
def marks (H : Heap) (g : Nat) : Nat→List Nat→List Nat→List Nat
 | 0,_,seen => seen
 | _ + 1,[],seen => seen
 | f + 1,b :: r,seen => match Nat.blt b g || seen.any (Nat.beq b) with
   | true => marks H g f r seen
   | false => marks H g f (kids H b ++ r) (b :: seen)
def thin (g : Nat) (seen : List Nat) : Heap→Nat→Heap
 | [],_ => []
 | o :: H,i => (match Nat.blt i g || seen.any (Nat.beq i) with | true => o | false => .gone) :: thin g seen H (i + 1)
theorem thin_get (g : Nat) (seen : List Nat) : ∀ (H : Heap) (i b : Nat),(thin g seen H i)[b]? = H[b]?∨(b < H.length∧g≤i + b∧(thin g seen H i)[b]? = some .gone)
 | [],_,_ => .inl rfl
 | o :: H,i,0 => by
   simp only [thin,List.getElem?_cons_zero]
   split
   · exact .inl rfl
   · rename_i h
     right
     simp only [Bool.or_eq_false_iff] at h
     refine ⟨by simp,?_,rfl⟩
     have := h.1
     rw [← Bool.not_eq_true,Nat.blt_eq] at this
     omega
 | o :: H,i,b + 1 => by
   simp only [thin,List.getElem?_cons_succ]
   rcases thin_get g seen H (i + 1) b with h | ⟨h1,h2,h3⟩
   · exact .inl h
   · exact .inr ⟨by simpa using h1,by omega,h3⟩
theorem thin_length (g : Nat) (seen : List Nat) : ∀ (H : Heap) (i : Nat),(thin g seen H i).length = H.length
 | [],_ => rfl
 | o :: H,i => by simp [thin,thin_length g seen H (i + 1)]
def topOf (g : Nat) : List Nat→Nat
 | [] => g
 | b :: l => match Nat.blt b g with
   | true => topOf g l
   | false => topOf (b + 1) l
def gcOf (g : Nat) (v : Value) (H1 : Heap) (l : List Nat) : Value × Heap × List Nat :=
 match Nat.beq H1.length g with
 | true => (v,H1,l)
 | false =>
   let seen := marks H1 g 1000 (bl v ++ l.flatMap (kids H1)) []
   let n := topOf g seen
   let E := (thin g seen H1 0).take n
   match Nat.ble g n && (Nat.ble n H1.length && (sc n v && ((E.drop g).all (·.sc n) && l.all fun b => match E[b]? with | some o => o.sc n | none => true))) with
   | true => (v,E,l)
   | false => (v,H1,l)
end Go.Pier
