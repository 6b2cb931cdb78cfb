import Derived.Test.YtbehncpoppoglaaPierT
set_option linter.unusedSimpArgs false
set_option linter.unusedVariables false
namespace Go.Pier
open Go
variable {P : Program} {D : Option Nat}
abbrev Res := AExit × Array Value × Heap × List Nat
def evSeq (P : Program) (call : CallFn) (ops : Array Oper) : List Oper→Heap→Array Value→List Nat→Option (Array Value × Heap × List Nat)
 | [],H,t,l => some (t,H,l)
 | o :: r,H,t,l => (runOp P call ops o t H).bind fun q => evSeq P call ops r q.2.1 (aput t o.dst q.1) (l ++ q.2.2)
theorem opStep_of_runOp {call : CallFn} {ops : Array Oper} {o : Oper} {t : Array Value} {H F : Heap} {V : Value} {l : List Nat} (hc : CallOk P call) (h : runOp P call ops o t H = some (V,F,l)) {i : Nat} (ho : ops[i]? = some o)
   {K : Array Value→Heap→Prop} (hK : K (aput t o.dst V) F) : opStep P ops i H t K := by
 obtain ⟨tri,_⟩ := runOp_sound hc h 0 []
 unfold OpTri at tri
 unfold opStep
 rw [ho]
 simp only at tri ⊢
 split at tri
 · rename_i hw
   rw [if_pos hw]
   cases he : evOp P (aeval t) H o with
   | none =>
     rw [he] at tri
     simp only at tri
     split at tri
     · rename_i v F1 hrow
       refine .inr ?_
       unfold opRow
       rw [hrow]
       obtain ⟨rfl,rfl⟩ := tri
       exact hK
     refine .inl (.inr ?_)
     unfold opYield
     split at tri <;> try (exact tri.elim)
     rename_i b args hy
     rw [hy]
     refine Yield.mono tri ?_
     rintro v H2 ⟨rfl,rfl⟩
     exact hK
   | some q =>
     obtain ⟨q,H1⟩ := q
     rw [he] at tri
     cases q with
     | value v =>
       obtain ⟨h1,h2⟩ := tri
       subst h1; subst h2; exact hK
     | skip =>
       obtain ⟨h1,h2⟩ := tri
       subst h1; subst h2; exact hK
     | enter f args =>
       refine Call.mono tri ?_
       rintro v H2 ⟨rfl,rfl⟩
       exact hK
 · rename_i hw
   rw [if_neg hw]
   obtain ⟨h1,h2⟩ := tri
   subst h1; subst h2; exact hK
theorem evSeq_sound {call : CallFn} {ops : Array Oper} (hc : CallOk P call) : ∀ (l : List Oper) (k : Nat) (H H' : Heap) (t t' : Array Value) (lg lg' : List Nat),(∀ j,l[j]? = ops[k + j]?)→evSeq P call ops l H t lg = some (t',H',lg') →
   opsSeq P ops (List.range' k l.length) H t (fun t2 H2 => t2 = t'∧H2 = H')∧∃ l2,lg' = lg ++ l2∧Kept H H' l2
 | [],k,H,H',t,t',lg,lg',_,h => by
   cases h
   exact ⟨⟨rfl,rfl⟩,[],by simp,Kept.refl _ _⟩
 | o :: l,k,H,H',t,t',lg,lg',hl,h => by
   simp only [evSeq,Option.bind_eq_some_iff] at h
   obtain ⟨⟨V,F,l1⟩,h1,h2⟩ := h
   have ho : ops[k]? = some o := by simpa using (hl 0).symm
   obtain ⟨r1,l2,r2,r3⟩ := evSeq_sound hc l (k + 1) F H' _ t' _ lg' (fun j => by have := hl (j + 1); simpa [Nat.add_assoc,Nat.add_comm 1 j] using this) h2
   refine ⟨?_,l1 ++ l2,by rw [r2]; simp,(runOp_sound hc h1 0 []).2.trans r3⟩
   simp only [List.length_cons,List.range'_succ,opsSeq]
   exact opStep_of_runOp hc h1 ho r1
abbrev FnCall := FuncId→List Value→Heap→Option (Value × Heap × List Nat)
def FnOk (P : Program) (call : FnCall) : Prop := ∀ f args H v H' l,call f args H = some (v,H',l)→Call P f args H (fun v' H2 => v' = v∧H2 = H')∧Kept H H' l
def evFun (P : Program) (code : Code→Heap→Array Value→Option Res) : FnCall := fun f args H =>
 match P.funcs[f]? with
 | none => none
 | some fn => match fn.body with
   | none => none
   | some c => (code c H (args.toArray ++ Array.replicate (fn.ntmps - args.length) undef)).bind fun q =>
     if q.1 = .normal∨q.1 = .ret then (aresults P fn q.2.1 q.2.2.1).bind fun v =>
       let old := q.2.2.2.filter fun b => decide (b < H.length)
       if (sc H.length v && old.all fun b => match q.2.2.1[b]? with | some o => o.sc H.length | none => true) = true then some (v,q.2.2.1.take H.length,old)
       else some (v,q.2.2.1,old)
     else none
def evRound (code : Code→Heap→Array Value→Option Res) (b : Nat) (args : List Value) (H : Heap) : Option (Value × Heap × List Nat) :=
 match H[b]? with
 | some (.loop .ready none t ps assign body) => if args.length = ps.size ∧ t.toList.all (fun v => !isJunk v) = true then
     (code assign H (roundT t (ps.toList.zip args))).bind fun q1 => if q1.1 = .normal∧q1.2.2.2.contains b = false then
       (code body (q1.2.2.1.set b (.loop .busy none t ps assign body)) q1.2.1).bind fun q2 => if q2.2.2.2.contains b = false then
         some (.bool (decide (q2.1 = .normal)),q2.2.2.1.set b (roundEnd q2.1 t ps assign body),b :: (q1.2.2.2 ++ q2.2.2.2)) else none
       else none
     else none
 | _ => none
def gcFun (call : FnCall) : FnCall := fun f args H => match call f args H with
 | none => none
 | some (v,H1,l) => some (gcOf H.length v H1 l)
theorem gcOf_ok {f : FuncId} {args : List Value} {H H1 : Heap} {v : Value} {l : List Nat} (h : Call P f args H (fun v' H2 => v' = v∧H2 = H1)∧Kept H H1 l) {r : Value × Heap × List Nat} (hr : gcOf H.length v H1 l = r) :
   Call P f args H (fun v' H2 => v' = r.1∧H2 = r.2.1)∧Kept H r.2.1 r.2.2 := by
 subst hr
 unfold gcOf
 split
 · exact h
 · simp only
   split
   · rename_i hck
     simp only [Bool.and_eq_true,Nat.ble_eq,List.all_eq_true] at hck
     generalize marks H1 H.length 1000 (bl v ++ l.flatMap (kids H1)) [] = seen at hck ⊢
     generalize topOf H.length seen = n at hck ⊢
     obtain ⟨c1,c2,c3,c4,c5⟩ := hck
     have hlen : ((thin H.length seen H1 0).take n).length = n := by rw [List.length_take,thin_length]; omega
     have hget : ∀ b,b < n→((thin H.length seen H1 0).take n)[b]? = H1[b]?∨(H.length≤b∧((thin H.length seen H1 0).take n)[b]? = some .gone) := fun b hb => by
       rw [List.getElem?_take_of_lt hb]
       rcases thin_get H.length seen H1 0 b with h1 | ⟨h1,h2,h3⟩
       · exact .inl h1
       · exact .inr ⟨by omega,h3⟩
     show Call P f args H (fun v' H2 => v' = v∧H2 = (thin H.length seen H1 0).take n)∧Kept H ((thin H.length seen H1 0).take n) l
     refine ⟨h.1.gc (by omega) (by omega) (fun b hb => ?_) (fun hscp b o hb => ?_) (by rw [hlen]; exact c3),by omega,fun b hb hn => ?_⟩
     · rcases hget b (by omega) with h1 | ⟨_,h1⟩
       · exact .inr h1
       · exact .inl h1
     · have hlt := (List.getElem?_eq_some_iff.1 hb).1
       rw [hlen] at hlt ⊢
       by_cases hg : b < H.length
       · by_cases hl : b ∈ l
         · have := c5 b hl
           rw [hb] at this; exact this
         · have e1 : H1[b]? = some o := by
             rcases hget b hlt with h1 | ⟨h1,_⟩
             · rw [← h1]; exact hb
             · omega
           rw [h.2.2 b hg hl] at e1
           exact AObj.sc_mono c1 (hscp b o e1)
       · refine c4 o ?_
         have : (((thin H.length seen H1 0).take n).drop H.length)[b - H.length]? = some o := by
           rw [List.getElem?_drop,show H.length + (b - H.length) = b from by omega]; exact hb
         exact List.mem_of_getElem? this
     · rcases hget b (by omega) with h1 | ⟨h1,_⟩
       · rw [h1]; exact h.2.2 b hb hn
       · omega
   · exact h
theorem gcFun_ok {call : FnCall} (h : FnOk P call) : FnOk P (gcFun call) := by
 intro f args H v H' l hev
 unfold gcFun at hev
 split at hev <;> try (cases hev; done)
 rename_i v1 H1 l1 h1
 injection hev with hev
 have := gcOf_ok (h _ _ _ _ _ _ h1) hev
 exact this
abbrev Tbl := FuncId→Option (List Value→Heap→Option (Value × Heap × List Nat))
def withTbl (tbl : Tbl) (call : FnCall) (round : Nat→Code→Heap→Array Value→Option Res) : CallFn := fun k args H =>
 match k with
 | .fn f => match tbl f with
   | some g => match g args H with
     | some r => some r
     | none => call f args H
   | none => call f args H
 | .round b => evRound (round b) b args H
def TblOk (P : Program) (tbl : Tbl) : Prop := ∀ f g,tbl f = some g→∀ args H v H' l,g args H = some (v,H',l)→Call P f args H (fun v' H2 => v' = v∧H2 = H')∧Kept H H' l
theorem tblOk_none : TblOk P (fun _ => none) := fun _ _ h => by cases h
theorem Kept.put {H H1 : Heap} {l : List Nat} (h : Kept H H1 l) (b : Nat) (o : AObj) : Kept H (H1.set b o) (b :: l) :=
 ⟨by simpa using h.1,fun c hc hn => by
   rw [List.mem_cons,not_or] at hn
   rw [List.getElem?_set_ne (Ne.symm hn.1)]; exact h.2 c hc hn.2⟩
theorem Kept.sub {H H1 : Heap} {l l' : List Nat} (h : Kept H H1 l) (hs : ∀ b ∈ l,b ∈ l') : Kept H H1 l' := ⟨h.1,fun c hc hn => h.2 c hc fun hm => hn (hs c hm)⟩
theorem evRound_sound {code : Code→Heap→Array Value→Option Res} {b : Nat} (h : ∀ c H t x t' H' l,code c H t = some (x,t',H',l)→CW (some b) P c H t (fun x2 t2 H2 => x2 = x∧t2 = t'∧H2 = H')∧Kept H H' l)
   {args : List Value} {H H' : Heap} {v : Value} {l : List Nat} (hev : evRound code b args H = some (v,H',l)) : Yield P b args H (fun v' H2 => v' = v∧H2 = H')∧Kept H H' l := by
 unfold evRound at hev
 split at hev <;> try (cases hev; done)
 rename_i t ps assign body hb
 split at hev <;> try (cases hev; done)
 rename_i hl
 simp only [Option.bind_eq_some_iff] at hev
 obtain ⟨⟨x1,t1,H1,l1⟩,h1,hev⟩ := hev
 simp only at hev
 split at hev <;> try (cases hev; done)
 rename_i hx
 obtain ⟨rfl,hn1⟩ := hx
 simp only [Option.bind_eq_some_iff] at hev
 obtain ⟨⟨x2,t2,H2,l2⟩,h2,hev⟩ := hev
 simp only at hev
 split at hev <;> try (cases hev; done)
 rename_i hn2
 cases hev
 have hbl := (List.getElem?_eq_some_iff.1 hb).1
 have k1 := (h _ _ _ _ _ _ _ h1).2
 have k2 := (h _ _ _ _ _ _ _ h2).2
 have hm1 : b ∉ l1 := by simpa using hn1
 have hm2 : b ∉ l2 := by simpa using hn2
 have hb1 : H1[b]? = some (.loop .ready none t ps assign body) := by rw [k1.2 b hbl hm1]; exact hb
 have hbl1 := (List.getElem?_eq_some_iff.1 hb1).1
 have hb2 : H2[b]? = some (.loop .busy none t ps assign body) := by rw [k2.2 b (by simpa using hbl1) hm2]; exact get_set_self hbl1
 refine ⟨Yield.intro hb hl.1 hl.2 (((h _ _ _ _ _ _ _ h1).1).mono ?_),?_⟩
 · rintro x t' H' ⟨rfl,rfl,rfl⟩
   refine ⟨rfl,hb1,((h _ _ _ _ _ _ _ h2).1).mono ?_⟩
   rintro x t' H' ⟨rfl,rfl,rfl⟩
   exact ⟨hb2,rfl,rfl⟩
 · refine (Kept.put ((k1.put b (.loop .busy none t ps assign body)).trans k2) b _).sub fun c hc => ?_
   simp only [List.mem_cons,List.mem_append] at hc ⊢
   rcases hc with h3 | (h3 | h3) | h3
   · exact .inl h3
   · exact .inl h3
   · exact .inr (.inl h3)
   · exact .inr (.inr h3)
theorem withTbl_ok {tbl : Tbl} {call : FnCall} {round : Nat→Code→Heap→Array Value→Option Res} (ht : TblOk P tbl) (hc : FnOk P call)
   (hr : ∀ b c H t x t' H' l,round b c H t = some (x,t',H',l)→CW (some b) P c H t (fun x2 t2 H2 => x2 = x∧t2 = t'∧H2 = H')∧Kept H H' l) : CallOk P (withTbl tbl call round) := by
 intro k args H v H' l h
 unfold withTbl at h
 cases k with
 | fn f =>
   simp only at h
   split at h
   · rename_i g hg
     split at h
     · rename_i r hr
       cases h
       exact ht f g hg args H v H' l hr
     · exact hc f args H v H' l h
   · exact hc f args H v H' l h
 | round b => exact evRound_sound (hr b) h
def okRo (ro : Option Nat) (H : Heap) : Bool := match ro with
 | none => true
 | some b => match H[b]? with
   | some (.loop ..) => true
   | _ => false
def evRange (P : Program) (call : CallFn) (g : Operand) (ps : Array Tmp) (assign body : Code) (H : Heap) (t : Array Value) : Option Res :=
 match aeval t g with
 | some (.func (.func gf) a cap) => if fnOk P gf = true then
     (call (.fn gf) (a.toList ++ [.func (.yield H.length) #[] #[]] ++ cap.toList) (H ++ [.loop .ready none t ps assign body])).bind fun q => match q.2.1[H.length]? with
       | some (.loop st pend _ _ _ _) => if st = .busy then none else match pend with
         | none => some (.normal,t,q.2.1.set H.length .gone,q.2.2)
         | some (.exit id) => some (.exit id,t,q.2.1.set H.length .gone,q.2.2)
         | some .ret => some (.ret,t,q.2.1.set H.length .gone,q.2.2)
         | some _ => none
       | _ => none
     else none
 | _ => none
theorem evRange_sound {ro : Option Nat} {call : CallFn} {g : Operand} {ps : Array Tmp} {assign body : Code} {H H' : Heap} {t t' : Array Value} {x : AExit} {l : List Nat} (hc : CallOk P call) (hro : okRo ro H = true) (h : evRange P call g ps assign body H t = some (x,t',H',l)) :
   CW ro P (.rangeFunc g ps assign body) H t (fun x2 t2 H2 => x2 = x∧t2 = t'∧H2 = H')∧Kept H H' l := by
 unfold evRange at h
 split at h <;> try (cases h; done)
 rename_i gf a cap hg
 split at h <;> try (cases h; done)
 rename_i hok
 simp only [Option.bind_eq_some_iff] at h
 obtain ⟨⟨v,H2,l2⟩,h1,h2⟩ := h
 obtain ⟨c1,c2⟩ := hc _ _ _ _ _ _ h1
 simp only at h2
 split at h2 <;> try (cases h2; done)
 rename_i st pend t1 ps1 as1 bd1 hb
 split at h2 <;> try (cases h2; done)
 rename_i hst
 have hk : Kept H (H2.set H.length .gone) l2 := by
   refine ⟨by have := c2.1; simp at this ⊢; omega,fun b hb hn => ?_⟩
   rw [List.getElem?_set_ne (by omega),c2.2 b (by simp; omega) hn,List.getElem?_append_left hb]
 have main : ∀ Q : AExit→Array Value→Heap→Prop,rangeEnd H.length t Q H2→CW ro P (.rangeFunc g ps assign body) H t Q := fun Q hQ => by
   have hcall : Pier.Call P gf (a.toList ++ [.func (.yield H.length) #[] #[]] ++ cap.toList) (H ++ [.loop .ready none t ps assign body]) fun _ H3 => rangeEnd H.length t Q H3 := Call.mono c1 fun v' H3 hv => by
     obtain ⟨rfl,rfl⟩ := hv
     exact hQ
   cases ro with
   | none => exact CW.rangeFunc hg hok hcall
   | some b0 =>
     refine CW.rangeFuncIn hg hok ?_ hcall
     simp only [okRo] at hro
     split at hro
     · exact ⟨_,_,_,_,_,_,‹_›⟩
     · cases hro
 split at h2 <;> cases h2
 · exact ⟨main _ ⟨st,none,t1,ps1,as1,bd1,hb,hst,rfl,rfl,rfl⟩,hk⟩
 · exact ⟨main _ ⟨st,some (.exit _),t1,ps1,as1,bd1,hb,hst,rfl,rfl,rfl⟩,hk⟩
 · exact ⟨main _ ⟨st,some .ret,t1,ps1,as1,bd1,hb,hst,rfl,rfl,rfl⟩,hk⟩
def evC (P : Program) (tbl : Tbl) : Nat→Option Nat→Code→Heap→Array Value→Option Res
 | 0,_,_,_,_ => none
 | n + 1,top,c,H,t => match c with
   | .skip => some (.normal,t,H,[])
   | .label _ => some (.normal,t,H,[])
   | .exit id => some (.exit id,t,H,[])
   | .ret => some (.ret,t,H,[])
   | .region _ ops false => (evSeq P (withTbl tbl (gcFun (evFun P (evC P tbl n none))) (fun b => evC P tbl n (some b))) ops ops.toList H t []).map fun q => (.normal,q.1,q.2.1,q.2.2)
   | .region _ ops true => if P.follows .mixedOrders = true then (evDraw P (withTbl tbl (gcFun (evFun P (evC P tbl n none))) (fun b => evC P tbl n (some b))) ops H t).map fun q => (.normal,q.1,q.2.1,q.2.2) else none
   | .seq a b => (evC P tbl n top a H t).bind fun q => if q.1 = .normal then (evC P tbl n top b q.2.2.1 q.2.1).map fun r => (r.1,r.2.1,r.2.2.1,q.2.2.2 ++ r.2.2.2) else some q
   | .cond o a b => match aeval t o with
     | some (.bool v) => evC P tbl n top (if v = true then a else b) H t
     | _ => none
   | .block id a => (evC P tbl n top a H t).map fun q => if q.1 = .exit id then (.normal,q.2) else q
   | .loop a => (evC P tbl n top a H t).bind fun q => if q.1 = .normal then (evC P tbl n top (.loop a) q.2.2.1 q.2.1).map fun r => (r.1,r.2.1,r.2.2.1,q.2.2.2 ++ r.2.2.2) else some q
   | .scope a => evC P tbl n top a H t
   | .rangeFunc g ps assign body => if okRo top H = true then evRange P (withTbl tbl (gcFun (evFun P (evC P tbl n none))) (fun b => evC P tbl n (some b))) g ps assign body H t else none
   | _ => none
theorem Call.trunc {f : FuncId} {args : List Value} {H H1 : Heap} {v0 : Value} {old : List Nat} (h : Call P f args H fun v H' => v = v0∧H' = H1) (hv : sc H.length v0 = true) (hk : Kept H H1 old)
   (hold : ∀ b ∈ old,∀ o,H1[b]? = some o→o.sc H.length = true) : Call P f args H fun v H' => v = v0∧H' = H1.take H.length := fun ρ w R hs => by
 refine (h ρ w R hs).mono ?_
 rintro e w' ⟨ρ',v,H',rfl,⟨rfl,rfl⟩,R',X,s'⟩
 have hlen : (H'.take H.length).length = H.length := by have := hk.1; simp; omega
 have Rt : Rel ρ' (H'.take H.length) w' := R'.take H.length fun b o hb => by
   have hl := (List.getElem?_eq_some_iff.1 hb).1
   rw [hlen] at hl ⊢
   rw [List.getElem?_take_of_lt hl] at hb
   by_cases ho : b ∈ old
   · exact hold b ho o hb
   · rw [hk.2 b hl ho] at hb; exact R.scp b o hb
 let ρ2 : Ren := ⟨fun b => if b < H.length then ρ'.φ b else ρ.φ b,fun b => if b < H.length then ρ'.δ b else ρ.δ b,fun b => if b < H.length then ρ'.κ b else ρ.κ b⟩
 have hag : Agree H.length ρ' ρ2 := fun b hb => by simp [ρ2,hb]
 refine ⟨ρ2,v,_,by rw [ren_agree hag hv],⟨rfl,rfl⟩,Rel.congrRen (by rw [hlen]; exact hag) Rt,⟨by omega,fun b hb => ?_,X.size,X.keep,fun b hb => ?_,fun b hb => ?_,fun b hb => ?_,X.os,X.tape,X.output⟩,by rw [hlen]; exact hv⟩
 · rcases Nat.lt_or_ge b H.length with h1 | h1
   · have := X.agree b (.inl h1)
     simp only [ρ2,h1,if_true]; exact this
   · have : ¬ b < H.length := by omega
     simp [ρ2,this]
 · have hl := wr_lt hb
   rw [hlen] at hl
   have hb' : wr H' b = true := by rw [← hb]; exact wr_congr (List.getElem?_take_of_lt hl).symm
   rcases X.wr b hb' with h1 | ⟨h1,_⟩
   · exact .inl h1
   · omega
 · have hl := isRo_lt hb
   rw [hlen] at hl
   rw [show ρ2.φ b = ρ'.φ b by simp [ρ2,hl]]
   exact X.ro b (by rw [← hb]; exact isRo_congr (List.getElem?_take_of_lt hl).symm)
 · have hl := isMix_lt hb
   rw [hlen] at hl
   exact X.mix b (by rw [← hb]; exact isMix_congr (List.getElem?_take_of_lt hl).symm)
theorem evFun_sound {code : Code→Heap→Array Value→Option Res} (h : ∀ c H t x t' H' l,code c H t = some (x,t',H',l)→CW none P c H t (fun x2 t2 H2 => x2 = x∧t2 = t'∧H2 = H')∧Kept H H' l) : FnOk P (evFun P code) := by
 intro f args H v H' l hev
 unfold evFun at hev
 split at hev <;> try (cases hev; done)
 rename_i fn hfn
 split at hev <;> try (cases hev; done)
 rename_i c hb
 simp only [Option.bind_eq_some_iff] at hev
 obtain ⟨⟨x,t',H1,l1⟩,hcode,hev⟩ := hev
 simp only at hev
 split at hev <;> try (cases hev; done)
 rename_i hx
 simp only [Option.bind_eq_some_iff] at hev
 obtain ⟨v1,hres,hev⟩ := hev
 obtain ⟨c1,c2⟩ := h _ _ _ _ _ _ _ hcode
 have hcall : Call P f args H fun v H' => v = v1∧H' = H1 := Call.body hfn hb (c1.mono (by
   rintro x2 t2 H2 ⟨rfl,rfl,rfl⟩
   exact ⟨hx,v1,hres,rfl,rfl⟩))
 have hkept : Kept H H1 (l1.filter fun b => decide (b < H.length)) := ⟨c2.1,fun b hb hn => c2.2 b hb fun hm => hn (List.mem_filter.2 ⟨hm,by simpa using hb⟩)⟩
 split at hev
 · rename_i hck
   cases hev
   simp only [Bool.and_eq_true] at hck
   refine ⟨hcall.trunc hck.1 hkept fun b hb o ho => ?_,by have := c2.1; simp; omega,fun b hb hn => ?_⟩
   · have := List.all_eq_true.1 hck.2 b hb
     rw [ho] at this; exact this
   · rw [List.getElem?_take_of_lt hb]; exact hkept.2 b hb hn
 · cases hev
   exact ⟨hcall,hkept⟩
theorem evC_sound {tbl : Tbl} (ht : TblOk P tbl) : ∀ (n : Nat) (D : Option Nat) (c : Code) (H : Heap) (t : Array Value) (x : AExit) (t' : Array Value) (H' : Heap) (l : List Nat),evC P tbl n D c H t = some (x,t',H',l) →
   (CW D P c H t (fun x2 t2 H2 => x2 = x∧t2 = t'∧H2 = H')∧Kept H H' l)∧∀ a,c = .loop a→∃ m,loopQ D P a (fun x2 t2 H2 => x2 = x∧t2 = t'∧H2 = H') m t H
 | 0,_,_,_,_,_,_,_,_,h => by cases h
 | n + 1,D,c,H,t,x,t',H',l,h => by
   have ih2 := evC_sound ht n D
   have hc := withTbl_ok ht (gcFun_ok (evFun_sound (P := P) fun c H t x t' H' l h => (evC_sound ht n none c H t x t' H' l h).1)) fun b c H t x t' H' l h => (evC_sound ht n (some b) c H t x t' H' l h).1
   have ih : ∀ (c : Code) (H : Heap) (t : Array Value) (x : AExit) (t' : Array Value) (H' : Heap) (l : List Nat),evC P tbl n D c H t = some (x,t',H',l)→CW D P c H t (fun x2 t2 H2 => x2 = x∧t2 = t'∧H2 = H')∧Kept H H' l :=
     fun c H t x t' H' l h => (ih2 c H t x t' H' l h).1
   by_cases hloop : ∃ a,c = .loop a
   · obtain ⟨a,rfl⟩ := hloop
     unfold evC at h
     simp only [Option.bind_eq_some_iff] at h
     obtain ⟨⟨x1,t1,H1,l1⟩,h1,h2⟩ := h
     obtain ⟨a1,a2⟩ := ih _ _ _ _ _ _ _ h1
     simp only at h2
     have key : (∃ m,loopQ D P a (fun x2 t2 H2 => x2 = x∧t2 = t'∧H2 = H') m t H)∧Kept H H' l := by
       split at h2
       · rename_i hx
         subst hx
         simp only [Option.map_eq_some_iff,Prod.mk.injEq] at h2
         obtain ⟨⟨x2,t2,H2,l2⟩,h3,rfl,rfl,rfl,rfl⟩ := h2
         obtain ⟨⟨_,b2⟩,b3⟩ := ih2 _ _ _ _ _ _ _ h3
         obtain ⟨m,hm⟩ := b3 a rfl
         refine ⟨⟨m + 1,a1.mono ?_⟩,a2.trans b2⟩
         rintro y u G ⟨rfl,rfl,rfl⟩
         exact hm
       · rename_i hx
         cases h2
         refine ⟨⟨1,a1.mono ?_⟩,a2⟩
         rintro y u G ⟨rfl,rfl,rfl⟩
         cases y with
         | normal => exact absurd rfl hx
         | exit id => exact ⟨rfl,rfl,rfl⟩
         | ret => exact ⟨rfl,rfl,rfl⟩
     obtain ⟨⟨m,hm⟩,hk⟩ := key
     exact ⟨⟨CW.loop m hm,hk⟩,fun b hb => by cases hb; exact ⟨m,hm⟩⟩
   refine ⟨?_,fun a ha => absurd ⟨a,ha⟩ hloop⟩
   unfold evC at h
   split at h
   · cases h; exact ⟨CW.skip ⟨rfl,rfl,rfl⟩,Kept.refl _ _⟩
   · cases h; exact ⟨CW.label ⟨rfl,rfl,rfl⟩,Kept.refl _ _⟩
   · cases h; exact ⟨CW.exit ⟨rfl,rfl,rfl⟩,Kept.refl _ _⟩
   · cases h; exact ⟨CW.ret ⟨rfl,rfl,rfl⟩,Kept.refl _ _⟩
   · rename_i ops
     simp only [Option.map_eq_some_iff,Prod.mk.injEq] at h
     obtain ⟨⟨t2,H2,l2⟩,h1,rfl,rfl,rfl,rfl⟩ := h
     obtain ⟨r1,l3,r2,r3⟩ := evSeq_sound hc ops.toList 0 H H2 t t2 [] l2 (fun j => by simp) h1
     simp only [List.nil_append] at r2
     subst r2
     refine ⟨CW.region ?_,r3⟩
     rw [List.range_eq_range',← Array.length_toList]
     simpa using r1
   · rename_i ops
     split at h <;> try (cases h; done)
     rename_i hm
     simp only [Option.map_eq_some_iff,Prod.mk.injEq] at h
     obtain ⟨⟨t2,H2,l2⟩,h1,rfl,rfl,rfl,rfl⟩ := h
     exact evDraw_sound hc hm h1
   · rename_i a b
     simp only [Option.bind_eq_some_iff] at h
     obtain ⟨⟨x1,t1,H1,l1⟩,h1,h2⟩ := h
     obtain ⟨a1,a2⟩ := ih _ _ _ _ _ _ _ h1
     simp only at h2
     split at h2
     · rename_i hx
       subst hx
       simp only [Option.map_eq_some_iff,Prod.mk.injEq] at h2
       obtain ⟨⟨x2,t2,H2,l2⟩,h3,rfl,rfl,rfl,rfl⟩ := h2
       obtain ⟨b1,b2⟩ := ih _ _ _ _ _ _ _ h3
       refine ⟨CW.seq (a1.mono ?_),a2.trans b2⟩
       rintro y u G ⟨rfl,rfl,rfl⟩
       exact b1
     · rename_i hx
       cases h2
       refine ⟨CW.seq (a1.mono ?_),a2⟩
       rintro y u G ⟨rfl,rfl,rfl⟩
       cases y with
       | normal => exact absurd rfl hx
       | exit id => exact ⟨rfl,rfl,rfl⟩
       | ret => exact ⟨rfl,rfl,rfl⟩
   · rename_i o a b
     split at h <;> try (cases h; done)
     rename_i v hv
     obtain ⟨a1,a2⟩ := ih _ _ _ _ _ _ _ h
     exact ⟨CW.cond hv a1,a2⟩
   · rename_i id a
     simp only [Option.map_eq_some_iff] at h
     obtain ⟨⟨x1,t1,H1,l1⟩,h1,h2⟩ := h
     obtain ⟨a1,a2⟩ := ih _ _ _ _ _ _ _ h1
     simp only at h2
     split at h2
     · rename_i hx
       cases h2
       refine ⟨CW.block (a1.mono ?_),a2⟩
       rintro y u G ⟨rfl,rfl,rfl⟩
       rw [hx]
       simp [blockQ]
     · rename_i hx
       cases h2
       refine ⟨CW.block (a1.mono ?_),a2⟩
       rintro y u G ⟨rfl,rfl,rfl⟩
       cases y with
       | normal => exact ⟨rfl,rfl,rfl⟩
       | ret => exact ⟨rfl,rfl,rfl⟩
       | exit j =>
         have : j ≠ id := fun e => hx (by rw [e])
         simp [blockQ,this]
   · exact absurd ⟨_,rfl⟩ hloop
   · rename_i a
     obtain ⟨a1,a2⟩ := ih _ _ _ _ _ _ _ h
     exact ⟨CW.scope a1,a2⟩
   · split at h <;> try (cases h; done)
     rename_i htop
     exact evRange_sound hc htop h
   · cases h
end Go.Pier
