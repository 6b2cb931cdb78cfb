import Derived.Test.YtbehncpoppoglaaPierL
set_option linter.unusedSimpArgs false
set_option linter.unusedVariables false
namespace Go.Pier
open Go
variable {P : Program} {ops : Array Oper} {A : Nat→List Nat} {d : Nat→DRec} {G : Nat→Heap} {H0 : Heap} {t0 : Array Value} {sf : Nat→Option (Nat × Nat)}
variable {ρ0 : Ren} {w0 : World} {S : Nat→Prop} {ρ : Ren} {t : Array Value} {Hs : Heap} {w : World} {dd : Place}
theorem DagOk.born {b : Nat} : ∀ {i : Nat},i≤ops.size→b < (d i).g→b < (d 0).g∨∃ j,j < i∧(d j).g≤b∧b < (d (j + 1)).g := by
 intro i
 induction i with
 | zero => intro _ h; exact .inl h
 | succ i ih =>
   intro hi hb
   by_cases h : b < (d i).g
   · rcases ih (by omega) h with h | ⟨j,h1,h2⟩
     · exact .inl h
     · exact .inr ⟨j,by omega,h2⟩
   · exact .inr ⟨i,by omega,by omega,hb⟩
theorem get_lt {α : Type} {a : Array α} {i : Nat} {o : α} (h : a[i]? = some o) : i < a.size := (Array.getElem?_eq_some_iff.1 h).1
section step
variable (D : DagOk P ops A d G H0 t0 sf) (I : DInv ops A d H0 t0 ρ0 w0 S ρ t Hs w) {i : Nat} {o : Oper} (ho : ops[i]? = some o) (hni : ¬ S i) (hpre : ∀ e ∈ o.after,Region.binds .any e = true→S e.on)
include D I ho hni hpre
theorem DInv.ancS : ∀ j ∈ A i,S j∧j < i := fun j hj => by
 have _u := hni
 obtain ⟨h1,e,h2,h3,h4⟩ := D.anc i o ho j hj
 refine ⟨?_,h1⟩
 rcases h4 with h4 | h4
 · rw [← h4]; exact hpre e h2 h3
 · exact I.closed e.on (by have := D.ancLt i o ho e h2 h3; have := get_lt ho; omega) (hpre e h2 h3) j h4
theorem DInv.desc : ∀ k,k < ops.size→S k→i ∉ A k := fun k hk hs hik =>
 have _u := D
 have _v := ho
 have _w := hpre
 hni (I.closed k hk hs i hik)
theorem DInv.toucher {b : Nat} (hsf : ∀ j,sf i = some (j,b)→¬ S j) (hb : b < (d i).g) (hg : (d i).E[b]? ≠ some .gone) {j : Nat} (hj : j < ops.size) (hji : j ≠ i) (hbj : b ∈ (d j).T) : (S j∧j < i)∨(¬ S j∧i < j) := by
 by_cases h1 : j ∈ A i
 · exact .inl (DInv.ancS D I ho hni hpre j h1)
 · by_cases h2 : i ∈ A j
   · refine .inr ⟨fun hs => DInv.desc D I ho hni hpre j hj hs h2,?_⟩
     have hoj : ops[j]? = some ops[j] := Array.getElem?_eq_getElem hj
     exact (D.anc j _ hoj i h2).1
   · rcases D.apart i j (get_lt ho) hj (Ne.symm hji) h2 h1 b hbj hb with h3 | h3
     · exact absurd h3 hg
     · exact .inr ⟨hsf j h3,(D.soft i j b (get_lt ho) h3).1⟩
theorem DInv.sees : ∀ b,(∀ j,sf i = some (j,b)→¬ S j)→b < (d i).g→(d i).E[b]? = some .gone∨((d i).E[b]? = Hs[b]?∧∀ o',Hs[b]? = some o'→o'.sc (d i).g = true) := fun b hsf hb => by
 have hi := get_lt ho
 by_cases hg : (d i).E[b]? = some .gone
 · exact .inl hg
 · right
   have hsee := (D.seen i hi b hb).resolve_left hg
   have htxt := D.textHeap b i (by omega)
   by_cases hex : ∃ j,j < ops.size∧(S j∧b ∈ (d j).T)
   · obtain ⟨j,hj,⟨hs,hbj⟩,hmax⟩ := exists_max ops.size hex
     have hji : j ≠ i := fun e => hni (e ▸ hs)
     have hlt : j < i := by
       rcases DInv.toucher D I ho hni hpre hsf hb hg hj hji hbj with h | h
       · exact h.2
       · exact absurd hs h.1
     have h1 := I.hpT b j hj hs hbj fun k hk hks hbk => hmax k hk ⟨hks,hbk⟩
     have h2 := htxt.1 j hlt hbj fun k hk hbk => by
       by_cases hki : k = i
       · omega
       · rcases DInv.toucher D I ho hni hpre hsf hb hg (by omega : k < ops.size) hki hbk with h | h
         · exact hmax k (by omega) ⟨h.1,hbk⟩
         · omega
     exact ⟨by rw [hsee,h2,h1.1],fun o' ho' => AObj.sc_mono (D.mono' (by omega) (by omega)) (h1.2 o' ho')⟩
   · have hnone : ∀ j,j < ops.size→S j→b ∉ (d j).T := fun j hj hs hbj => hex ⟨j,hj,hs,hbj⟩
     have hlt0 : b < (d 0).g := by
       rcases DagOk.born (ops := ops) (d := d) (by omega : i≤ops.size) hb with h | ⟨j,h1,h2,h3⟩
       · exact h
       · have hbj := D.tNew j (by omega) b h2 h3
         rcases DInv.toucher D I ho hni hpre hsf hb hg (by omega : j < ops.size) (by omega) hbj with h | h
         · exact absurd hbj (hnone j (by omega) h.1)
         · omega
     have hgn : b < (d ops.size).g := Nat.lt_of_lt_of_le hb (D.mono' (by omega) (Nat.le_refl _))
     have h1 := I.hpN b hgn hnone
     have h2 := htxt.2 fun j hj hbj => by
       rcases DInv.toucher D I ho hni hpre hsf hb hg (by omega : j < ops.size) (by omega) hbj with h | h
       · exact hnone j (by omega) h.1 hbj
       · omega
     rw [if_pos hlt0] at h1
     exact ⟨by rw [hsee,h2,h1.1],fun o' ho' => AObj.sc_mono (D.mono' (Nat.zero_le _) (by omega)) (h1.2 o' ho')⟩
theorem DInv.frame : ∀ x ∈ names ops o,t[x]? = (d i).tm[x]? := fun x hx => by
 have hi := get_lt ho
 obtain ⟨hsz,h1,h2⟩ := D.textTm x i (by omega)
 by_cases hxs : x < t0.size
 · by_cases hex : ∃ j,j < ops.size∧(S j∧dstOf ops j = some x)
   · obtain ⟨j,hj,⟨hs,hbj⟩,hmax⟩ := exists_max ops.size hex
     have hji : j ≠ i := fun e => hni (e ▸ hs)
     have hlt : j < i := by
       rcases Nat.lt_or_gt_of_ne hji with h | h
       · exact h
       · exact absurd ((D.nms i o ho x hx j hj hji hbj).2 h) (DInv.desc D I ho hni hpre j hj hs)
     rw [I.tmT x j hj hs hbj (fun k hk hks hbk => hmax k hk ⟨hks,hbk⟩) hxs]
     rw [h1 j hlt hbj (fun k hk hbk => by
       have hks := (DInv.ancS D I ho hni hpre k ((D.nms i o ho x hx k (by omega) (by omega) hbk).1 hk)).1
       exact hmax k (by omega) ⟨hks,hbk⟩) hxs]
   · rw [I.tmN x (fun j hj hs hbj => hex ⟨j,hj,hs,hbj⟩)]
     rw [h2 (fun j hj hbj => hex ⟨j,by omega,(DInv.ancS D I ho hni hpre j ((D.nms i o ho x hx j (by omega) (by omega) hbj).1 hj)).1,hbj⟩)]
 · have hx' : t0.size≤x := Nat.le_of_not_lt hxs
   have e1 : t[x]? = none := Array.getElem?_eq_none (by rw [I.tsize]; exact hx')
   have e2 : (d i).tm[x]? = none := Array.getElem?_eq_none (by rw [hsz]; exact hx')
   rw [e1,e2]
theorem DInv.pick : ∃ E F : Heap,E.length = (d i).g∧F.length = (d (i + 1)).g∧OpTri P ops o { d i with E := E,F := F } ∧
   (∀ b,b < (d i).g→E[b]? = some .gone∨(E[b]? = Hs[b]?∧∀ o',Hs[b]? = some o'→o'.sc (d i).g = true)) ∧
   (∀ b ∈ (d i).T,F[b]? = (d i).F[b]?)∧(∀ b,b < (d i).g→b ∉ (d i).T→F[b]? = E[b]?)∧(∀ b ∈ (d i).T,b < (d i).g→E[b]? ≠ some .gone) := by
 have hi := get_lt ho
 have hsees := DInv.sees D I ho hni hpre
 by_cases hex : ∃ j b,sf i = some (j,b)∧S j
 · obtain ⟨j,b,hsf,hsj⟩ := hex
   obtain ⟨h1,h2,h3,h4,h5,h6,h7,o',h8,h9,h10⟩ := D.soft i j b hi hsf
   have hl : ((d i).E.set b o').length = (d i).g := by rw [List.length_set,D.lenE i hi]
   refine ⟨(d i).E.set b o',(d i).E.set b o',hl,by rw [List.length_set,← h4,D.lenF i hi],h10 o ho,fun c hc => ?_,by rw [h3]; simp,fun _ _ _ => rfl,by rw [h3]; simp⟩
   by_cases hcb : c = b
   · subst hcb
     right
     have hmax : ∀ k,k < ops.size→S k→c ∈ (d k).T→k≤j := fun k hk hks hbk => by
       have hki : k ≠ i := fun e => hni (e ▸ hks)
       by_cases a1 : k ∈ A i
       · have := (DInv.ancS D I ho hni hpre k a1).2; omega
       · by_cases a2 : i ∈ A k
         · exact absurd a2 (DInv.desc D I ho hni hpre k hk hks)
         · rcases D.apart i k hi hk (Ne.symm hki) a2 a1 c hbk h6 with h | h
           · exact absurd h h7
           · rw [hsf] at h; cases h; exact Nat.le_refl _
     have hh := (I.hpT c j h2 hsj h5 hmax).1
     rw [h8] at hh
     rw [get_set_self (by rw [D.lenE i hi]; exact h6),hh]
     exact ⟨rfl,fun o2 ho2 => by cases ho2; exact h9⟩
   · rw [List.getElem?_set_ne (Ne.symm hcb)]
     exact hsees c (fun j' hj' => by rw [hsf] at hj'; cases hj'; exact absurd rfl hcb) hc
 · refine ⟨(d i).E,(d i).F,D.lenE i hi,D.lenF i hi,D.step i o ho,fun b hb => hsees b (fun j hj hs => hex ⟨j,b,hj,hs⟩) hb,fun _ _ => rfl,D.tOld i hi,D.tVis i hi⟩
theorem DInv.next {E F : Heap} (hEl : E.length = (d i).g) (hFl : F.length = (d (i + 1)).g) (hsees : ∀ b,b < (d i).g→E[b]? = some .gone∨(E[b]? = Hs[b]?∧∀ o',Hs[b]? = some o'→o'.sc (d i).g = true))
   (hFT : ∀ b ∈ (d i).T,F[b]? = (d i).F[b]?) (hFo : ∀ b,b < (d i).g→b ∉ (d i).T→F[b]? = E[b]?) (hvis : ∀ b ∈ (d i).T,b < (d i).g→E[b]? ≠ some .gone)
   {ρ1 : Ren} {w1 : World} (R1 : Rel ρ1 F w1) (X : Ext ρ E w ρ1 F w1) :
   act dd ρ t = act dd ρ1 t∧∃ Hs1,DInv ops A d H0 t0 ρ0 w0 (fun j => j = i∨S j) ρ1 (aput t (dstOf ops i) (d i).V) Hs1 w1 := by
 have hi := get_lt ho
 have hFd := D.lenF i hi
 have hgn : (d (i + 1)).g≤(d ops.size).g := D.mono' (by omega) (Nat.le_refl _)
 have hmi := D.mono i hi
 have hag : AgreeOn (avoid (d i).g (d (i + 1)).g) ρ ρ1 := fun b hb => X.agree b (by rw [hEl,hFl]; simpa [avoid] using hb)
 have haw := I.away i hi hni
 refine ⟨?_,Hs.mapIdx fun b o => if b ∈ (d i).T then ((d i).F[b]?).getD .gone else o,?_⟩
 · unfold act
   congr 1
   exact map_congr_all (fun v hv => (ren_on hag hv).symm) t haw.2
 generalize hH1 : (Hs.mapIdx fun b o => if b ∈ (d i).T then ((d i).F[b]?).getD .gone else o) = Hs1
 have hlen1 : Hs1.length = Hs.length := by rw [← hH1]; simp
 have hT : ∀ b,b ∈ (d i).T→Hs1[b]? = (d i).F[b]? := fun b hb => by
   have h1 := D.tLt i hi b hb
   have h2 : b < Hs.length := by rw [I.len]; omega
   have h3 : b < (d i).F.length := by omega
   rw [← hH1]
   simp [h2,hb,h3]
 have hN : ∀ b,b ∉ (d i).T→Hs1[b]? = Hs[b]? := fun b hb => by
   rw [← hH1]
   simp [hb]
 obtain ⟨rel1,ext1⟩ := Rel.loc (Hs := Hs) (Hs1 := Hs1) I.rel (by rw [hFl,I.len]; exact hgn) hlen1
   (fun b hb => by rcases hsees b (by omega) with h | h; exact .inl h; exact .inr h.1)
   (fun b => by
     by_cases hb : b ∈ (d i).T
     · exact .inl ⟨by rw [hFl]; exact D.tLt i hi b hb,by rw [hT b hb,hFT b hb],fun hlt => hvis b hb (by omega)⟩
     · by_cases hlt : b < (d i).g
       · by_cases hg : E[b]? = some .gone
         · exact .inr ⟨hN b hb,fun _ => hg,.inl (by omega)⟩
         · refine .inl ⟨by omega,?_,fun _ => hg⟩
           rw [hN b hb,hFo b hlt hb]
           exact ((hsees b hlt).resolve_left hg).1.symm
       · refine .inr ⟨hN b hb,fun h => by omega,.inr ?_⟩
         rw [hFl]
         rcases Nat.lt_or_ge b (d (i + 1)).g with h | h
         · exact absurd (D.tNew i hi b (by omega) h) hb
         · exact h)
   R1 X (by rw [hEl,hFl]; exact haw.1)
 have last : ∀ b,b ∈ (d i).T→∀ j,j < ops.size→S j→b ∈ (d j).T→j < i := fun b hb j hj hs hbj => by
   have hji : j ≠ i := fun e => hni (e ▸ hs)
   rcases Nat.lt_or_gt_of_ne hji with h | h
   · exact h
   · exfalso
     have h1 := DInv.desc D I ho hni hpre j hj hs
     have h2 : j ∉ A i := fun h2 => by have := (DInv.ancS D I ho hni hpre j h2).2; omega
     by_cases hlt : b < (d i).g
     · rcases D.apart i j hi hj (Ne.symm hji) h1 h2 b hbj hlt with h3 | h3
       · exact D.tVis i hi b hb hlt h3
       · rw [(D.soft i j b hi h3).2.2.1] at hb; cases hb
     · have hb1 := D.tLt i hi b hb
       have hb2 : b < (d j).g := Nat.lt_of_lt_of_le hb1 (D.mono' (by omega) (by omega))
       rcases D.apart j i hj hi hji h2 h1 b hb hb2 with h3 | h3
       · exact D.tVis j hj b hbj hb2 h3
       · rw [(D.soft j i b hj h3).2.2.1] at hbj; cases hbj
 have lastW : ∀ x,dstOf ops i = some x→∀ j,j < ops.size→S j→dstOf ops j = some x→j < i := fun x hx j hj hs hbj => by
   have hji : j ≠ i := fun e => hni (e ▸ hs)
   rcases Nat.lt_or_gt_of_ne hji with h | h
   · exact h
   · have hxn : x ∈ names ops o := by
       simp only [names,List.mem_append]
       refine .inl (.inl ?_)
       simp only [dstOf,ho,Option.bind_some] at hx
       rw [hx]; simp
     exact absurd ((D.nms i o ho x hxn j hj hji hbj).2 h) (DInv.desc D I ho hni hpre j hj hs)
 have hputN : ∀ x,dstOf ops i ≠ some x→(aput t (dstOf ops i) (d i).V)[x]? = t[x]? := fun x hx => by
   cases hq : dstOf ops i with
   | none => rfl
   | some y =>
     have : y ≠ x := fun e => hx (by rw [hq,e])
     simp [aput,Array.getElem?_setIfInBounds_ne this]
 have hVn : ∀ i',i' < ops.size→i' ≠ i→¬ S i'→nm (avoid (d i').g (d (i' + 1)).g) (d i).V = true∧∀ b ∈ (d i).T,∀ o',(d i).F[b]? = some o'→o'.nm (avoid (d i').g (d (i' + 1)).g) = true := fun i' hi' hne hs' => by
   rcases Nat.lt_or_gt_of_ne hne with h | h
   · exact D.away i i' hi h fun ha => hs' (DInv.ancS D I ho hni hpre i' ha).1
   · have hm : (d (i + 1)).g≤(d i').g := D.mono' (by omega) (by omega)
     have hp : ∀ c,c < (d (i + 1)).g→avoid (d i').g (d (i' + 1)).g c = true := fun c hc => by simp [avoid]; omega
     exact ⟨sc_nm hp (D.valSc i hi),fun b hb o' ho' => AObj.sc_nm hp (by rw [← hFT b hb] at ho'; have := R1.scp b o' ho'; rwa [hFl] at this)⟩
 refine ⟨rel1,ext1 ρ0 H0 w0 (by rw [hEl,← D.g0]; exact D.mono' (Nat.zero_le _) (by omega)) I.ext,by rw [hlen1,I.len],?_,?_,?_,?_,?_,?_,?_,?_⟩
 · cases dstOf ops i <;> simp [aput,I.tsize]
 · intro k hk hs j hj
   rcases hs with rfl | hs
   · exact .inr (DInv.ancS D I ho hni hpre j hj).1
   · exact .inr (I.closed k hk hs j hj)
 · intro b j hj hs hbj hmax
   by_cases hb : b ∈ (d i).T
   · have : j = i := by
       rcases hs with h | h
       · exact h
       · have h1 := hmax i hi (.inl rfl) hb
         have h2 := last b hb j hj h hbj
         omega
     subst this
     exact ⟨hT b hb,fun o' ho' => by rw [hT b hb,← hFT b hb] at ho'; have := R1.scp b o' ho'; rwa [hFl] at this⟩
   · have hji : j ≠ i := fun e => hb (e ▸ hbj)
     rw [hN b hb]
     exact I.hpT b j hj (hs.resolve_left hji) hbj fun k hk hks hbk => hmax k hk (.inr hks) hbk
 · intro b hb hnone
   have hbi : b ∉ (d i).T := hnone i hi (.inl rfl)
   rw [hN b hbi]
   exact I.hpN b hb fun j hj hs => hnone j hj (.inr hs)
 · intro x j hj hs hbj hmax hx
   by_cases hd : dstOf ops i = some x
   · have : j = i := by
       rcases hs with h | h
       · exact h
       · have h1 := hmax i hi (.inl rfl) hd
         have h2 := lastW x hd j hj h hbj
         omega
     subst this
     rw [hd]
     have : x < t.size := by rw [I.tsize]; exact hx
     simp [aput,this]
   · have hji : j ≠ i := fun e => hd (e ▸ hbj)
     rw [hputN x hd]
     exact I.tmT x j hj (hs.resolve_left hji) hbj (fun k hk hks hbk => hmax k hk (.inr hks) hbk) hx
 · intro x hnone
   rw [hputN x (hnone i hi (.inl rfl))]
   exact I.tmN x fun j hj hs => hnone j hj (.inr hs)
 · intro i' hi' hs'
   have hne : i' ≠ i := fun e => hs' (.inl e)
   have hs2 : ¬ S i' := fun h => hs' (.inr h)
   obtain ⟨a1,a2⟩ := I.away i' hi' hs2
   obtain ⟨v1,v2⟩ := hVn i' hi' hne hs2
   refine ⟨fun b o' hb => ?_,?_⟩
   · by_cases hbT : b ∈ (d i).T
     · rw [hT b hbT] at hb; exact v2 b hbT o' hb
     · rw [hN b hbT] at hb; exact a1 b o' hb
   · cases dstOf ops i with
     | none => exact a2
     | some x =>
       refine Array.all_eq_true'.2 fun u hu => ?_
       rcases Array.mem_or_eq_of_mem_setIfInBounds hu with h1 | h1
       · exact Array.all_eq_true'.1 a2 u h1
       · rw [h1]; exact v1
 · rw [hlen1]
   exact aput_sc I.tsc (sc_mono (by rw [I.len]; exact hgn) (D.valSc i hi))
end step
theorem getD_of_get {t : Array Value} {x : Nat} {u : Array Value} (h : t[x]? = u[x]?) : t.getD x undef = u.getD x undef := by
 simp only [Array.getD_eq_getD_getElem?,h]
theorem DInv.step (D : DagOk P ops A d G H0 t0 sf) (h0 : t0.all (sc H0.length) = true) (I : DInv ops A d H0 t0 ρ0 w0 S ρ t Hs w) {i : Nat} {o : Oper} (ho : ops[i]? = some o) (hni : ¬ S i)
   (hpre : ∀ e ∈ o.after,Region.binds .any e = true→S e.on) {Q : Exit→Act→World→Prop} {K : Act→World→Prop}
   (hK : ∀ ρ1 t1 Hs1 w1,DInv ops A d H0 t0 ρ0 w0 (fun j => j = i∨S j) ρ1 t1 Hs1 w1→K (act dd ρ1 t1) w1) : wpOpIn dd.F 0 P ops Q i K (act dd ρ t) w := by
 have hi := get_lt ho
 obtain ⟨E,F,hEl,hFl,htri,hsees,hFT,hFo,hvis⟩ := DInv.pick D I ho hni hpre
 have hfr := DInv.frame D I ho hni hpre
 have RE : Rel ρ E w := I.rel.sub (fun b hb => by rcases hsees b (by omega) with h | h; exact .inl h; exact .inr h.1) (fun b o' hb => by
   have hl := (List.getElem?_eq_some_iff.1 hb).1
   rcases hsees b (by omega) with h | h
   · rw [h] at hb; cases hb; rfl
   · rw [h.1] at hb; rw [hEl]; exact h.2 o' hb)
 have hdst : dstOf ops i = o.dst := by simp [dstOf,ho]
 have hsel := Region.noSelect_spec D.select i o
 have hev : execOp (act dd ρ t).eval o = execOp (act dd ρ (d i).tm).eval o := execOp_congr o (fun cs b => hsel cs b ho) fun x hx => by
   cases x with
   | tmp k =>
     show (t.map (ren ρ)).getD k undef = ((d i).tm.map (ren ρ)).getD k undef
     rw [getD_map_ren,getD_map_ren]
     congr 1
     refine getD_of_get (hfr k ?_)
     simp only [names,List.mem_append]
     refine .inl (.inr ?_)
     exact List.mem_filterMap.2 ⟨.tmp k,by simpa using hx,rfl⟩
   | _ => rfl
 have hwant : Region.wanted o (yielded ops t) = Region.wanted o (yielded ops (d i).tm) := by
   unfold Region.wanted
   cases hg : o.guard with
   | none => rfl
   | some jw =>
     obtain ⟨j,want⟩ := jw
     simp only
     congr 1
     unfold yielded
     cases hd : (ops[j]?).bind (·.dst) with
     | none => rfl
     | some x =>
       simp only [Option.bind_some]
       rw [hfr x (by simp [names,hg,hd])]
 unfold OpTri at htri
 unfold wpOpIn
 rw [ho]
 simp only
 rw [show yielded ops (act dd ρ t).tmps = yielded ops t from yielded_ren ops t,hwant]
 have finish : ∀ ρ1 w1,Rel ρ1 F w1→Ext ρ E w ρ1 F w1→K ((act dd ρ t).put o.dst (ren ρ1 (d i).V)) w1 := fun ρ1 w1 R1 X1 => by
   obtain ⟨e1,Hs1,I1⟩ := DInv.next D I ho hni hpre hEl hFl hsees hFT hFo hvis R1 X1
   rw [e1,act_put,← hdst]
   exact hK _ _ _ _ I1
 split at htri
 · rename_i hw
   rw [if_pos hw]
   refine ⟨fun _ _ => trivial,?_⟩
   have htsc := D.textSc h0 i (by omega)
   rw [← hEl] at htsc
   have hE := aeval_ok (D := dd) (ρ := ρ) htsc
   have hnd : ∀ c,o.op ≠ .defer c := by
     cases he : evOp P (aeval (d i).tm) E o with
     | none =>
       rw [he] at htri
       simp only at htri
       split at htri
       · exact rowOf_defer ‹_›
       · split at htri <;> try (exact htri.elim)
         exact (yield_args hE ‹_›).2
     | some q => exact evOp_defer he
   rw [Oper.semAt_eq _ _ _ hnd,hev]
   cases he : evOp P (aeval (d i).tm) E o with
   | none =>
     rw [he] at htri
     simp only at htri
     split at htri
     · rename_i v F1 hrow
       obtain ⟨rfl,rfl⟩ := htri
       obtain ⟨ρ1,w1,h1,h2,h3,h4⟩ := rowOf_sound (w := w) RE (aeval_ok htsc) hrow
       rw [h1]
       exact finish ρ1 w1 h2 h3
     split at htri <;> try (exact htri.elim)
     rename_i b args hy
     obtain ⟨fn,tmps,assign,body,k1,k2⟩ := htri ρ w RE (yield_args hE hy).1
     rw [yield_run hE hy k1]
     rw [Oper.uponIn_round]
     refine ⟨fun hd => (by cases hd),RoundIn.mono (F := Fence.wide) k2 ?_⟩
     rintro e w2 ⟨ρ2,v,H2,rfl,⟨rfl,rfl⟩,k3,k4,k5⟩
     exact finish ρ2 w2 k3 k4
   | some r =>
     obtain ⟨r,H1⟩ := r
     rw [he] at htri
     obtain ⟨ρ1,w1,h1,h2,h3,h4⟩ := evOp_sound (w := w) RE (aeval_ok htsc) he
     rw [h1]
     cases r with
     | value v =>
       obtain ⟨rfl,rfl⟩ := htri
       exact finish ρ1 w1 h2 h3
     | skip =>
       obtain ⟨hv,rfl⟩ := htri
       have := finish ρ1 w1 h2 h3
       rw [hv,ren_undef] at this
       exact this
     | enter f args =>
       simp only [ONext.to,Oper.uponIn]
       refine ⟨fun hd => (by cases hd),CallsIn.mono (callsIn_wide.2 (htri ρ1 w1 h2 h4)) ?_⟩
       rintro e w2 ⟨ρ2,v,H2,rfl,⟨rfl,rfl⟩,k2,k3,k4⟩
       exact finish ρ2 w2 k2 (h3.trans k3)
 · rename_i hw
   rw [if_neg hw]
   obtain ⟨hv,hEF⟩ := htri
   change E = F at hEF
   subst hEF
   have := finish ρ w RE (Ext.refl _ _ _)
   rw [hv,ren_undef] at this
   exact ⟨fun _ _ => trivial,this⟩
theorem getD_both {listed : Array Bool} {i : Nat} (h : listed.getD i true = false) : listed.getD i false = false := by
 rcases Nat.lt_or_ge i listed.size with h' | h'
 · simp [h'] at h ⊢; exact h
 · simp [Array.getElem?_eq_none h'] at h
theorem getD_in {listed : Array Bool} {i : Nat} (hi : i < listed.size) (h : listed.getD i false = false) : listed.getD i true = false := by
 simp [hi] at h ⊢; exact h
theorem getD_replicate_false (m j : Nat) : (Array.replicate m false).getD j false = false := by
 rcases Nat.lt_or_ge j m with h | h
 · simp [h]
 · simp [Array.getElem?_eq_none (by simpa using h : (Array.replicate m false).size≤j)]
def listedS (listed : Array Bool) (j : Nat) : Prop := listed.getD j false = true
theorem DInv.congr {S' : Nat→Prop} (h : ∀ j,S j ↔ S' j) (I : DInv ops A d H0 t0 ρ0 w0 S ρ t Hs w) : DInv ops A d H0 t0 ρ0 w0 S' ρ t Hs w := by
 have : S = S' := funext fun j => propext (h j)
 exact this ▸ I
theorem DInv.done (D : DagOk P ops A d G H0 t0 sf) (I : DInv ops A d H0 t0 ρ0 w0 S ρ t Hs w) (hall : ∀ j,j < ops.size→S j) : Hs = G ops.size∧t = (d ops.size).tm := by
 constructor
 · apply List.ext_getElem?
   intro b
   have htxt := D.textHeap b ops.size (Nat.le_refl _)
   by_cases hex : ∃ j,j < ops.size∧b ∈ (d j).T
   · obtain ⟨j,hj,hbj,hmax⟩ := exists_max ops.size hex
     rw [htxt.1 j hj hbj hmax]
     exact (I.hpT b j hj (hall j hj) hbj fun k hk _ => hmax k hk).1
   · have hnone : ∀ j,j < ops.size→b ∉ (d j).T := fun j hj hbj => hex ⟨j,hj,hbj⟩
     rw [htxt.2 hnone]
     rcases Nat.lt_or_ge b (d ops.size).g with h | h
     · have h1 := (I.hpN b h fun j hj _ => hnone j hj).1
       have h2 : b < (d 0).g := by
         rcases DagOk.born (ops := ops) (d := d) (Nat.le_refl _) h with h | ⟨j,h1,h2,h3⟩
         · exact h
         · exact absurd (D.tNew j h1 b h2 h3) (hnone j h1)
       rw [h1,if_pos h2]
     · have hg := D.mono' (Nat.zero_le ops.size) (Nat.le_refl _)
       rw [List.getElem?_eq_none (by rw [I.len]; exact h),List.getElem?_eq_none (by rw [← D.g0]; omega)]
 · apply Array.ext_getElem?
   intro x
   obtain ⟨hsz,h1,h2⟩ := D.textTm x ops.size (Nat.le_refl _)
   by_cases hx : x < t0.size
   · by_cases hex : ∃ j,j < ops.size∧dstOf ops j = some x
     · obtain ⟨j,hj,hbj,hmax⟩ := exists_max ops.size hex
       rw [h1 j hj hbj hmax hx]
       exact I.tmT x j hj (hall j hj) hbj (fun k hk _ => hmax k hk) hx
     · have hnone : ∀ j,j < ops.size→dstOf ops j ≠ some x := fun j hj hbj => hex ⟨j,hj,hbj⟩
       rw [h2 hnone]
       exact I.tmN x fun j hj _ => hnone j hj
   · have hx' : t0.size≤x := Nat.le_of_not_lt hx
     have e1 : t[x]? = none := Array.getElem?_eq_none (by rw [I.tsize]; exact hx')
     have e2 : (d ops.size).tm[x]? = none := Array.getElem?_eq_none (by rw [hsz]; exact hx')
     rw [e1,e2]
theorem DInv.start (D : DagOk P ops A d G H0 t0 sf) (R : Rel ρ H0 w) (h0 : t0.all (sc H0.length) = true) (S : Nat→Prop) (hS : ∀ j,¬ S j) :
   DInv ops A d H0 t0 ρ w S ρ t0 (H0 ++ List.replicate ((d ops.size).g - H0.length) .gone) w.drew := by
 have hg := D.mono' (Nat.zero_le ops.size) (Nat.le_refl _)
 rw [D.g0] at hg
 have hl : (H0 ++ List.replicate ((d ops.size).g - H0.length) AObj.gone).length = (d ops.size).g := by simp; omega
 generalize hHs : (H0 ++ List.replicate ((d ops.size).g - H0.length) AObj.gone) = Hs at hl
 have hget : ∀ b,b < (d ops.size).g→Hs[b]? = if b < H0.length then H0[b]? else some .gone := fun b hb => by
   rw [← hHs]
   split
   · rename_i h; rw [List.getElem?_append_left h]
   · rename_i h
     rw [List.getElem?_append_right (by omega)]
     rw [List.getElem?_replicate,if_pos (by omega)]
 have hcase : ∀ (b : Nat) (o : AObj),Hs[b]? = some o→o = .gone∨(b < H0.length∧H0[b]? = some o) := fun b o hb => by
   have hlt := (List.getElem?_eq_some_iff.1 hb).1
   rw [hget b (by omega)] at hb
   split at hb
   · exact .inr ⟨‹_›,hb⟩
   · cases hb; exact .inl rfl
 have hwr : ∀ b,wr Hs b = true→wr H0 b = true := fun b hb => by
   have hlt := wr_lt hb
   have hg := List.getElem?_eq_getElem hlt
   rw [wr_of_get hg] at hb
   rcases hcase b _ hg with h | h
   · rw [h] at hb; cases hb
   · rw [wr_of_get h.2]; exact hb
 have hro : ∀ b,isRo Hs b = true→isRo H0 b = true := fun b hb => by
   have hlt := isRo_lt hb
   have hg := List.getElem?_eq_getElem hlt
   rw [isRo_of_get hg] at hb
   rcases hcase b _ hg with h | h
   · rw [h] at hb; cases hb
   · rw [isRo_of_get h.2]; exact hb
 have hmx : ∀ b,isMix Hs b = true→isMix H0 b = true := fun b hb => by
   obtain ⟨cs,hg⟩ := getMix hb
   rcases hcase b _ hg with h | h
   · cases h
   · rw [isMix_of_get h.2]; rfl
 have Rd := R.drew
 have hsc : ∀ (b : Nat) (o : AObj),Hs[b]? = some o→o.sc H0.length = true := fun b o hb => by
   rcases hcase b o hb with h | h
   · rw [h]; rfl
   · exact R.scp b o h.2
 refine ⟨⟨fun b o hb => ?_,fun b b' hb hb' => R.inj b b' (hwr b hb) (hwr b' hb'),fun b b' hb hb' => R.sep b b' (hro b hb) (hwr b' hb'),fun b b' hb hb' => R.deep b b' (hmx b hb) (hwr b' hb'),fun b o hb => AObj.sc_mono (by omega) (hsc b o hb)⟩,
   ⟨by omega,fun _ _ => ⟨rfl,rfl,rfl⟩,Nat.le_refl _,fun _ _ _ => rfl,fun b hb => .inl (hwr b hb),fun b hb => .inl (hro b hb),hmx,rfl,rfl,rfl⟩,
   hl,rfl,fun i _ hs => absurd hs (hS i),fun b j _ hs => absurd hs (hS j),fun b hb _ => ⟨by rw [D.g0]; exact hget b hb,fun o hb' => by rw [D.g0]; exact hsc b o hb'⟩,
   fun x j _ hs => absurd hs (hS j),fun x _ => rfl,fun i hi _ => ⟨fun b o hb => ?_,?_⟩,all_mono (fun _ => sc_mono (by omega)) _ h0⟩
 · rcases hcase b o hb with h | h
   · rw [h]; trivial
   · exact Rd.obj b o h.2
 · have hm : H0.length≤(d i).g := by rw [← D.g0]; exact D.mono' (Nat.zero_le _) (by omega)
   exact AObj.sc_nm (fun c hc => by simp [avoid]; omega) (hsc b o hb)
 · have hm : H0.length≤(d i).g := by rw [← D.g0]; exact D.mono' (Nat.zero_le _) (by omega)
   exact all_mono (fun _ => sc_nm (fun c hc => by simp [avoid]; omega)) _ h0
theorem filter_le {p q : Nat→Bool} (hsub : ∀ j,p j = true→q j = true) : ∀ (l : List Nat),(l.filter p).length≤(l.filter q).length
 | [] => Nat.le_refl _
 | b :: l => by
   have ih := filter_le hsub l
   simp only [List.filter_cons]
   split
   · rename_i h1; rw [if_pos (hsub b h1)]; simp only [List.length_cons]; omega
   · split
     · simp only [List.length_cons]; omega
     · exact ih
theorem filter_lt {p q : Nat→Bool} (hsub : ∀ j,p j = true→q j = true) {i : Nat} : ∀ {l : List Nat},i ∈ l→p i = false→q i = true→(l.filter p).length < (l.filter q).length
 | [],h,_,_ => by cases h
 | a :: l,h,h1,h2 => by
   have hle := filter_le hsub l
   simp only [List.filter_cons]
   by_cases hia : i = a
   · subst hia
     rw [if_neg (by rw [h1]; simp),if_pos h2]
     simp only [List.length_cons]; omega
   · have ih := filter_lt hsub ((List.mem_cons.1 h).resolve_left hia) h1 h2
     split
     · rename_i h3; rw [if_pos (hsub a h3)]; simp only [List.length_cons]; omega
     · split
       · simp only [List.length_cons]; omega
       · exact ih
def unlisted (n : Nat) (listed : Array Bool) : Nat := ((List.range n).filter fun j => !listed.getD j false).length
theorem unlisted_set {n i : Nat} {listed : Array Bool} (hi : i < n) (hs : i < listed.size) (hl : listed.getD i false = false) : unlisted n (listed.setIfInBounds i true) < unlisted n listed := by
 unfold unlisted
 have hsub : ∀ j,(!(listed.setIfInBounds i true).getD j false) = true→(!listed.getD j false) = true := fun j hj => by
   by_cases hji : i = j
   · subst hji; simp [hs] at hj
   · rw [getD_set_ne false hji] at hj; exact hj
 exact filter_lt hsub (List.mem_range.2 hi) (by simp [hs]) (by rw [hl]; rfl)
theorem ready_nil_all (D : DagOk P ops A d G H0 t0 sf) {listed : Array Bool} (hsz : listed.size = ops.size) (h : Region.ready .any ops listed = []) : ∀ j,j < ops.size→listedS listed j := by
 intro j
 induction j using Nat.strongRecOn with
 | _ j ih =>
   intro hj
   by_cases hl : listed.getD j false = true
   · exact hl
   · exfalso
     have hoj : ops[j]? = some ops[j] := Array.getElem?_eq_getElem hj
     have : j ∈ Region.ready .any ops listed := mem_ready.2 ⟨getD_in (by omega) (by simpa using hl),ops[j],hoj,fun e he hb => ih e.on (D.ancLt j _ hoj e he hb) (by have := D.ancLt j _ hoj e he hb; omega)⟩
     rw [h] at this; cases this
def AnyW (ro : Option Nat) (P : Program) (ops : Array Oper) (H : Heap) (t : Array Value) (Q : AExit→Array Value→Heap→Prop) : Prop :=
 ∀ base ds ρ w,Rel ρ H w→Marks base ρ H w ds→t.all (sc H.length) = true →
   wpAnyIn (Place.F ⟨ds,ro⟩) 0 P .any ops (Post base ro ρ H w Q) ops.size (Array.replicate ops.size false) (act ⟨ds,ro⟩ ρ t) { w with drawn := w.drawn + 1 }
theorem AnyW.draw {ro : Option Nat} {Q : AExit→Array Value→Heap→Prop} (D : DagOk P ops A d G H0 t0 sf) (hQ : Q .normal (d ops.size).tm (G ops.size)) : AnyW ro P ops H0 t0 Q := fun base ds ρ w R M hs => by
 have fin : ∀ (listed : Array Bool) (ρ1 : Ren) (t1 : Array Value) (Hs1 : Heap) (w1 : World),listed.size = ops.size→Region.ready .any ops listed = []→DInv ops A d H0 t0 ρ w (listedS listed) ρ1 t1 Hs1 w1→Post base ro ρ H0 w Q .normal (act ⟨ds,ro⟩ ρ1 t1) w1 := by
   intro listed ρ1 t1 Hs1 w1 hsz hr I
   obtain ⟨e1,e2⟩ := I.done D (ready_nil_all D hsz hr)
   subst e1; subst e2
   exact ⟨.normal,rfl,ds,ρ1,_,_,rfl,hQ,I.rel,I.ext,I.tsc,M.ext I.ext⟩
 have key : ∀ (fuel : Nat) (listed : Array Bool) (ρ1 : Ren) (t1 : Array Value) (Hs1 : Heap) (w1 : World), listed.size = ops.size → unlisted ops.size listed ≤ fuel → DInv ops A d H0 t0 ρ w (listedS listed) ρ1 t1 Hs1 w1 →
     wpAnyIn (Place.F ⟨ds,ro⟩) 0 P .any ops (Post base ro ρ H0 w Q) fuel listed (act ⟨ds,ro⟩ ρ1 t1) w1 := by
   intro fuel
   induction fuel with
   | zero =>
     intro listed ρ1 t1 Hs1 w1 hsz hf I
     have hr : Region.ready .any ops listed = [] := by
       apply List.eq_nil_iff_forall_not_mem.2
       intro j hj
       obtain ⟨h1,o,h2,h3⟩ := mem_ready.1 hj
       have hlt := get_lt h2
       have : j ∈ (List.range ops.size).filter fun j => !listed.getD j false := List.mem_filter.2 ⟨List.mem_range.2 hlt,by rw [getD_both h1]; rfl⟩
       unfold unlisted at hf
       have h0 := List.length_pos_of_mem this
       omega
     exact ⟨hr,fin listed ρ1 t1 Hs1 w1 hsz hr I⟩
   | succ fuel ih =>
     intro listed ρ1 t1 Hs1 w1 hsz hf I
     refine ⟨fun hr => fin listed ρ1 t1 Hs1 w1 hsz hr I,fun i hi => ?_⟩
     obtain ⟨h1,o,h2,h3⟩ := mem_ready.1 hi
     have hlt := get_lt h2
     have hl := getD_both h1
     refine I.step (dd := ⟨ds,ro⟩) D hs h2 (by simp [listedS,hl]) (fun e he hb => h3 e he hb) fun ρ2 t2 Hs2 w2 I2 => ?_
     refine ih _ ρ2 t2 Hs2 w2 (by simp [hsz]) (by have := unlisted_set hlt (by omega) hl; omega) (I2.congr fun j => ?_)
     by_cases hji : i = j
     · subst hji
       simp [listedS,show i < listed.size from by omega]
     · unfold listedS
       rw [getD_set_ne false hji]
       simp [Ne.symm hji]
 refine key ops.size _ ρ t0 _ _ (by simp) ?_ (DInv.start D R hs _ fun j => by unfold listedS; rw [getD_replicate_false]; exact Bool.false_ne_true)
 unfold unlisted
 have := List.length_filter_le (fun j => !(Array.replicate ops.size false).getD j false) (List.range ops.size)
 simpa using this
theorem CW.draw {ro : Option Nat} {id : Nat} {Q : AExit→Array Value→Heap→Prop} (hm : P.follows .mixedOrders = true) (D : DagOk P ops A d G H0 t0 sf) (hQ : Q .normal (d ops.size).tm (G ops.size)) : CW ro P (.region id ops true) H0 t0 Q := fun base ds ρ w R M hs _ =>
 wpIn_region_any hm (AnyW.draw (ro := ro.map ρ.φ) D hQ base ds ρ w R M hs)
end Go.Pier
