import Derived.Test.YtbmdkgoclijgkaaPierKD3
import Derived.Test.YtbmdkgoclijgkaaPierRoundB
import Derived.KernelRfl
import Derived.Test.YtbmdkgoclijgkaaPierKD5
import Derived.Test.YtbmdkgoclijgkaaPierKD8
import Derived.Test.YtbmdkgoclijgkaaPierKD7
import Derived.Test.YtbmdkgoclijgkaaPierKD6
set_option linter.unusedSimpArgs false
set_option linter.unusedVariables false
set_option maxRecDepth 100000
namespace Go.Pier.Rd
open Go Go.Pier Go.Proofs
def worksS (r : List Arg) : Prop × Value := match r with | [] => (True,.bool true) | _ => (False,undef)
theorem worksG_ok : ∀ args H φ v H' l,pureG [] worksS args H = some (φ,v,H',l)→Asks φ→Call Try.prog 18 args H (fun v' H2 => v' = v∧H2 = H')∧Kept H H' l :=
 closedG_ok (RoundK.works_ok.call.mono fun v H h => h.1) rfl
theorem fits3_one {k : LK} {ps : List K3} {r : List Arg3} (h : fits3 (.one k :: ps) r) : ∃ l r',r = .one l :: r'∧k.fits l∧fits3 ps r' := by
 cases r with
 | nil => exact h.elim
 | cons a r => cases a with
   | one l => exact ⟨l,r,rfl,h.1,h.2⟩
   | agg ls => exact h.elim
theorem fits3_agg {ks : List LK} {ps : List K3} {r : List Arg3} (h : fits3 (.agg ks :: ps) r) : ∃ ls r',r = .agg ls :: r'∧fitsL ks ls∧fits3 ps r' := by
 cases r with
 | nil => exact h.elim
 | cons a r => cases a with
   | one l => exact h.elim
   | agg ls => exact ⟨ls,r,rfl,h.1,h.2⟩
theorem fits3_nil {r : List Arg3} (h : fits3 [] r) : r = [] := by
 cases r with
 | nil => rfl
 | cons a r => exact h.elim
theorem fitsL_cons {k : LK} {ks : List LK} {ls : List Leaf} (h : fitsL (k :: ks) ls) : ∃ l r,ls = l :: r∧k.fits l∧fitsL ks r := by
 cases ls with
 | nil => exact h.elim
 | cons l r => exact ⟨l,r,rfl,h.1,h.2⟩
theorem fitsL_nil {ls : List Leaf} (h : fitsL [] ls) : ls = [] := by
 cases ls with
 | nil => rfl
 | cons l r => exact h.elim
def isTrue (v : Value) (_ : Heap) : Prop := v = .bool true
end Go.Pier.Rd
namespace Go.Pier.Rd
open Go Go.Pier Go.Proofs
noncomputable def frT : Ct := ((Ct.none.add 18 (pureG [] worksS)).add 22 (pureP (fun b n l => vi (errP b n l)) (vi 6))).add 24 (pure3 psP (specQ shF))
theorem getD_two {m : List Int} {x y : Int} {i : Nat} (h : m.length = i * 2) : (m ++ [x,y]).getD (i * 2) 0 = x∧(m ++ [x,y]).getD (i * 2 + 1) 0 = y := by
 refine ⟨?_,?_⟩
 · rw [List.getD_eq_getElem?_getD,List.getElem?_append_right (by omega),show i * 2 - m.length = 0 by omega]; rfl
 · rw [List.getD_eq_getElem?_getD,List.getElem?_append_right (by omega),show i * 2 + 1 - m.length = 1 by omega]; rfl
theorem laterL_pl {k : Int} {l : List Int} : ∀ (n i : Nat),i < n→pl (laterL k l n) i = pl l i∧tw (laterL k l n) i = clampT k (tw l i)
 | 0,i,h => by omega
 | n + 1,i,h => by
   have hl := later_len (k := k) (l := l) n
   by_cases e : i = n
   · subst e
     exact getD_two hl
   · obtain ⟨h1,h2⟩ := laterL_pl (k := k) (l := l) n i (by omega)
     refine ⟨?_,?_⟩
     · rw [← h1]; exact getD_app (by omega)
     · rw [← h2]; exact getD_app (by omega)
theorem clamp_bd {k x : Int} : 0≤clampT k x∧clampT k x≤9000 := by unfold clampT; split <;> split at * <;> omega
theorem later_ok {b k : Int} {n : Nat} {l : List Int} (hP : errP b n l = 0) : errP b n (laterL k l n) = 0 := by
 obtain ⟨h1,hr,ho⟩ := errP_cases hP
 refine errP_ok h1 ⟨fun i hi => ?_,hr.2⟩ fun i hi => ?_
 · obtain ⟨e1,e2⟩ := laterL_pl (k := k) (l := l) n i hi
   rw [e1,e2]
   exact ⟨(hr.1 i hi).1,clamp_bd⟩
 · rw [(laterL_pl (k := k) (l := l) n i hi).1]
   refine ⟨(ho i hi).1,fun h0 => ?_⟩
   rw [(laterL_pl (k := k) (l := l) n (i - 1) (by omega)).1]
   exact (ho i hi).2 h0
abbrev psPT : List K3 := [.agg [.int .i64,.rows [.i .i64,.i .i64] true]]
theorem fits_p {r : List Arg3} (h : fits3 psPT r) : ∃ b lf,r = [.agg [.plain (.int .i64 b),lf]]∧(lf = .plain (.slice none 0 0)∨(∃ s,lf = .hole s)∨∃ (l : List Int) (n : Nat),lf = .view (l.map (.int .i64)) n true∧l.length = n * 2) := by
 obtain ⟨ls,r,rfl,hg,h⟩ := fits3_agg h
 obtain rfl := fits3_nil h
 obtain ⟨x,ls,rfl,h1,hg⟩ := fitsL_cons hg
 obtain ⟨y,ls,rfl,h2,hg⟩ := fitsL_cons hg
 obtain rfl := fitsL_nil hg
 obtain ⟨b,rfl,_⟩ := h1
 refine ⟨b,y,rfl,?_⟩
 rcases h2 with h2 | h2 | ⟨cs,n,h2,h4⟩
 · exact .inl h2
 · exact .inr (.inl h2)
 · obtain ⟨l,rfl,e,_⟩ := RowsOk.ints (k := .i64) (m := 2) h4
   exact .inr (.inr ⟨l,n,h2,e⟩)
end Go.Pier.Rd
namespace Go.Pier.Rd
open Go Go.Pier Go.Proofs
theorem rds_length {n : Nat} : ∀ (κ f t : Nat) (m : List Int),(rds n κ f t m).length≤2 ^ κ
 | 0,_,_,_ => by rw [rds]; exact Nat.le_refl _
 | κ + 1,f,t,m => by
   have h1 := rds_length (n := n) κ (f - 1) t (m ++ [((f - 1 : Nat) : Int)])
   have h2 := rds_length (n := n) κ f (t + 1) (m ++ [(t : Int)])
   rw [rds,List.length_append,Nat.pow_succ]
   have e1 : (if 0 < f then rds n κ (f - 1) t (m ++ [((f - 1 : Nat) : Int)]) else []).length≤2 ^ κ := by
     split
     · exact h1
     · exact Nat.zero_le _
   have e2 : (if t < n then rds n κ f (t + 1) (m ++ [(t : Int)]) else []).length≤2 ^ κ := by
     split
     · exact h2
     · exact Nat.zero_le _
   omega
theorem foldC_spec {b : Int} {l : List Int} {g : (Nat→Int)→Bool} : ∀ (r : List (List Int)) (k : Int),0≤k→k + r.length≤1000000→k≤foldC b l g k r∧foldC b l g k r≤k + r.length∧(k < foldC b l g k r ↔ ∃ m ∈ r,g (stp b l m) = true)
 | [],k,_,_ => ⟨Int.le_refl _,by rw [foldC]; simp,by rw [foldC]; simp⟩
 | m :: r,k,h0,h => by
   rw [List.length_cons] at h ⊢
   rw [foldC]
   unfold stepC
   cases hg : g (stp b l m) with
   | true =>
     have w : IntKind.i64.wrap (k + 1) = k + 1 := wrap_in (by omega) (by omega)
     show k≤foldC b l g (IntKind.i64.wrap (k + 1)) r∧foldC b l g (IntKind.i64.wrap (k + 1)) r≤_∧(k < foldC b l g (IntKind.i64.wrap (k + 1)) r ↔ _)
     rw [w]
     obtain ⟨h1,h2,_⟩ := foldC_spec (b := b) (l := l) (g := g) r (k + 1) (by omega) (by omega)
     exact ⟨by omega,by omega,fun _ => ⟨m,List.mem_cons_self,hg⟩,fun _ => by omega⟩
   | false =>
     show k≤foldC b l g k r∧foldC b l g k r≤_∧(k < foldC b l g k r ↔ _)
     obtain ⟨h1,h2,h3⟩ := foldC_spec (b := b) (l := l) (g := g) r k h0 (by omega)
     refine ⟨h1,by omega,fun hk => ?_,fun ⟨m2,hm,hk⟩ => ?_⟩
     · obtain ⟨m2,hm,hk⟩ := h3.1 hk
       exact ⟨m2,List.mem_cons_of_mem _ hm,hk⟩
     · rcases List.mem_cons.1 hm with rfl | hm
       · rw [hg] at hk; cases hk
       · exact h3.2 ⟨m2,hm,hk⟩
theorem ltN_le {b : Int} {n : Nat} {l : List Int} {x : Nat→Int} {v : Int} (hr : rngP b n l) (hx : SmallS x) (hn1 : 1≤n) : ∀ y,y≤n→(ltN l x y≤v ↔ x 0 - tw l 0≤v∧∀ i,i < y→x i - tw l i≤v)
 | 0,_ => by
   have h1 := hx 0
   have h2 := (hr.1 0 (by omega)).2
   rw [ltN,wrap_in (by omega) (by omega)]
   exact ⟨fun h => ⟨h,fun i hi => by omega⟩,fun h => h.1⟩
 | y + 1,hy => by
   have h1 := hx y
   have h2 := (hr.1 y (by omega)).2
   have ih := ltN_le (v := v) hr hx hn1 y (by omega)
   rw [ltN,wrap_in (by omega) (by omega)]
   constructor
   · intro h
     have h3 : ltN l x y≤v∧x y - tw l y≤v := by split at h <;> omega
     obtain ⟨k1,k2⟩ := ih.1 h3.1
     refine ⟨k1,fun i hi => ?_⟩
     by_cases e : i = y
     · subst e; exact h3.2
     · exact k2 i (by omega)
   · rintro ⟨k1,k2⟩
     have h3 := ih.2 ⟨k1,fun i hi => k2 i (by omega)⟩
     have h4 := k2 y (by omega)
     split <;> omega
theorem inTB_lt {b : Int} {n : Nat} {l : List Int} {x : Nat→Int} (hr : rngP b n l) (hx : SmallS x) (hn1 : 1≤n) : inTB n l x = true ↔ ltN l x n≤0 := by
 rw [ltN_le hr hx hn1 n (Nat.le_refl _)]
 constructor
 · intro h
   have h1 := of_dB h
   exact ⟨by have := h1 0 (by omega); omega,fun i hi => by have := h1 i hi; omega⟩
 · rintro ⟨_,h⟩
   exact (dB_true fun i hi => by have := h i hi; omega).symm
theorem dly_least {b : Int} {n : Nat} {l : List Int} (_ : errP b n l = 0) : (∃ m ∈ rds n n (lefts b n l) (lefts b n l) [],dlyF b n l = ltN l (stp b l m) n)∧∀ m ∈ rds n n (lefts b n l) (lefts b n l) [],dlyF b n l≤ltN l (stp b l m) n := by
 obtain ⟨⟨m,h1,_,h3⟩,h4⟩ := dlL_least.2 (dlL_no (b := b) (n := n) (f := lefts b n l) (l := l) lefts_le)
 exact ⟨⟨m,h1,by unfold dlyF; rw [h3]⟩,fun m hm => h4 m hm rfl⟩
section
variable {b : Int} {n : Nat} {l : List Int} (hP : errP b n l = 0)
include hP
theorem cnt_pos : 0 < cntF b n l ↔ dlyF b n l≤0 := by
 obtain ⟨⟨n1,n2⟩,hr,ho⟩ := errP_cases hP
 obtain ⟨⟨m0,hm0,e0⟩,hle⟩ := dly_least hP
 have hlen := rds_length (n := n) n (lefts b n l) (lefts b n l) []
 have hpow : 2 ^ n≤2 ^ 10 := Nat.pow_le_pow_right (by decide) n2
 have h10 : (2 : Nat) ^ 10 = 1024 := by decide
 have h3 := (foldC_spec (b := b) (l := l) (g := inTB n l) (rds n n (lefts b n l) (lefts b n l) []) 0 (by omega) (by omega)).2.2
 have hs : ∀ m ∈ rds n n (lefts b n l) (lefts b n l) [],SmallS (stp b l m) := fun m hm => stp_small n2 hr (rds_mem_whole lefts_le m hm)
 show 0 < foldC b l (inTB n l) 0 (rds n n (lefts b n l) (lefts b n l) []) ↔ _
 rw [h3]
 constructor
 · rintro ⟨m,hm,hg⟩
   have h4 := (inTB_lt hr (hs m hm) n1).1 hg
   have := hle m hm
   omega
 · intro h
   exact ⟨m0,hm0,(inTB_lt hr (hs m0 hm0) n1).2 (by omega)⟩
end
section
variable {b : Int} {n : Nat} {l l' : List Int} (hp : ∀ i,i < n→pl l' i = pl l i)
include hp
theorem lf_same : ∀ (x i : Nat),i + x≤n→lf b l' x i = lf b l x i
 | 0,_,_ => rfl
 | x + 1,i,h => by rw [lf,lf,hp i (by omega),lf_same x (i + 1) (by omega)]
theorem lefts_same : lefts b n l' = lefts b n l := lf_same hp n 0 (by omega)
variable {m : List Int} (hm : ∀ j,j < m.length→0≤m.getD j 0∧m.getD j 0 < n)
include hm
theorem rAt_same : ∀ x,x≤m.length→rAt b l' m x = rAt b l m x
 | 0,_ => rfl
 | x + 1,h => by
   have := hm x (by omega)
   rw [rAt,rAt,hp _ (by omega)]
theorem rSt_same : ∀ x,x≤m.length→rSt b l' m x = rSt b l m x
 | 0,_ => rfl
 | x + 1,h => by
   have := hm x (by omega)
   rw [rSt,rSt,rSt_same x (by omega),rAt_same hp hm x (by omega),hp _ (by omega)]
theorem sf_same (a : Nat) : ∀ x,x≤m.length→sf b l' m x a = sf b l m x a
 | 0,_ => rfl
 | x + 1,h => by rw [sf,sf,sf_same a x (by omega),rSt_same hp hm (x + 1) h]
theorem stp_same : stp b l' m = stp b l m := funext fun a => sf_same hp hm a m.length (Nat.le_refl _)
end
theorem dly_more {b k : Int} {n : Nat} {l l' : List Int} (hP : errP b n l = 0) (hQ : errP b n l' = 0) (hp : ∀ i,i < n→pl l' i = pl l i) (ht : ∀ i,i < n→tw l' i = tw l i + k) : dlyF b n l' = dlyF b n l - k := by
 obtain ⟨⟨n1,n2⟩,hr,ho⟩ := errP_cases hP
 obtain ⟨_,hr',_⟩ := errP_cases hQ
 obtain ⟨⟨m0,hm0,e0⟩,hle⟩ := dly_least hP
 obtain ⟨⟨m1,hm1,e1⟩,hle'⟩ := dly_least hQ
 rw [lefts_same hp] at hm1 hle'
 have hw : ∀ m ∈ rds n n (lefts b n l) (lefts b n l) [],Whole n m := fun m hm => rds_mem_whole lefts_le m hm
 have hs : ∀ m ∈ rds n n (lefts b n l) (lefts b n l) [],SmallS (stp b l m) := fun m hm => stp_small n2 hr (hw m hm)
 have key : ∀ m ∈ rds n n (lefts b n l) (lefts b n l) [],ltN l' (stp b l' m) n = ltN l (stp b l m) n - k := fun m hm => by
   rw [stp_same hp (whole_mem (hw m hm))]
   have h1 : ∀ v,ltN l' (stp b l m) n≤v ↔ ltN l (stp b l m) n≤v + k := fun v => by
     rw [ltN_le hr' (hs m hm) n1 n (Nat.le_refl _),ltN_le hr (hs m hm) n1 n (Nat.le_refl _)]
     constructor
     · rintro ⟨a1,a2⟩
       exact ⟨by have := ht 0 (by omega); omega,fun i hi => by have := ht i hi; have := a2 i hi; omega⟩
     · rintro ⟨a1,a2⟩
       exact ⟨by have := ht 0 (by omega); omega,fun i hi => by have := ht i hi; have := a2 i hi; omega⟩
   have a1 := (h1 (ltN l (stp b l m) n - k)).2 (by omega)
   have a2 := (h1 (ltN l' (stp b l m) n)).1 (Int.le_refl _)
   omega
 have a1 := hle' m0 hm0
 have a2 := hle m1 hm1
 rw [key m0 hm0] at a1
 rw [key m1 hm1] at e1
 omega
end Go.Pier.Rd
namespace Go.Pier.Rd
open Go Go.Pier Go.Proofs
noncomputable def dyB : Code := Try.f11.body.getD .skip
noncomputable def wkCt (b : Int) (n c : Nat) (l : List Int) (bv : Value) (P : Heap→Prop) (o : Nat→Bool) : List Value→Heap→Option (Option Prop × Value × Heap × List Nat) := fun args H =>
 some (some (args = [pierV b (some ⟨0,0,none⟩) n c,bv]∧P H),newS H.length n,H ++ [rws (wL n (lefts b n l) o n)],[])
noncomputable def dyT0 : Ct := (((((Ct.none.add 18 (pureG [] worksS)).add 22 (pureP (fun b n l => vi (errP b n l)) (vi 6))).add 33 (pure3 psP (specQ fun b n l => .tuple #[vi (dlyF b n l),vi 0]))).add 28 (pure3 psP (specQ fun b n l => .tuple #[vi (cntF b n l),vi 0]))).add 49 (pure3 psPL (specW lbG lbF)))
noncomputable def dyT (b : Int) (n c : Nat) (l : List Int) (bv : Value) (P : Heap→Prop) (o : Nat→Bool) : Ct := dyT0.add 46 (wkCt b n c l bv P o)
noncomputable def laterCc (l:List Int):Cc := fun fn args H => match Nat.beq fn 50 with
 | true => match args with
   | [.agg ⟨[.int .i64 b,.slice (some ⟨0,0,none⟩) n c]⟩,.int .i64 k1] => some fun Q => Ob (H[0]?=some (ros l)∧(-1000000≤k1∧k1≤1000000)∧l.length=n * 2∧n≤10∧1≤n∧rngP b n l)∧Q (.agg #[vi b,newS H.length n]) (H++[rw2 (laterL k1 l n)])
   | _ => none
 | false => none
noncomputable def fnD : VEnv := { ct := Ct.none.add 22 (pureP (fun b n l => vi (errP b n l)) (vi 6)),orc := prO,cc := ccIn Try.prog {} [⟨17,Try.f17,fun _ _ _ => none⟩] }
noncomputable def dyE (b : Int) (n c : Nat) (l : List Int) (bv : Value) (P : Heap→Prop) (o : Nat→Bool) : VEnv := { ct := dyT b n c l bv P o,orc := prO,cc := ccOr (laterCc l) (ccIn Try.prog fnD [⟨45,Try.f45,fun _ _ _ => none⟩]) }
def kF (w d : Int) (i : Nat) : Int := if 0 < i then d + 1 - i else w
def evP (l : List Int) (k : Int) (n y : Nat) : Prop := ∀ i,i < y→tw (laterL k l n) i = tw l i + k
noncomputable def dyI (b w : Int) (n c : Nat) (l : List Int) (H0 : Heap) : Nat→Option LInv := invOf 0 (.one Nat (fun i => i≤3)
   (fun i => [(2,.int .u16 w),(3,ptr0 H0.length),(6,.bool false),(7,vi (dlyF b n l)),(11,vi i)])
   (fun _ => H0 ++ [boxP b n c])
   (fun i => 3 - i)
   (fun i => invOf 2 (.one Nat (fun j => j≤n)
     (fun j => [(2,.int .u16 w),(3,ptr0 H0.length),(6,.bool false),(7,vi (dlyF b n l)),(11,vi i),(12,vi (kF w (dlyF b n l) i)),(13,ptr0 (H0.length + 2)),(14,.bool (dB (evP l (kF w (dlyF b n l) i) n j))),(15,vi j)])
     (fun _ => H0 ++ [boxP b n c,rw2 (laterL (kF w (dlyF b n l) i) l n),.rw [vi b,newS (H0.length + 1) n] none])
     (fun j => n - j))))
noncomputable def dyN0 (b:Int) (w:Int) (n:Nat) (l:List Int) (x:Nat) := (List.map (Value.int IntKind.i64) (laterL (kF w (dlyF b n l) x) l n))
noncomputable def dyN1 (l:List Int) := (List.map (Value.int IntKind.i64) l)
noncomputable def dyN2 (b:Int) (n:Nat) (c:Nat):Prop := (AObj.rw [vi b,Value.slice (some (ad0 0)) n c] none=AObj.rw [vi b,Value.slice (some (ad0 0)) n c] none∧true=true)
noncomputable def dyN3 (b:Int) (n:Nat):Prop := (AObj.rw [vi b,Value.slice (some ⟨1+1,0,some 0⟩) n 0] none=AObj.rw [vi b,Value.slice (some ⟨2,0,some 0⟩) n 0] none∧true=true)
noncomputable def dyN4  : Prop := (Value.pointer (some { block := (1 : Nat) + (2 : Nat),off := (0 : Nat),spot := none }) = Value.pointer (some { block := (1 : Nat) + (2 : Nat),off := (0 : Nat),spot := none }))
noncomputable def dyN5 (b:Int) (w:Int) (n:Nat) (l:List Int) (x:Nat):Prop := ((true=true∧Flat (dyN0 b w n l x))∧okL (Leaf.view (dyN0 b w n l x) n false)∧errP b n (intsOf (dyN0 b w n l x))=(0:Int))
noncomputable def dyN6  : Prop := (Value.bool false = Value.bool true)
noncomputable def dyN7  (x_1:Nat) := (0+(x_1:Int).toNat * 2+1)
noncomputable def dyN8 (b:Int) (n:Nat):Prop := (AObj.rw [vi b,Value.slice (some ⟨2,0,some 0⟩) n 0] none=AObj.rw [vi b,Value.slice (some ⟨2,0,some 0⟩) n 0] none∧true=true)
noncomputable def dyN9 (b:Int) (w:Int) (n:Nat) (l:List Int) (x:Nat):Bool := (!decide ((0:Int)<cntF b n (intsOf (dyN0 b w n l x)))==decide (dlyF b n l≤kF w (dlyF b n l) x))
noncomputable def dyN10 (b:Int) (w:Int) (n:Nat) (l:List Int) (x:Nat):Bool := (dlyF b n (intsOf (dyN0 b w n l x)) !=IntKind.i64.wrap (dlyF b n l-kF w (dlyF b n l) x))
noncomputable def dyN11 (b:Int) (w:Int) (n:Nat) (l:List Int) (x:Nat) (x_1:Nat) (y:Nat):Prop := ((getI (dyN0 b w n l x) (dyN7 x_1)==IntKind.i64.wrap (getI (dyN1 l) (dyN7 x_1)+kF w (dlyF b n l) x))=dB (evP l (kF w (dlyF b n l) x) n y))
noncomputable def dyN12  (x_1:Nat) (y:Nat):Prop := (IntKind.i64.wrap ((x_1:Int)+(1:Int))=(y:Int))
noncomputable def dyN13  (x:Nat) (y:Nat):Prop := (IntKind.i64.wrap ((x:Int)+(1:Int))=(y:Int))
noncomputable def dyN14 (b:Int) (w:Int) (n:Nat) (l:List Int) (x:Nat) := (AObj.rw (dyN0 b w n l x) (some 2))
noncomputable def dyN15 (b:Int) (n:Nat) (l:List Int):Prop := ((true=true∧Flat (dyN1 l))∧okL (Leaf.view (dyN1 l) n false)∧errP b n (intsOf (dyN1 l))=(0:Int))
noncomputable def dyN16 (b:Int) (n:Nat) (l:List Int) (x:Nat) := (IntKind.i64.wrap (dlyF b n l+(1:Int))-(x:Int))
noncomputable def dyN17 (b:Int) (n:Nat) (c:Nat) (l:List Int):Prop := ([Value.agg ⟨[vi b,Value.slice (some (ad0 0)) n c]⟩,Value.slice none 0 0]=[Value.agg ⟨[vi b,Value.slice (some (ad0 0)) n c]⟩,Value.slice none 0 0]∧some (AObj.ro (dyN1 l))=some (AObj.ro (dyN1 l))∧errP b n l=(0:Int)∧l.length=n * 2)
noncomputable def dyN18 (b:Int) (w:Int) (n:Nat) (l:List Int) (x:Nat) (x_1:Nat) := (evP l (kF w (dlyF b n l) x) n x_1)
noncomputable def dyN19 (b:Int) (n:Nat) (l:List Int):Bool := (!decide (dlyF b n (intsOf (dyN1 l))≤(0:Int))==decide ((0:Int)<cntF b n (intsOf (dyN1 l))))
noncomputable def dyN20  := (Value.int IntKind.i64)
noncomputable def dyN21  (x:Nat):Prop := ((x:Int)=(x:Int))
noncomputable def dyN22 (b:Int) (n:Nat) (l:List Int):Prop := (dlyF b n l=dlyF b n l)
noncomputable def dyN23 (b:Int) (w:Int) (n:Nat) (l:List Int) (x:Nat):Prop := (kF w (dlyF b n l) x=kF w (dlyF b n l) x)
noncomputable def dyN24  : Prop := (Value.bool true = Value.bool true)
noncomputable def dyN25 (l:List Int) (x_1:Nat) := (IntAt IntKind.i64 (dyN1 l) (dyN7 x_1))
noncomputable def dyN26 (b:Int) (w:Int) (n:Nat) (l:List Int) (x:Nat) (y:Nat) := (evP l (kF w (dlyF b n l) x) n y)
noncomputable def dyN27 (b:Int) (n:Nat) (l:List Int) (x:Nat):Prop := ((-1000000:Int)≤IntKind.i64.wrap (dyN16 b n l x)∧IntKind.i64.wrap (dyN16 b n l x)≤(1000000:Int))
noncomputable def dyN28 (b:Int) (w:Int) (n:Nat) (l:List Int) (x:Nat) (x_1:Nat) := (IntAt IntKind.i64 (dyN0 b w n l x) (dyN7 x_1))
noncomputable def dyN29 (w:Int):Prop := ((-1000000:Int)≤IntKind.i64.wrap w∧IntKind.i64.wrap w≤(1000000:Int))
noncomputable def dyN :=
fun (b w:Int) (n c:Nat) (l:List Int)↦((!decide ((14:Int)<(n:Int)))=true→Ob ((true=true∧Flat (dyN1 l))∧okL (Leaf.view (dyN1 l) n false))∧((!errP b n (intsOf (dyN1 l))==(0:Int))=false→(false=true→Ob True∧True∧Ob dyN24)∧(false=false→Ob (dyN15 b n l)∧Ob (dyN15 b n l)∧(false=false→(false=false→(decide (dlyF b n (intsOf (dyN1 l))<(-9000:Int))=false→(decide ((20000:Int)<dlyF b n (intsOf (dyN1 l)))=false→((dyN19 b n l)=false→Ob (dyN17 b n c l)∧Ob (((true=true∧Flat (dyN1 l))∧true=true∧Flat (List.map dyN20 (wL n (lefts b n l) (fun (x:Nat)↦false) n)))∧(okL (Leaf.view (dyN1 l) n false)∧okM (Leaf.view (List.map dyN20 (wL n (lefts b n l) (fun (x:Nat)↦false) n)) n false))∧lbG b n (intsOf (dyN1 l)) (intsOf (List.map dyN20 (wL n (lefts b n l) (fun (x:Nat)↦false) n))))∧(decide (ltN (intsOf (dyN1 l)) (stp b (intsOf (dyN1 l)) (intsOf (List.map dyN20 (wL n (lefts b n l) (fun (x:Nat)↦false) n)))) n<dlyF b n (intsOf (dyN1 l)))=true→True∧Ob dyN6)∧(decide (ltN (intsOf (dyN1 l)) (stp b (intsOf (dyN1 l)) (intsOf (List.map dyN20 (wL n (lefts b n l) (fun (x:Nat)↦false) n)))) n<dlyF b n (intsOf (dyN1 l)))=false→(∃ (y:Nat),Ob (y≤3)∧(Ob (AObj.ro (dyN1 l)=AObj.ro (List.map (nmap1 fun (bq:Nat)↦bq) (dyN1 l))∧AObj.sc 2 (AObj.ro (dyN1 l))=true)∧Ob (dyN2 b n c)∧True)∧Ob (w=w)∧Ob (ptr0 1=ptr0 1)∧Ob (false=false)∧Ob (dlyF b n (intsOf (dyN1 l))=dlyF b n l)∧Ob ((0:Int)=(y:Int))∧True)∧∀ (x:Nat),Ob (x≤3)→(decide ((x:Int)<(3:Int))=true→(decide ((0:Int)<(x:Int))=true→Ob (some (AObj.ro (dyN1 l))=some (AObj.ro (dyN1 l))∧(dyN27 b n l x)∧l.length=n * 2∧n≤10∧1≤n∧rngP b n l)∧Ob (0+2≤2)∧(∃ (y:Nat),Ob (y≤n)∧(Ob (AObj.ro (dyN1 l)=AObj.ro (List.map (nmap1 fun (bqq:Nat)↦bqq) (dyN1 l))∧AObj.sc 4 (AObj.ro (dyN1 l))=true)∧Ob (dyN2 b n c)∧Ob (AObj.rw (List.map dyN20 (laterL (IntKind.i64.wrap (dyN16 b n l x)) l n)) (some 2)=AObj.rw (List.map (nmap1 fun (bqqq:Nat)↦bqqq) (dyN0 b w n l x)) (some 2)∧AObj.sc 4 (dyN14 b w n l x)=true)∧Ob (dyN8 b n)∧True)∧Ob (w=w)∧Ob (ptr0 1=ptr0 1)∧Ob (false=false)∧Ob (dyN22 b n l)∧Ob (dyN21 x)∧Ob (IntKind.i64.wrap (dyN16 b n l x)=kF w (dlyF b n l) x)∧Ob (ptr0 3=ptr0 3)∧Ob (true=dB (dyN26 b w n l x y))∧Ob ((0:Int)=(y:Int))∧True)∧∀ (x_1:Nat),Ob (x_1≤n)→(decide ((x_1:Int)<(n:Int))=true→(dB (dyN18 b w n l x x_1)=true→Ob ((0:Int)≤(x_1:Int)∧(x_1:Int)<(n:Int)∧true=true)∧Ob (dyN28 b w n l x x_1)∧Ob ((0:Int)≤(x_1:Int)∧(x_1:Int)<(n:Int)∧true=true)∧Ob (dyN25 l x_1)∧∃ (y:Nat),Ob (y≤n)∧Ob (n-y<n-x_1)∧(Ob (AObj.ro (dyN1 l)=AObj.ro (List.map (nmap1 fun (bqqqq:Nat)↦bqqqq) (dyN1 l))∧AObj.sc 4 (AObj.ro (dyN1 l))=true)∧Ob (dyN2 b n c)∧Ob (AObj.rw (dyN0 b w n l x) (some 2)=AObj.rw (List.map (nmap1 fun (bqqqqq:Nat)↦bqqqqq) (dyN0 b w n l x)) (some 2)∧AObj.sc 4 (dyN14 b w n l x)=true)∧Ob (dyN3 b n)∧True)∧Ob (w=w)∧Ob (ptr0 1=ptr0 1)∧Ob (false=false)∧Ob (dyN22 b n l)∧Ob (dyN21 x)∧Ob (dyN23 b w n l x)∧Ob dyN4∧Ob (dyN11 b w n l x x_1 y)∧Ob (dyN12 x_1 y)∧True)∧(dB (dyN18 b w n l x x_1)=false→∃ (y:Nat),Ob (y≤n)∧Ob (n-y<n-x_1)∧(Ob (AObj.ro (dyN1 l)=AObj.ro (List.map (nmap1 fun (bqqqqqq:Nat)↦bqqqqqq) (dyN1 l))∧AObj.sc 4 (AObj.ro (dyN1 l))=true)∧Ob (dyN2 b n c)∧Ob (AObj.rw (dyN0 b w n l x) (some 2)=AObj.rw (List.map (nmap1 fun (bqqqqqqq:Nat)↦bqqqqqqq) (dyN0 b w n l x)) (some 2)∧AObj.sc 4 (dyN14 b w n l x)=true)∧Ob (dyN3 b n)∧True)∧Ob (w=w)∧Ob (ptr0 1=ptr0 1)∧Ob (false=false)∧Ob (dyN22 b n l)∧Ob (dyN21 x)∧Ob (dyN23 b w n l x)∧Ob dyN4∧Ob (false=dB (dyN26 b w n l x y))∧Ob (dyN12 x_1 y)∧True))∧(decide ((x_1:Int)<(n:Int))=false→((!dB (dyN18 b w n l x x_1))=true→∃ (y:Nat),Ob (y≤3)∧Ob (3-y<3-x)∧(Ob (AObj.ro (dyN1 l)=AObj.ro (List.map (nmap1 fun (bqqqqqqqq:Nat)↦bqqqqqqqq) (dyN1 l))∧AObj.sc 2 (AObj.ro (dyN1 l))=true)∧Ob (dyN2 b n c)∧True)∧Ob (w=w)∧Ob (ptr0 1=ptr0 1)∧Ob (false=false)∧Ob (dyN22 b n l)∧Ob (dyN13 x y)∧True)∧((!dB (dyN18 b w n l x x_1))=false→Ob (dyN5 b w n l x)∧Ob (dyN5 b w n l x)∧(false=false→(false=false→((dyN10 b w n l x)=false→((dyN9 b w n l x)=true→True∧Ob dyN6)∧((dyN9 b w n l x)=false→∃ (y:Nat),Ob (y≤3)∧Ob (3-y<3-x)∧(Ob (AObj.ro (dyN1 l)=AObj.ro (List.map (nmap1 fun (bqqqqqqqqq:Nat)↦bqqqqqqqqq) (dyN1 l))∧AObj.sc 2 (AObj.ro (dyN1 l))=true)∧Ob (dyN2 b n c)∧True)∧Ob (w=w)∧Ob (ptr0 1=ptr0 1)∧Ob (false=false)∧Ob (dyN22 b n l)∧Ob (dyN13 x y)∧True))∧((dyN10 b w n l x)=true→True∧Ob dyN6))∧(false=true→True∧Ob dyN6))∧(false=true→True∧Ob dyN6))))∧(decide ((0:Int)<(x:Int))=false→Ob (some (AObj.ro (dyN1 l))=some (AObj.ro (dyN1 l))∧(dyN29 w)∧l.length=n * 2∧n≤10∧1≤n∧rngP b n l)∧Ob (0+2≤2)∧(∃ (y:Nat),Ob (y≤n)∧(Ob (AObj.ro (dyN1 l)=AObj.ro (List.map (nmap1 fun (bqqqqqqqqqq:Nat)↦bqqqqqqqqqq) (dyN1 l))∧AObj.sc 4 (AObj.ro (dyN1 l))=true)∧Ob (dyN2 b n c)∧Ob (AObj.rw (List.map dyN20 (laterL (IntKind.i64.wrap w) l n)) (some 2)=AObj.rw (List.map (nmap1 fun (bqqqqqqqqqqq:Nat)↦bqqqqqqqqqqq) (dyN0 b w n l x)) (some 2)∧AObj.sc 4 (dyN14 b w n l x)=true)∧Ob (dyN8 b n)∧True)∧Ob (w=w)∧Ob (ptr0 1=ptr0 1)∧Ob (false=false)∧Ob (dyN22 b n l)∧Ob (dyN21 x)∧Ob (IntKind.i64.wrap w=kF w (dlyF b n l) x)∧Ob (ptr0 3=ptr0 3)∧Ob (true=dB (dyN26 b w n l x y))∧Ob ((0:Int)=(y:Int))∧True)∧∀ (x_1:Nat),Ob (x_1≤n)→(decide ((x_1:Int)<(n:Int))=true→(dB (dyN18 b w n l x x_1)=true→Ob ((0:Int)≤(x_1:Int)∧(x_1:Int)<(n:Int)∧true=true)∧Ob (dyN28 b w n l x x_1)∧Ob ((0:Int)≤(x_1:Int)∧(x_1:Int)<(n:Int)∧true=true)∧Ob (dyN25 l x_1)∧∃ (y:Nat),Ob (y≤n)∧Ob (n-y<n-x_1)∧(Ob (AObj.ro (dyN1 l)=AObj.ro (List.map (nmap1 fun (bqqqqqqqqqqqq:Nat)↦bqqqqqqqqqqqq) (dyN1 l))∧AObj.sc 4 (AObj.ro (dyN1 l))=true)∧Ob (dyN2 b n c)∧Ob (AObj.rw (dyN0 b w n l x) (some 2)=AObj.rw (List.map (nmap1 fun (bqqqqqqqqqqqqq:Nat)↦bqqqqqqqqqqqqq) (dyN0 b w n l x)) (some 2)∧AObj.sc 4 (dyN14 b w n l x)=true)∧Ob (dyN3 b n)∧True)∧Ob (w=w)∧Ob (ptr0 1=ptr0 1)∧Ob (false=false)∧Ob (dyN22 b n l)∧Ob (dyN21 x)∧Ob (dyN23 b w n l x)∧Ob dyN4∧Ob (dyN11 b w n l x x_1 y)∧Ob (dyN12 x_1 y)∧True)∧(dB (dyN18 b w n l x x_1)=false→∃ (y:Nat),Ob (y≤n)∧Ob (n-y<n-x_1)∧(Ob (AObj.ro (dyN1 l)=AObj.ro (List.map (nmap1 fun (bqqqqqqqqqqqqqq:Nat)↦bqqqqqqqqqqqqqq) (dyN1 l))∧AObj.sc 4 (AObj.ro (dyN1 l))=true)∧Ob (dyN2 b n c)∧Ob (AObj.rw (dyN0 b w n l x) (some 2)=AObj.rw (List.map (nmap1 fun (bqqqqqqqqqqqqqqq:Nat)↦bqqqqqqqqqqqqqqq) (dyN0 b w n l x)) (some 2)∧AObj.sc 4 (dyN14 b w n l x)=true)∧Ob (dyN3 b n)∧True)∧Ob (w=w)∧Ob (ptr0 1=ptr0 1)∧Ob (false=false)∧Ob (dyN22 b n l)∧Ob (dyN21 x)∧Ob (dyN23 b w n l x)∧Ob dyN4∧Ob (false=dB (dyN26 b w n l x y))∧Ob (dyN12 x_1 y)∧True))∧(decide ((x_1:Int)<(n:Int))=false→((!dB (dyN18 b w n l x x_1))=true→∃ (y:Nat),Ob (y≤3)∧Ob (3-y<3-x)∧(Ob (AObj.ro (dyN1 l)=AObj.ro (List.map (nmap1 fun (bqqqqqqqqqqqqqqqq:Nat)↦bqqqqqqqqqqqqqqqq) (dyN1 l))∧AObj.sc 2 (AObj.ro (dyN1 l))=true)∧Ob (dyN2 b n c)∧True)∧Ob (w=w)∧Ob (ptr0 1=ptr0 1)∧Ob (false=false)∧Ob (dyN22 b n l)∧Ob (dyN13 x y)∧True)∧((!dB (dyN18 b w n l x x_1))=false→Ob (dyN5 b w n l x)∧Ob (dyN5 b w n l x)∧(false=false→(false=false→((dyN10 b w n l x)=false→((dyN9 b w n l x)=true→True∧Ob dyN6)∧((dyN9 b w n l x)=false→∃ (y:Nat),Ob (y≤3)∧Ob (3-y<3-x)∧(Ob (AObj.ro (dyN1 l)=AObj.ro (List.map (nmap1 fun (bqqqqqqqqqqqqqqqqq:Nat)↦bqqqqqqqqqqqqqqqqq) (dyN1 l))∧AObj.sc 2 (AObj.ro (dyN1 l))=true)∧Ob (dyN2 b n c)∧True)∧Ob (w=w)∧Ob (ptr0 1=ptr0 1)∧Ob (false=false)∧Ob (dyN22 b n l)∧Ob (dyN13 x y)∧True))∧((dyN10 b w n l x)=true→True∧Ob dyN6))∧(false=true→True∧Ob dyN6))∧(false=true→True∧Ob dyN6)))))∧(decide ((x:Int)<(3:Int))=false→Ob True∧True∧Ob dyN24)))∧((dyN19 b n l)=true→True∧Ob dyN6))∧(decide ((20000:Int)<dlyF b n (intsOf (dyN1 l)))=true→True∧Ob dyN6))∧(decide (dlyF b n (intsOf (dyN1 l))<(-9000:Int))=true→True∧Ob dyN6))∧(false=true→True∧Ob dyN6))∧(false=true→True∧Ob dyN6)))∧((!errP b n (intsOf (dyN1 l))==(0:Int))=true→Ob True∧True∧Ob dyN24))∧((!decide ((14:Int)<(n:Int)))=false→(true=false→(false=true→Ob True∧True∧Ob dyN24)∧(false=false→Ob (dyN15 b n l)∧Ob (dyN15 b n l)∧(false=false→(false=false→(decide (dlyF b n (intsOf (dyN1 l))<(-9000:Int))=false→(decide ((20000:Int)<dlyF b n (intsOf (dyN1 l)))=false→((dyN19 b n l)=false→Ob (dyN17 b n c l)∧Ob (((true=true∧Flat (dyN1 l))∧true=true∧Flat (List.map dyN20 (wL n (lefts b n l) (fun (x:Nat)↦false) n)))∧(okL (Leaf.view (dyN1 l) n false)∧okM (Leaf.view (List.map dyN20 (wL n (lefts b n l) (fun (x:Nat)↦false) n)) n false))∧lbG b n (intsOf (dyN1 l)) (intsOf (List.map dyN20 (wL n (lefts b n l) (fun (x:Nat)↦false) n))))∧(decide (ltN (intsOf (dyN1 l)) (stp b (intsOf (dyN1 l)) (intsOf (List.map dyN20 (wL n (lefts b n l) (fun (x:Nat)↦false) n)))) n<dlyF b n (intsOf (dyN1 l)))=true→True∧Ob dyN6)∧(decide (ltN (intsOf (dyN1 l)) (stp b (intsOf (dyN1 l)) (intsOf (List.map dyN20 (wL n (lefts b n l) (fun (x:Nat)↦false) n)))) n<dlyF b n (intsOf (dyN1 l)))=false→(∃ (y:Nat),Ob (y≤3)∧(Ob (AObj.ro (dyN1 l)=AObj.ro (List.map (nmap1 fun (bqqqqqqqqqqqqqqqqqq:Nat)↦bqqqqqqqqqqqqqqqqqq) (dyN1 l))∧AObj.sc 2 (AObj.ro (dyN1 l))=true)∧Ob (dyN2 b n c)∧True)∧Ob (w=w)∧Ob (ptr0 1=ptr0 1)∧Ob (false=false)∧Ob (dlyF b n (intsOf (dyN1 l))=dlyF b n l)∧Ob ((0:Int)=(y:Int))∧True)∧∀ (x:Nat),Ob (x≤3)→(decide ((x:Int)<(3:Int))=true→(decide ((0:Int)<(x:Int))=true→Ob (some (AObj.ro (dyN1 l))=some (AObj.ro (dyN1 l))∧(dyN27 b n l x)∧l.length=n * 2∧n≤10∧1≤n∧rngP b n l)∧Ob (0+2≤2)∧(∃ (y:Nat),Ob (y≤n)∧(Ob (AObj.ro (dyN1 l)=AObj.ro (List.map (nmap1 fun (bqqqqqqqqqqqqqqqqqqq:Nat)↦bqqqqqqqqqqqqqqqqqqq) (dyN1 l))∧AObj.sc 4 (AObj.ro (dyN1 l))=true)∧Ob (dyN2 b n c)∧Ob (AObj.rw (List.map dyN20 (laterL (IntKind.i64.wrap (dyN16 b n l x)) l n)) (some 2)=AObj.rw (List.map (nmap1 fun (bqqqqqqqqqqqqqqqqqqqq:Nat)↦bqqqqqqqqqqqqqqqqqqqq) (dyN0 b w n l x)) (some 2)∧AObj.sc 4 (dyN14 b w n l x)=true)∧Ob (dyN8 b n)∧True)∧Ob (w=w)∧Ob (ptr0 1=ptr0 1)∧Ob (false=false)∧Ob (dyN22 b n l)∧Ob (dyN21 x)∧Ob (IntKind.i64.wrap (dyN16 b n l x)=kF w (dlyF b n l) x)∧Ob (ptr0 3=ptr0 3)∧Ob (true=dB (dyN26 b w n l x y))∧Ob ((0:Int)=(y:Int))∧True)∧∀ (x_1:Nat),Ob (x_1≤n)→(decide ((x_1:Int)<(n:Int))=true→(dB (dyN18 b w n l x x_1)=true→Ob ((0:Int)≤(x_1:Int)∧(x_1:Int)<(n:Int)∧true=true)∧Ob (dyN28 b w n l x x_1)∧Ob ((0:Int)≤(x_1:Int)∧(x_1:Int)<(n:Int)∧true=true)∧Ob (dyN25 l x_1)∧∃ (y:Nat),Ob (y≤n)∧Ob (n-y<n-x_1)∧(Ob (AObj.ro (dyN1 l)=AObj.ro (List.map (nmap1 fun (bqqqqqqqqqqqqqqqqqqqqq:Nat)↦bqqqqqqqqqqqqqqqqqqqqq) (dyN1 l))∧AObj.sc 4 (AObj.ro (dyN1 l))=true)∧Ob (dyN2 b n c)∧Ob (AObj.rw (dyN0 b w n l x) (some 2)=AObj.rw (List.map (nmap1 fun (bqqqqqqqqqqqqqqqqqqqqqq:Nat)↦bqqqqqqqqqqqqqqqqqqqqqq) (dyN0 b w n l x)) (some 2)∧AObj.sc 4 (dyN14 b w n l x)=true)∧Ob (dyN3 b n)∧True)∧Ob (w=w)∧Ob (ptr0 1=ptr0 1)∧Ob (false=false)∧Ob (dyN22 b n l)∧Ob (dyN21 x)∧Ob (dyN23 b w n l x)∧Ob dyN4∧Ob (dyN11 b w n l x x_1 y)∧Ob (dyN12 x_1 y)∧True)∧(dB (dyN18 b w n l x x_1)=false→∃ (y:Nat),Ob (y≤n)∧Ob (n-y<n-x_1)∧(Ob (AObj.ro (dyN1 l)=AObj.ro (List.map (nmap1 fun (bqqqqqqqqqqqqqqqqqqqqqqq:Nat)↦bqqqqqqqqqqqqqqqqqqqqqqq) (dyN1 l))∧AObj.sc 4 (AObj.ro (dyN1 l))=true)∧Ob (dyN2 b n c)∧Ob (AObj.rw (dyN0 b w n l x) (some 2)=AObj.rw (List.map (nmap1 fun (bqqqqqqqqqqqqqqqqqqqqqqqq:Nat)↦bqqqqqqqqqqqqqqqqqqqqqqqq) (dyN0 b w n l x)) (some 2)∧AObj.sc 4 (dyN14 b w n l x)=true)∧Ob (dyN3 b n)∧True)∧Ob (w=w)∧Ob (ptr0 1=ptr0 1)∧Ob (false=false)∧Ob (dyN22 b n l)∧Ob (dyN21 x)∧Ob (dyN23 b w n l x)∧Ob dyN4∧Ob (false=dB (dyN26 b w n l x y))∧Ob (dyN12 x_1 y)∧True))∧(decide ((x_1:Int)<(n:Int))=false→((!dB (dyN18 b w n l x x_1))=true→∃ (y:Nat),Ob (y≤3)∧Ob (3-y<3-x)∧(Ob (AObj.ro (dyN1 l)=AObj.ro (List.map (nmap1 fun (bqqqqqqqqqqqqqqqqqqqqqqqqq:Nat)↦bqqqqqqqqqqqqqqqqqqqqqqqqq) (dyN1 l))∧AObj.sc 2 (AObj.ro (dyN1 l))=true)∧Ob (dyN2 b n c)∧True)∧Ob (w=w)∧Ob (ptr0 1=ptr0 1)∧Ob (false=false)∧Ob (dyN22 b n l)∧Ob (dyN13 x y)∧True)∧((!dB (dyN18 b w n l x x_1))=false→Ob (dyN5 b w n l x)∧Ob (dyN5 b w n l x)∧(false=false→(false=false→((dyN10 b w n l x)=false→((dyN9 b w n l x)=true→True∧Ob dyN6)∧((dyN9 b w n l x)=false→∃ (y:Nat),Ob (y≤3)∧Ob (3-y<3-x)∧(Ob (AObj.ro (dyN1 l)=AObj.ro (List.map (nmap1 fun (bqqqqqqqqqqqqqqqqqqqqqqqqqq:Nat)↦bqqqqqqqqqqqqqqqqqqqqqqqqqq) (dyN1 l))∧AObj.sc 2 (AObj.ro (dyN1 l))=true)∧Ob (dyN2 b n c)∧True)∧Ob (w=w)∧Ob (ptr0 1=ptr0 1)∧Ob (false=false)∧Ob (dyN22 b n l)∧Ob (dyN13 x y)∧True))∧((dyN10 b w n l x)=true→True∧Ob dyN6))∧(false=true→True∧Ob dyN6))∧(false=true→True∧Ob dyN6))))∧(decide ((0:Int)<(x:Int))=false→Ob (some (AObj.ro (dyN1 l))=some (AObj.ro (dyN1 l))∧(dyN29 w)∧l.length=n * 2∧n≤10∧1≤n∧rngP b n l)∧Ob (0+2≤2)∧(∃ (y:Nat),Ob (y≤n)∧(Ob (AObj.ro (dyN1 l)=AObj.ro (List.map (nmap1 fun (bqqqqqqqqqqqqqqqqqqqqqqqqqqq:Nat)↦bqqqqqqqqqqqqqqqqqqqqqqqqqqq) (dyN1 l))∧AObj.sc 4 (AObj.ro (dyN1 l))=true)∧Ob (dyN2 b n c)∧Ob (AObj.rw (List.map dyN20 (laterL (IntKind.i64.wrap w) l n)) (some 2)=AObj.rw (List.map (nmap1 fun (bqqqqqqqqqqqqqqqqqqqqqqqqqqqq:Nat)↦bqqqqqqqqqqqqqqqqqqqqqqqqqqqq) (dyN0 b w n l x)) (some 2)∧AObj.sc 4 (dyN14 b w n l x)=true)∧Ob (dyN8 b n)∧True)∧Ob (w=w)∧Ob (ptr0 1=ptr0 1)∧Ob (false=false)∧Ob (dyN22 b n l)∧Ob (dyN21 x)∧Ob (IntKind.i64.wrap w=kF w (dlyF b n l) x)∧Ob (ptr0 3=ptr0 3)∧Ob (true=dB (dyN26 b w n l x y))∧Ob ((0:Int)=(y:Int))∧True)∧∀ (x_1:Nat),Ob (x_1≤n)→(decide ((x_1:Int)<(n:Int))=true→(dB (dyN18 b w n l x x_1)=true→Ob ((0:Int)≤(x_1:Int)∧(x_1:Int)<(n:Int)∧true=true)∧Ob (dyN28 b w n l x x_1)∧Ob ((0:Int)≤(x_1:Int)∧(x_1:Int)<(n:Int)∧true=true)∧Ob (dyN25 l x_1)∧∃ (y:Nat),Ob (y≤n)∧Ob (n-y<n-x_1)∧(Ob (AObj.ro (dyN1 l)=AObj.ro (List.map (nmap1 fun (bqqqqqqqqqqqqqqqqqqqqqqqqqqqqq:Nat)↦bqqqqqqqqqqqqqqqqqqqqqqqqqqqqq) (dyN1 l))∧AObj.sc 4 (AObj.ro (dyN1 l))=true)∧Ob (dyN2 b n c)∧Ob (AObj.rw (dyN0 b w n l x) (some 2)=AObj.rw (List.map (nmap1 fun (bqqqqqqqqqqqqqqqqqqqqqqqqqqqqqq:Nat)↦bqqqqqqqqqqqqqqqqqqqqqqqqqqqqqq) (dyN0 b w n l x)) (some 2)∧AObj.sc 4 (dyN14 b w n l x)=true)∧Ob (dyN3 b n)∧True)∧Ob (w=w)∧Ob (ptr0 1=ptr0 1)∧Ob (false=false)∧Ob (dyN22 b n l)∧Ob (dyN21 x)∧Ob (dyN23 b w n l x)∧Ob dyN4∧Ob (dyN11 b w n l x x_1 y)∧Ob (dyN12 x_1 y)∧True)∧(dB (dyN18 b w n l x x_1)=false→∃ (y:Nat),Ob (y≤n)∧Ob (n-y<n-x_1)∧(Ob (AObj.ro (dyN1 l)=AObj.ro (List.map (nmap1 fun (bqqqqqqqqqqqqqqqqqqqqqqqqqqqqqqq:Nat)↦bqqqqqqqqqqqqqqqqqqqqqqqqqqqqqqq) (dyN1 l))∧AObj.sc 4 (AObj.ro (dyN1 l))=true)∧Ob (dyN2 b n c)∧Ob (AObj.rw (dyN0 b w n l x) (some 2)=AObj.rw (List.map (nmap1 fun (bqqqqqqqqqqqqqqqqqqqqqqqqqqqqqqqq:Nat)↦bqqqqqqqqqqqqqqqqqqqqqqqqqqqqqqqq) (dyN0 b w n l x)) (some 2)∧AObj.sc 4 (dyN14 b w n l x)=true)∧Ob (dyN3 b n)∧True)∧Ob (w=w)∧Ob (ptr0 1=ptr0 1)∧Ob (false=false)∧Ob (dyN22 b n l)∧Ob (dyN21 x)∧Ob (dyN23 b w n l x)∧Ob dyN4∧Ob (false=dB (dyN26 b w n l x y))∧Ob (dyN12 x_1 y)∧True))∧(decide ((x_1:Int)<(n:Int))=false→((!dB (dyN18 b w n l x x_1))=true→∃ (y:Nat),Ob (y≤3)∧Ob (3-y<3-x)∧(Ob (AObj.ro (dyN1 l)=AObj.ro (List.map (nmap1 fun (bqqqqqqqqqqqqqqqqqqqqqqqqqqqqqqqqq:Nat)↦bqqqqqqqqqqqqqqqqqqqqqqqqqqqqqqqqq) (dyN1 l))∧AObj.sc 2 (AObj.ro (dyN1 l))=true)∧Ob (dyN2 b n c)∧True)∧Ob (w=w)∧Ob (ptr0 1=ptr0 1)∧Ob (false=false)∧Ob (dyN22 b n l)∧Ob (dyN13 x y)∧True)∧((!dB (dyN18 b w n l x x_1))=false→Ob (dyN5 b w n l x)∧Ob (dyN5 b w n l x)∧(false=false→(false=false→((dyN10 b w n l x)=false→((dyN9 b w n l x)=true→True∧Ob dyN6)∧((dyN9 b w n l x)=false→∃ (y:Nat),Ob (y≤3)∧Ob (3-y<3-x)∧(Ob (AObj.ro (dyN1 l)=AObj.ro (List.map (nmap1 fun (bqqqqqqqqqqqqqqqqqqqqqqqqqqqqqqqqqq:Nat)↦bqqqqqqqqqqqqqqqqqqqqqqqqqqqqqqqqqq) (dyN1 l))∧AObj.sc 2 (AObj.ro (dyN1 l))=true)∧Ob (dyN2 b n c)∧True)∧Ob (w=w)∧Ob (ptr0 1=ptr0 1)∧Ob (false=false)∧Ob (dyN22 b n l)∧Ob (dyN13 x y)∧True))∧((dyN10 b w n l x)=true→True∧Ob dyN6))∧(false=true→True∧Ob dyN6))∧(false=true→True∧Ob dyN6)))))∧(decide ((x:Int)<(3:Int))=false→Ob True∧True∧Ob dyN24)))∧((dyN19 b n l)=true→True∧Ob dyN6))∧(decide ((20000:Int)<dlyF b n (intsOf (dyN1 l)))=true→True∧Ob dyN6))∧(decide (dlyF b n (intsOf (dyN1 l))<(-9000:Int))=true→True∧Ob dyN6))∧(false=true→True∧Ob dyN6))∧(false=true→True∧Ob dyN6)))∧(true=true→Ob True∧True∧Ob dyN24))
theorem dyN_eq : dyN = fun (b w : Int) (n c : Nat) (l : List Int) => vc Try.prog (dyE b n c l nilS (fun H => H[0]? = some (ros l)∧errP b n l = 0∧l.length = n * 2) (fun _ => false)) 1 143 true (dyI b w n c l [ros l]) dyB [] (argFr 0 [pierV b (some ⟨0,0,none⟩) n c,nilS,.int .u16 w]) [ros l] (retK Try.prog Try.f11 (fun v _ => v = .bool true)) := by kernel_rfl
theorem dy_step {b w : Int} {n : Nat} {l : List Int} (hP : errP b n l = 0) (hl : l.length = n * 2) (hw : 0≤w∧w < 65536) (x : Nat) (hx3 : x < 3) :
   ((-1000000≤kF w (dlyF b n l) x∧kF w (dlyF b n l) x≤1000000)∧l.length = n * 2∧n≤10∧1≤n∧rngP b n l) ∧
   (∃ y : Nat,y≤n∧List.map (Value.int IntKind.i64) (laterL (kF w (dlyF b n l) x) l n) = List.map (Value.int IntKind.i64) (laterL (kF w (dlyF b n l) x) l n)∧kF w (dlyF b n l) x = kF w (dlyF b n l) x∧true = dB (evP l (kF w (dlyF b n l) x) n y)∧(0 : Int) = (y : Int)) ∧
   ∀ (j : Nat),j≤n →
     ((j : Int) < (n : Int) →
       (dB (evP l (kF w (dlyF b n l) x) n j) = true →
         ((0 : Int)≤(j : Int)∧(j : Int) < (n : Int))∧j * 2 + 1 < (laterL (kF w (dlyF b n l) x) l n).length∧((0 : Int)≤(j : Int)∧(j : Int) < (n : Int))∧j * 2 + 1 < l.length ∧
         ∃ y : Nat,y≤n∧n - y < n - j∧(tw (laterL (kF w (dlyF b n l) x) l n) j == IntKind.i64.wrap (tw l j + kF w (dlyF b n l) x)) = dB (evP l (kF w (dlyF b n l) x) n y)∧IntKind.i64.wrap ((j : Int) + 1) = (y : Int)) ∧
       (dB (evP l (kF w (dlyF b n l) x) n j) = false→∃ y : Nat,y≤n∧n - y < n - j∧false = dB (evP l (kF w (dlyF b n l) x) n y)∧IntKind.i64.wrap ((j : Int) + 1) = (y : Int))) ∧
     (¬(j : Int) < (n : Int) →
       (dB (evP l (kF w (dlyF b n l) x) n j) = false→∃ y : Nat,y≤3∧3 - y < 3 - x∧IntKind.i64.wrap ((x : Int) + 1) = (y : Int)) ∧
       (dB (evP l (kF w (dlyF b n l) x) n j) = true →
         (Flat (List.map (Value.int IntKind.i64) (laterL (kF w (dlyF b n l) x) l n))∧okL (Leaf.view (List.map (Value.int IntKind.i64) (laterL (kF w (dlyF b n l) x) l n)) n false)∧errP b n (laterL (kF w (dlyF b n l) x) l n) = 0) ∧
         (Flat (List.map (Value.int IntKind.i64) (laterL (kF w (dlyF b n l) x) l n))∧okL (Leaf.view (List.map (Value.int IntKind.i64) (laterL (kF w (dlyF b n l) x) l n)) n false)∧errP b n (laterL (kF w (dlyF b n l) x) l n) = 0) ∧
         (dlyF b n (laterL (kF w (dlyF b n l) x) l n) = IntKind.i64.wrap (dlyF b n l - kF w (dlyF b n l) x) →
           (¬decide (0 < cntF b n (laterL (kF w (dlyF b n l) x) l n)) = decide (dlyF b n l≤kF w (dlyF b n l) x)→False) ∧
           (decide (0 < cntF b n (laterL (kF w (dlyF b n l) x) l n)) = decide (dlyF b n l≤kF w (dlyF b n l) x)→∃ y : Nat,y≤3∧3 - y < 3 - x∧IntKind.i64.wrap ((x : Int) + 1) = (y : Int))) ∧
         (¬dlyF b n (laterL (kF w (dlyF b n l) x) l n) = IntKind.i64.wrap (dlyF b n l - kF w (dlyF b n l) x)→False))) := by
 obtain ⟨⟨n1,n2⟩,hr,ho⟩ := errP_cases hP
 have d2 := dly_bd hP
 have hk : -10000≤kF w (dlyF b n l) x∧kF w (dlyF b n l) x≤70000 := by unfold kF; split <;> omega
 generalize kF w (dlyF b n l) x = k at hk ⊢
 have hQ := later_ok (k := k) hP
 have hpl := fun i hi => (laterL_pl (k := k) (l := l) n i hi).1
 have ll := later_len (k := k) (l := l) n
 have nx : ∃ y : Nat,y≤3∧3 - y < 3 - x∧IntKind.i64.wrap ((x : Int) + 1) = (y : Int) := ⟨x + 1,by omega,by omega,wrap_succ (n := 3) hx3 (by omega)⟩
 refine ⟨⟨by omega,hl,n2,n1,hr⟩,⟨0,by omega,rfl,rfl,dB_true fun i hi => by omega,rfl⟩,fun j hj => ⟨fun hlt => ⟨fun he => ⟨by omega,by omega,by omega,by omega,j + 1,by omega,by omega,?_,wrap_succ (n := n) (by omega) (by omega)⟩,fun he => ⟨j + 1,by omega,by omega,dB_false fun h => of_dBf he fun i hi => h i (by omega),wrap_succ (n := n) (by omega) (by omega)⟩⟩,fun hge => ⟨fun _ => nx,fun he => ?_⟩⟩⟩
 · have hj2 := (hr.1 j (by omega)).2
   rw [wrap_in (x := tw l j + k) (by omega) (by omega)]
   have he' := of_dB he
   by_cases c : tw (laterL k l n) j = tw l j + k
   · rw [c,beq_self_eq_true]
     refine dB_true fun i hi => ?_
     by_cases e : i = j
     · subst e; exact c
     · exact he' i (by omega)
   · rw [beq_eq_false_iff_ne.2 c]
     exact dB_false fun h => c (h j (by omega))
 · obtain rfl : j = n := by omega
   have hd := dly_more hP hQ hpl (of_dB he)
   have hc := cnt_pos hQ
   have wd : IntKind.i64.wrap (dlyF b j l - k) = dlyF b j l - k := wrap_in (by omega) (by omega)
   refine ⟨⟨flat_ints,okL_ints ll (by omega),hQ⟩,⟨flat_ints,okL_ints ll (by omega),hQ⟩,fun _ => ⟨fun h => h (decide_eq_decide.2 ?_),fun _ => nx⟩,fun h => h (by rw [wd]; exact hd)⟩
   rw [hc,hd]; omega
theorem dyN_ok (b w : Int) (n c : Nat) (l : List Int) (hl : l.length = n * 2) (hw : 0≤w∧w < 65536) : dyN b w n c l := by
 unfold dyN dyN29 dyN28 dyN27 dyN26 dyN25 dyN24 dyN23 dyN22 dyN21 dyN20 dyN19 dyN18 dyN17 dyN16 dyN15 dyN14 dyN13 dyN12 dyN11 dyN10 dyN9 dyN8 dyN7 dyN6 dyN5 dyN4 dyN3 dyN2 dyN1 dyN0
 simp only [SS,reduceCtorEq,Arg.list,Arg.num,Arg.flag,intOf,andP,Nat.reduceLeDiff,Nat.reduceAdd,Nat.reduceMul,Nat.reduceLT,ckAsk,CK.ask,pl_fold,tw_fold,getI_2b,intAt_2b,rw2,lbG,lbF]
 have F1 : Flat (List.map (Value.int .i64) l) := flat_ints
 refine fun h14 => ?_
 have F2 : okL (Leaf.view (List.map (Value.int .i64) l) n false) := okL_ints hl (by omega)
 refine ⟨⟨F1,F2⟩,fun hP => ?_⟩
 obtain ⟨⟨n1,n2⟩,hr,ho⟩ := errP_cases hP
 have d2 := dly_bd hP
 have cp := cnt_pos hP
 have wm := walked_mem (n := n) (f := lefts b n l) (o := fun _ => false) lefts_le
 have ww := rds_mem_whole lefts_le _ wm
 have wl := whole_len ww
 have sm := dy_step (w := w) hP hl hw
 refine ⟨⟨F1,F2,hP⟩,⟨F1,F2,hP⟩,fun _ => ⟨fun _ => ⟨fun _ => ⟨⟨hP,hl⟩,⟨⟨F1,flat_ints⟩,⟨F2,by rw [intsOf_map],by rw [List.length_map,wl],by omega⟩,⟨hr,n2⟩,n1,wl,whole_mem ww⟩,fun h => ?_,fun _ => ⟨⟨0,by omega,rfl⟩,fun x hx hx3 => ⟨fun h0 => ?_,fun h0 => ?_⟩⟩⟩,fun h => h (decide_eq_decide.2 cp.symm)⟩,fun h => by omega⟩,fun h => by omega⟩
 · have := (dly_least hP).2 _ wm; omega
 · have ek : IntKind.i64.wrap (IntKind.i64.wrap (dlyF b n l + 1) - (x : Int)) = kF w (dlyF b n l) x := by
     rw [wrap_in (x := dlyF b n l + 1) (by omega) (by omega),wrap_in (by omega) (by omega),kF,if_pos (by omega)]
   rw [ek]
   exact sm x (by omega)
 · have ek : IntKind.i64.wrap w = kF w (dlyF b n l) x := by
     rw [wrap_in (by omega) (by omega),kF,if_neg (by omega)]
   rw [ek]
   exact sm x (by omega)
end Go.Pier.Rd
