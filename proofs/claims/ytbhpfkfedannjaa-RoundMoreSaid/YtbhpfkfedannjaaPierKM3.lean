import Derived.Test.YtbhpfkfedannjaaPierKM2
import Derived.KernelRfl
import Derived.Test.YtbhpfkfedannjaaPierW
import Derived.Test.YtbhpfkfedannjaaPierKM1
set_option linter.unusedSimpArgs false
set_option linter.unusedVariables false
namespace Go.Pier.Rd
open Go Go.Pier Go.Proofs
def dist (a b : Int) : Int := if b - a > a - b then b - a else a - b
theorem dist_eq {a b : Int} : dist a b = max (a - b) (b - a) := by unfold dist; split <;> omega
def lf (b : Int) (l : List Int) : Nat→Nat→Nat
 | 0,i => i
 | k + 1,i => if pl l i < b then lf b l k (i + 1) else i
def lefts (b : Int) (n : Nat) (l : List Int) : Nat := lf b l n 0
theorem lf_spec {b : Int} {l : List Int} : ∀ (k i : Nat),i≤lf b l k i∧lf b l k i≤i + k∧(∀ j,i≤j→j < lf b l k i→pl l j < b)∧(lf b l k i < i + k→¬ pl l (lf b l k i) < b)
 | 0,i => ⟨Nat.le_refl _,Nat.le_refl _,fun j h1 h2 => by simp only [lf] at h2; omega,fun h => by simp only [lf] at h; omega⟩
 | k + 1,i => by
   simp only [lf]
   split
   · rename_i hp
     obtain ⟨h1,h2,h3,h4⟩ := lf_spec (b := b) (l := l) k (i + 1)
     refine ⟨by omega,by omega,fun j k1 k2 => ?_,fun h => h4 (by omega)⟩
     by_cases e : j = i
     · subst e; exact hp
     · exact h3 j (by omega) k2
   · rename_i hp
     exact ⟨Nat.le_refl _,by omega,fun j k1 k2 => by omega,fun _ => hp⟩
def lg (b : Int) (l : List Int) : Nat→Nat
 | 0 => 0
 | x + 1 => if pl l x < b then x + 1 else lg b l x
theorem lg_spec {b : Int} {l : List Int} : ∀ (x : Nat),lg b l x≤x∧(0 < lg b l x→pl l (lg b l x - 1) < b)∧∀ j,lg b l x≤j→j < x→¬ pl l j < b
 | 0 => ⟨Nat.le_refl _,fun h => by simp only [lg] at h; omega,fun j h1 h2 => by omega⟩
 | x + 1 => by
   simp only [lg]
   split
   · rename_i hp
     exact ⟨Nat.le_refl _,fun _ => hp,fun j h1 h2 => by omega⟩
   · rename_i hp
     obtain ⟨h1,h2,h3⟩ := lg_spec (b := b) (l := l) x
     refine ⟨by omega,h2,fun j k1 k2 => ?_⟩
     by_cases e : j = x
     · subst e; exact hp
     · exact h3 j k1 (by omega)
theorem ord_lt {b : Int} {n : Nat} {l : List Int} (h : ordP b n l) : ∀ (j i : Nat),i < j→j < n→pl l i < pl l j
 | 0,i,h1,_ => by omega
 | j + 1,i,h1,h2 => by
   have h3 := (h (j + 1) h2).2 (by omega)
   rw [Nat.add_sub_cancel] at h3
   by_cases e : i = j
   · subst e; exact h3
   · have := ord_lt h j i (by omega) (by omega); omega
theorem lg_lefts {b : Int} {n : Nat} {l : List Int} (h : ordP b n l) : lg b l n = lefts b n l := by
 obtain ⟨h1,h2,h3⟩ := lg_spec (b := b) (l := l) n
 obtain ⟨k1,k2,k3,k4⟩ := lf_spec (b := b) (l := l) n 0
 unfold lefts
 generalize lg b l n = x at *
 generalize lf b l n 0 = y at *
 rcases Nat.lt_trichotomy x y with e | e | e
 · exact absurd (k3 x (by omega) e) (h3 x (Nat.le_refl _) (by omega))
 · exact e
 · have a1 := h2 (by omega)
   have a2 := k4 (by omega)
   by_cases e2 : y = x - 1
   · rw [e2] at a2; exact absurd a1 a2
   · have := ord_lt h (x - 1) y (by omega) (by omega); omega
theorem lefts_le {b : Int} {n : Nat} {l : List Int} : lefts b n l≤n := by
 have := (lf_spec (b := b) (l := l) n 0).2.1
 unfold lefts; omega
def apP (n : Int) (m : List Int) (x : Nat) : Prop := (∀ j,j < x→0≤m.getD j 0∧m.getD j 0 < n)∧∀ j,j < x→∀ i,i < j→m.getD i 0 ≠ m.getD j 0
def rnd : Int→Int→List Int→Bool
 | _,_,[] => true
 | f,t,x :: r => if x = f - 1 then rnd (f - 1) t r else if x = t then rnd f (t + 1) r else false
theorem drop_cons {m : List Int} {x : Nat} (h : x < m.length) : m.drop x = m.getD x 0 :: m.drop (x + 1) := by
 rw [List.drop_eq_getElem_cons h,List.getD_eq_getElem?_getD,List.getElem?_eq_getElem h]; rfl
def rAt (b : Int) (l m : List Int) : Nat→Int
 | 0 => b
 | x + 1 => pl l (m.getD x 0).toNat
def rSt (b : Int) (l m : List Int) : Nat→Int
 | 0 => 0
 | x + 1 => rSt b l m x + dist (rAt b l m x) (pl l (m.getD x 0).toNat)
def sf (b : Int) (l m : List Int) : Nat→Nat→Int
 | 0,_ => 0
 | x + 1,a => bif Nat.beq a (m.getD x 0).toNat then rSt b l m (x + 1) else sf b l m x a
def outL (n : Nat) (st : Nat→Int) : List Int := (List.range n).map st
def inT (b : Int) (n : Nat) (l m : List Int) : Prop := ∀ i,i < n→sf b l m m.length i≤tw l i
theorem rAt_bd {b : Int} {n : Nat} {l m : List Int} (h : rngP b n l) (ha : ∀ j,j < m.length→0≤m.getD j 0∧m.getD j 0 < n) : ∀ x,x≤m.length→0≤rAt b l m x∧rAt b l m x≤1000
 | 0,_ => h.2
 | x + 1,hx => by
   have := ha x (by omega)
   exact (h.1 (m.getD x 0).toNat (by omega)).1
theorem rSt_bd {b : Int} {n : Nat} {l m : List Int} (h : rngP b n l) (ha : ∀ j,j < m.length→0≤m.getD j 0∧m.getD j 0 < n) : ∀ x,x≤m.length→0≤rSt b l m x∧rSt b l m x≤1000 * x
 | 0,_ => ⟨Int.le_refl _,Int.le_refl _⟩
 | x + 1,hx => by
   have h1 := rSt_bd h ha x (by omega)
   have h2 := rAt_bd h ha x (by omega)
   have h3 := rAt_bd h ha (x + 1) hx
   show 0≤rSt b l m x + dist (rAt b l m x) (rAt b l m (x + 1))∧rSt b l m x + dist (rAt b l m x) (rAt b l m (x + 1))≤_
   rw [dist_eq]
   push_cast
   omega
noncomputable def errR (b : Int) (n : Nat) (l m : List Int) : Int :=
 if errP b n l ≠ 0 then errP b n l else if m.length ≠ n then 15 else if dB (apP n m m.length) = false then 2 else if rnd (lefts b n l) (lefts b n l) m = false then 16 else if dB (inT b n l m) = false then 12 else 0
theorem errP_cases {b : Int} {n : Nat} {l : List Int} (h : errP b n l = 0) : (1≤n∧n≤10)∧rngP b n l∧ordP b n l := by
 unfold errP at h
 split at h
 · cases h
 split at h
 · cases h
 rename_i h1 h2
 split at h
 · cases h
 rename_i h3
 exact ⟨by omega,Classical.not_not.1 h2,Classical.not_not.1 h3⟩
end Go.Pier.Rd
set_option maxRecDepth 100000
namespace Go.Pier.Rd
open Go Go.Pier Go.Proofs
noncomputable def hasN :=
fun (n:Int)↦(∃ (y:Unit),Ob True∧True∧Ob (Value.slice none 0 0=Value.slice none 0 0)∧Ob (n=n)∧Ob (false=false)∧Ob ((0:Int)=(0:Int))∧True)∧∀ (x:Unit),Ob True→(false=true→False)∧(false=false→True∧Ob (Value.bool false=Value.bool false))
end Go.Pier.Rd
namespace Go.Pier.Rd
open Go Go.Pier Go.Proofs
noncomputable def diB : Code := Try.f99.body.getD .skip
noncomputable def diV :=
fun (x y:Int)↦True∧Ob (vi (if IntKind.i64.wrap (y-x) > IntKind.i64.wrap (x-y) then IntKind.i64.wrap (y-x) else IntKind.i64.wrap (x-y))=vi (dist x y))
theorem diV_eq : diV = fun (x y : Int) => vc Try.prog {} 0 12 true (fun _ => none) diB [] (argFr 0 [vi x,vi y]) [] (retK Try.prog Try.f99 (fun v _ => v = vi (dist x y))) := by kernel_rfl
noncomputable def leB : Code := Try.f86.body.getD .skip
def leI (b : Int) (n c : Nat) (l : List Int) : Nat→Option LInv := invOf
 0 (LInv.one Nat (fun i => i≤n∧lf b l (n - i) i = lefts b n l) (fun i => [(1,ptr0 1),(2,vi 0),(3,vi i)]) (fun _ => [ros l,.rw (pierC b (some ⟨0,0,none⟩) n c) none]) (fun i => n - i))
noncomputable def leV0 (l:List Int) := (List.map (Value.int IntKind.i64) l)
noncomputable def leV1 (b:Int) (n:Nat) (c:Nat):Prop := (AObj.rw [vi b,Value.slice (some (ad0 0)) n c] none=AObj.rw [vi b,Value.slice (some (ad0 0)) n c] none∧true=true)
noncomputable def leV2  (x:Nat) := (0+(x:Int).toNat * 2)
noncomputable def leV :=
fun (b:Int) (n c:Nat) (l:List Int)↦(∃ (y:Nat),Ob (y≤n∧lf b l (n-y) y=lefts b n l)∧(Ob (AObj.ro (leV0 l)=AObj.ro (List.map (nmap1 fun (bq:Nat)↦bq) (leV0 l))∧AObj.sc 2 (AObj.ro (leV0 l))=true)∧Ob (leV1 b n c)∧True)∧Ob (ptr0 1=ptr0 1)∧Ob ((0:Int)=(0:Int))∧Ob ((0:Int)=(y:Int))∧True)∧∀ (x:Nat),Ob (x≤n∧lf b l (n-x) x=lefts b n l)→(decide ((x:Int)<(n:Int))=true→Ob ((0:Int)≤(x:Int)∧(x:Int)<(n:Int)∧true=true)∧Ob (IntAt IntKind.i64 (leV0 l) (leV2 x))∧Ob (some (vi b)=some (vi b))∧(decide (getI (leV0 l) (leV2 x)<b)=true→∃ (y:Nat),Ob (y≤n∧lf b l (n-y) y=lefts b n l)∧Ob (n-y<n-x)∧(Ob (AObj.ro (leV0 l)=AObj.ro (List.map (nmap1 fun (bqq:Nat)↦bqq) (leV0 l))∧AObj.sc 2 (AObj.ro (leV0 l))=true)∧Ob (leV1 b n c)∧True)∧Ob (ptr0 1=ptr0 1)∧Ob ((0:Int)=(0:Int))∧Ob (IntKind.i64.wrap ((x:Int)+(1:Int))=(y:Int))∧True)∧(decide (getI (leV0 l) (leV2 x)<b)=false→True∧Ob (vi (x:Int)=vi (↑(lefts b n l):Int))))∧(decide ((x:Int)<(n:Int))=false→True∧Ob (vi (x:Int)=vi (↑(lefts b n l):Int)))
theorem leV_eq : leV = fun (b : Int) (n c : Nat) (l : List Int) => vc Try.prog ldE 1 23 true (leI b n c l) leB [] (argFr 0 [pierV b (some ⟨0,0,none⟩) n c]) [ros l] (retK Try.prog Try.f86 (fun v _ => v = vi (lefts b n l))) := by kernel_rfl
noncomputable def apB : Code := Try.f58.body.getD .skip
noncomputable def apE : VEnv := { ct := wiT,orc := orcB Try.prog }
noncomputable def sn (m : List Int) (x : Nat) (a : Nat) : Bool := dB (∃ j,j < x∧m.getD j 0 = (a : Int))
noncomputable def apI (n : Int) (m : List Int) (c : Nat) : Nat→Option LInv := invOf
 0 (LInv.one Nat (fun i => i≤m.length∧apP n m i) (fun i => [(0,vi n),(4,.bool false),(5,ptr0 1),(8,.slice (some ⟨0,0,none⟩) m.length c),(9,vi m.length),(10,vi i)]) (fun i => [ros m,.rw (B10 (sn m i) []) none]) (fun i => m.length - i))
noncomputable def apV0 (m:List Int) (x:Nat) := (0+(getI (List.map (Value.int IntKind.i64) m) (0+(x:Int).toNat * 1)).toNat * 1)
noncomputable def apV1 (m:List Int) := (List.map (Value.int IntKind.i64) m)
noncomputable def apV2  (x:Nat) := (0+(x:Int).toNat * 1)
noncomputable def apV3 (n:Int) (m:List Int) (x:Nat) := (!wiF (Arg.plain (vi (0:Int))).num (Arg.plain (vi (IntKind.i64.wrap (n-(1:Int))))).num [intOf (vi (getI (apV1 m) (apV2 x)))])
noncomputable def apV :=
fun (n:Int) (m:List Int) (c:Nat)↦(∃ (y:Nat),Ob (y≤m.length∧apP n m y)∧(Ob (AObj.ro (apV1 m)=AObj.ro (List.map (nmap1 fun (b:Nat)↦b) (apV1 m))∧AObj.sc 2 (AObj.ro (apV1 m))=true)∧Ob (AObj.rw (B10 empB []) none=AObj.rw (B10 (sn m y) []) none∧true=true)∧True)∧Ob (n=n)∧Ob (false=false)∧Ob (ptr0 1=ptr0 1)∧Ob (Value.slice (some (ad0 0)) m.length c=Value.slice (some (ad0 0)) m.length c)∧Ob ((m.length:Int)=(m.length:Int))∧Ob ((0:Int)=(y:Int))∧True)∧∀ (x:Nat),Ob (x≤m.length∧apP n m x)→(decide ((x:Int)<(m.length:Int))=true→Ob ((0:Int)≤(x:Int)∧(x:Int)<(m.length:Int)∧true=true)∧Ob (IntAt IntKind.i64 (apV1 m) (apV2 x))∧Ob (([vi (getI (apV1 m) (apV2 x))]=[vi (intOf (vi (getI (apV1 m) (apV2 x))))]∧0+1≤1∧true=true)∧1≤1000000)∧((apV3 n m x)=false→Ob ((0:Int)≤getI (apV1 m) (apV2 x)∧getI (apV1 m) (apV2 x)<(↑(10:Nat):Int))∧Ob (BoolAt (B10 (sn m x) []) (apV0 m x))∧(getB (B10 (sn m x) []) (apV0 m x)=true→True∧Ob (Value.bool false=Value.bool (dB (apP n m m.length))))∧(getB (B10 (sn m x) []) (apV0 m x)=false→Ob ((0:Int)≤getI (apV1 m) (apV2 x)∧getI (apV1 m) (apV2 x)<(↑(10:Nat):Int))∧Ob (BoolAt (B10 (sn m x) []) (apV0 m x)∧some 1=some 1)∧∃ (y:Nat),Ob (y≤m.length∧apP n m y)∧Ob (m.length-y<m.length-x)∧(Ob (AObj.ro (apV1 m)=AObj.ro (List.map (nmap1 fun (b:Nat)↦b) (apV1 m))∧AObj.sc 2 (AObj.ro (apV1 m))=true)∧Ob (AObj.rw [Value.bool (bif Nat.beq 0 (apV0 m x) then true else sn m x 0),Value.bool (bif Nat.beq 1 (apV0 m x) then true else sn m x 1),Value.bool (bif Nat.beq 2 (apV0 m x) then true else sn m x 2),Value.bool (bif Nat.beq 3 (apV0 m x) then true else sn m x 3),Value.bool (bif Nat.beq 4 (apV0 m x) then true else sn m x 4),Value.bool (bif Nat.beq 5 (apV0 m x) then true else sn m x 5),Value.bool (bif Nat.beq 6 (apV0 m x) then true else sn m x 6),Value.bool (bif Nat.beq 7 (apV0 m x) then true else sn m x 7),Value.bool (bif Nat.beq 8 (apV0 m x) then true else sn m x 8),Value.bool (bif Nat.beq 9 (apV0 m x) then true else sn m x 9)] none=AObj.rw (B10 (sn m y) []) none∧true=true)∧True)∧Ob (n=n)∧Ob (false=false)∧Ob (ptr0 1=ptr0 1)∧Ob (Value.slice (some (ad0 0)) m.length c=Value.slice (some (ad0 0)) m.length c)∧Ob ((m.length:Int)=(m.length:Int))∧Ob (IntKind.i64.wrap ((x:Int)+(1:Int))=(y:Int))∧True))∧((apV3 n m x)=true→True∧Ob (Value.bool false=Value.bool (dB (apP n m m.length)))))∧(decide ((x:Int)<(m.length:Int))=false→True∧Ob (Value.bool true=Value.bool (dB (apP n m m.length))))
theorem apV_eq : apV = fun (n : Int) (m : List Int) (c : Nat) => vc Try.prog apE 1 28 true (apI n m c) apB [] (argFr 0 [vi n,.slice (some ⟨0,0,none⟩) m.length c]) [ros m] (retK Try.prog Try.f58 (fun v _ => v = .bool (dB (apP n m m.length)))) := by kernel_rfl
theorem di_val {x y : Int} (hx : -1000000≤x∧x≤1000000) (hy : -1000000≤y∧y≤1000000) : (if IntKind.i64.wrap (y - x) > IntKind.i64.wrap (x - y) then IntKind.i64.wrap (y - x) else IntKind.i64.wrap (x - y)) = dist x y := by
 rw [wrap_in (x := y - x) (by omega) (by omega),wrap_in (x := x - y) (by omega) (by omega)]; rfl
theorem diV_ok (x y : Int) (hx : -1000000≤x∧x≤1000000) (hy : -1000000≤y∧y≤1000000) : diV x y := by
 unfold diV
 simp only [SS,reduceCtorEq,Arg.list,Arg.num,Arg.flag,intOf,andP,Nat.reduceLeDiff,Nat.reduceAdd,Nat.reduceMul,Nat.reduceLT]
 exact di_val hx hy
theorem leV_ok (b : Int) (n c : Nat) (l : List Int) (hl : l.length = n * 2) (hn : n≤1000000) : leV b n c l := by
 unfold leV leV2 leV1 leV0
 simp only [SS,reduceCtorEq,Arg.list,Arg.num,Arg.flag,intOf,andP,Nat.reduceLeDiff,Nat.reduceAdd,Nat.reduceMul,Nat.reduceLT,ckAsk,CK.ask,pl_fold,tw_fold]
 refine ⟨⟨0,⟨by omega,rfl⟩,rfl⟩,fun x ⟨hx,hj⟩ => ⟨fun h1 => ?_,fun h1 => ?_⟩⟩
 · obtain ⟨k,hk⟩ : ∃ k,n - x = k + 1 := ⟨n - x - 1,by omega⟩
   rw [hk,lf] at hj
   refine ⟨by omega,by omega,fun h2 => ?_,fun h2 => ?_⟩
   · rw [if_pos h2] at hj
     exact ⟨x + 1,⟨by omega,by rw [← hj,show n - (x + 1) = k by omega]⟩,by omega,wrap_succ (n := n) (by omega) hn⟩
   · rw [if_neg h2] at hj; rw [hj]
 · rw [show n - x = 0 by omega,lf] at hj; rw [hj]
theorem sn_zero {m : List Int} {a : Nat} : sn m 0 a = false := (dB_false fun ⟨j,h,_⟩ => by omega).symm
theorem sn_step {m : List Int} {x a : Nat} (h : 0≤m.getD x 0) : (bif Nat.beq a (m.getD x 0).toNat then true else sn m x a) = sn m (x + 1) a := by
 by_cases e : a = (m.getD x 0).toNat
 · have : Nat.beq a (m.getD x 0).toNat = true := by rw [e]; exact Nat.beq_refl _
   rw [this]
   exact dB_true ⟨x,by omega,by omega⟩
 · have : Nat.beq a (m.getD x 0).toNat = false := by
     cases hb : Nat.beq a (m.getD x 0).toNat with
     | false => rfl
     | true => exact absurd (Nat.eq_of_beq_eq_true hb) e
   rw [this]
   show sn m x a = sn m (x + 1) a
   unfold sn
   congr 1
   refine propext ⟨fun ⟨j,h1,h2⟩ => ⟨j,by omega,h2⟩,fun ⟨j,h1,h2⟩ => ⟨j,?_,h2⟩⟩
   rcases Nat.lt_or_ge j x with h3 | h3
   · exact h3
   · exfalso; have : j = x := by omega
     subst this; omega
theorem apP_step {n : Int} {m : List Int} {x : Nat} (h : apP n m x) (h1 : 0≤m.getD x 0∧m.getD x 0 < n) (h2 : ∀ i,i < x→m.getD i 0 ≠ m.getD x 0) : apP n m (x + 1) := ⟨all_snoc h.1 h1,all_snoc h.2 h2⟩
theorem apV_ok (n : Int) (m : List Int) (c : Nat) (hm : m.length≤1000000) (hn : 0≤n∧n≤10) : apV n m c := by
 unfold apV apV3 apV2 apV1 apV0
 simp only [SS,reduceCtorEq,Arg.list,Arg.num,Arg.flag,intOf,andP,Nat.reduceLeDiff,Nat.reduceAdd,Nat.reduceMul,Nat.reduceLT,wiF_one]
 rw [wrap_in (x := n - 1) (by omega) (by omega)]
 refine ⟨⟨0,⟨by omega,all_none,all_none⟩,?_,rfl⟩,fun x ⟨hx,hj⟩ => ⟨fun h1 => ⟨by omega,by omega,fun h2 => ?_,fun h2 => dB_false fun k => ?_⟩,fun h1 => ?_⟩⟩
 · rw [show sn m 0 = empB from funext fun a => sn_zero]
 · have h10 : (m.getD x 0).toNat < 10 := by omega
   rw [B10_getB0 h10]
   refine ⟨by omega,B10_at0 h10,fun h3 => dB_false fun k => ?_,fun h3 => ⟨by omega,B10_at0 h10,x + 1,⟨by omega,apP_step hj (by omega) fun i hi he => ?_⟩,by omega,?_,wrap_succ (n := m.length) (by omega) hm⟩⟩
   · obtain ⟨j,k1,k2⟩ := of_dB h3
     exact k.2 x (by omega) j k1 (by omega)
   · exact of_dBf h3 ⟨i,hi,by omega⟩
   · simp only [sn_step h2.1]; rfl
 · exact h2 (by have := k.1 x (by omega); omega)
 · rw [show x = m.length by omega] at hj; exact dB_true hj
def diS (r : List Arg) : Prop × Value := match r with
 | [x,y] => ((-1000000≤x.num∧x.num≤1000000)∧-1000000≤y.num∧y.num≤1000000,vi (dist x.num y.num))
 | _ => (False,undef)
theorem diG_ok : ∀ args H φ v H' l,pureG [.int .i64,.int .i64] diS args H = some (φ,v,H',l)→Asks φ→Call Try.prog 99 args H (fun v' H2 => v' = v∧H2 = H')∧Kept H H' l :=
 pureG_ok fun r hk hs => match r,hk with
   | [_,_],⟨⟨x,rfl⟩,⟨y,rfl⟩,_⟩ => ⟨rfl,fun _ => Call.ofVc E0_ok mixed (c := diB) Try.func99 (by kernel_rfl) (cast (congrFun (congrFun diV_eq x) y) (diV_ok x y hs.1 hs.2))⟩
theorem leG_ok : ∀ args H φ v H' l,pure3 psP (specV fun b n l => vi (lefts b n l)) args H = some (φ,v,H',l)→Asks φ→Call Try.prog 86 args H (fun v' H2 => v' = v∧H2 = H')∧Kept H H' l :=
 specV_ok (fun _ _ _ => rfl) fun b n c l h1 h2 => Call.ofVc ldE_ok mixed (c := leB) (inv := leI b n c l) Try.func86 (by kernel_rfl) (cast (congrFun (congrFun (congrFun (congrFun leV_eq b) n) c) l) (leV_ok b n c l h1 h2))
noncomputable def apS (r : List Arg) : Prop × Value := match r with
 | [n,.ints _ m] => ((m.length≤1000000∧0≤n.num∧n.num≤10),.bool (dB (apP n.num m m.length)))
 | _ => (False,undef)
theorem apE_ok : VOk Try.prog apE := ⟨wiT_ok,E0_ok.cc,E0_ok.yc,orcB_ok⟩
theorem apG_ok : ∀ args H φ v H' l,pureG [.int .i64,.ints .i64] apS args H = some (φ,v,H',l)→Asks φ→Call Try.prog 58 args H (fun v' H2 => v' = v∧H2 = H')∧Kept H H' l :=
 pureG_ok fun r hk hs => match r,hk with
   | [_,_],⟨⟨n,rfl⟩,hl,_⟩ => by
     rcases hl with rfl | ⟨s,rfl⟩ | ⟨m,rfl⟩
     · exact hs.elim
     · exact hs.elim
     · exact ⟨rfl,fun caps => Call.ofVc apE_ok mixed (c := apB) (inv := apI n m _) Try.func58 (by kernel_rfl) (cast (congrFun (congrFun (congrFun apV_eq n) m) _) (apV_ok n m _ hs.1 hs.2))⟩
end Go.Pier.Rd
namespace Go.Pier.Rd
open Go Go.Pier Go.Proofs
def sl0 (n c : Nat) : Value := .slice (some ⟨0,0,none⟩) n c
def sl1 (n c : Nat) : Value := .slice (some ⟨1,0,none⟩) n c
def boxP (b : Int) (n c : Nat) : AObj := .rw (pierC b (some ⟨0,0,none⟩) n c) none
def madeA (l : List Int) : AObj := .rw (l.map (.int .i64)) none
theorem rnd_left {f t y : Int} {r : List Int} (h : y = f - 1) : rnd f t (y :: r) = rnd (f - 1) t r := by rw [rnd,if_pos h]
theorem rnd_right {f t y : Int} {r : List Int} (h : ¬ y = f - 1) (h2 : y = t) : rnd f t (y :: r) = rnd f (t + 1) r := by rw [rnd,if_neg h,if_pos h2]
theorem rnd_none {f t y : Int} {r : List Int} (h : ¬ y = f - 1) (h2 : ¬ y = t) : rnd f t (y :: r) = false := by rw [rnd,if_neg h,if_neg h2]
theorem outL_len {n : Nat} {st : Nat→Int} : (outL n st).length = n := by rw [outL,List.length_map,List.length_range]
def okM : Leaf→Prop
 | .view cs k _ => cs = (intsOf cs).map (.int .i64)∧cs.length = k∧k≤1000000
 | _ => True
theorem okM_ints {l : List Int} {r : Bool} (h2 : l.length≤1000000) : okM (.view (l.map (.int .i64)) l.length r) := ⟨by rw [intsOf_map],by rw [List.length_map],h2⟩
end Go.Pier.Rd
namespace Go.Pier.Rd
open Go Go.Pier Go.Proofs
def errT (e : Int) : Value := .tuple #[nilS,vi e]
theorem errR_p {b : Int} {n : Nat} {l m : List Int} (h : ¬ errP b n l = 0) : errR b n l m = errP b n l := by rw [errR,if_pos h]
theorem errR_15 {b : Int} {n : Nat} {l m : List Int} (h : errP b n l = 0) (h1 : ¬ m.length = n) : errR b n l m = 15 := by rw [errR,if_neg (not_not_intro h),if_pos h1]
theorem errR_2 {b : Int} {n : Nat} {l m : List Int} (h : errP b n l = 0) (h1 : m.length = n) (h2 : ¬ apP n m m.length) : errR b n l m = 2 := by rw [errR,if_neg (not_not_intro h),if_neg (not_not_intro h1),if_pos (dB_false h2).symm]
theorem errR_16 {b : Int} {n : Nat} {l m : List Int} (h : errP b n l = 0) (h1 : m.length = n) (h2 : apP n m m.length) (h3 : rnd (lefts b n l) (lefts b n l) m = false) : errR b n l m = 16 := by
 rw [errR,if_neg (not_not_intro h),if_neg (not_not_intro h1),if_neg (by rw [← dB_true h2]; exact Bool.noConfusion),if_pos h3]
theorem errR_12 {b : Int} {n : Nat} {l m : List Int} (h : errP b n l = 0) (h1 : m.length = n) (h2 : apP n m m.length) (h3 : rnd (lefts b n l) (lefts b n l) m = true) (h4 : ¬ inT b n l m) : errR b n l m = 12 := by
 rw [errR,if_neg (not_not_intro h),if_neg (not_not_intro h1),if_neg (by rw [← dB_true h2]; exact Bool.noConfusion),if_neg (by rw [h3]; exact Bool.noConfusion),if_pos (dB_false h4).symm]
theorem errR_0 {b : Int} {n : Nat} {l m : List Int} (h : errP b n l = 0) (h1 : m.length = n) (h2 : apP n m m.length) (h3 : rnd (lefts b n l) (lefts b n l) m = true) (h4 : inT b n l m) : errR b n l m = 0 := by
 rw [errR,if_neg (not_not_intro h),if_neg (not_not_intro h1),if_neg (by rw [← dB_true h2]; exact Bool.noConfusion),if_neg (by rw [h3]; exact Bool.noConfusion),if_neg (by rw [← dB_true h4]; exact Bool.noConfusion)]
end Go.Pier.Rd
namespace Go.Pier.Rd
open Go Go.Pier Go.Proofs
noncomputable def prB : Code := Try.f19.body.getD .skip
noncomputable def prT : Ct := ((Ct.none.add 21 (pureP (fun b n l => vi (errP b n l)) (vi 6))).add 58 (pureG [.int .i64,.ints .i64] apS)).add 99 (pureG [.int .i64,.int .i64] diS)
noncomputable def prO : Orc := orcOr (orcLd Try.prog) (orcOr (orcB Try.prog) (orcOr (orcI Try.prog) (orcCp Try.prog)))
noncomputable def prE1 : VEnv := { ct := prT,orc := prO }
def walkC (b : Int) (n c : Nat) (lf : Int) (tm : Nat→Bool) : List Value := vi b :: sl0 n c :: vi lf :: B10 tm []
def tmd (x : Nat) (a : Nat) : Bool := Nat.blt a x
def stC (m : List Int) (d : Nat) (st : Nat→Int) : List Value := sl1 m.length d :: I10 st []
def inv57 (b : Int) (n c : Nat) (l : List Int) : List Value→Heap→Nat→Option LInv := fun _ H => invOf
 0 (LInv.one Nat (fun x => x≤n) (fun x => [(5,ptr0 (H.length + 1)),(20,sl0 n c),(21,vi n),(22,vi x)]) (fun x => H ++ [boxP b n c,.rw (walkC b n c (lg b l x) (tmd x)) none]) (fun x => n - x))
def inv59 (b : Int) (n : Nat) (l : List Int) (m : List Int) (d : Nat) : List Value→Heap→Nat→Option LInv := fun _ H => invOf
 0 (LInv.one (Nat × Int × Int) (fun y => y.1≤m.length∧(-1000000≤y.2.1 + y.1∧y.2.1≤1000000∧0≤y.2.2∧y.2.2≤1000000 + y.1)∧rnd y.2.1 y.2.2 (m.drop y.1) = rnd (lefts b n l) (lefts b n l) m) (fun y => [(4,.bool false),(5,vi y.2.1),(6,vi y.2.2),(17,sl1 m.length d),(18,vi m.length),(19,vi y.1)]) (fun _ => H) (fun y => m.length - y.1))
def inv60 (b : Int) (l : List Int) (m : List Int) (d : Nat) : List Value→Heap→Nat→Option LInv := fun _ H => invOf
 0 (LInv.one Nat (fun x => x≤m.length) (fun x => [(0,ptr0 4),(4,ptr0 H.length),(5,ptr0 (H.length + 1)),(6,vi (rAt b l m x)),(7,vi (rSt b l m x)),(18,sl1 m.length d),(19,vi m.length),(20,vi x)]) (fun x => H ++ [.rw (nilS :: I10 empI []) none,.rw (stC m d (sf b l m x)) none]) (fun x => m.length - x))
def inv61 (b : Int) (n c : Nat) (l : List Int) (m : List Int) (d : Nat) : List Value→Heap→Nat→Option LInv := fun _ H => invOf
 0 (LInv.one Nat (fun x => x≤n∧∀ i,i < x→sf b l m m.length i≤tw l i) (fun x => [(0,ptr0 4),(3,ptr0 H.length),(4,.bool false),(11,sl0 n c),(12,vi n),(13,vi x)]) (fun _ => H ++ [.rw (stC m d (sf b l m m.length)) none]) (fun x => n - x))
noncomputable def prE (b : Int) (n c d : Nat) (l m : List Int) : VEnv := { prE1 with cc := ccIn Try.prog prE1 [⟨57,Try.f57,inv57 b n c l⟩,⟨59,Try.f59,inv59 b n l m d⟩,⟨60,Try.f60,inv60 b l m d⟩,⟨61,Try.f61,inv61 b n c l m d⟩] }
def get3 (H : Heap) (k : Nat) : Option (AObj × AObj × AObj) := match H[0]?,H[1]?,H[k]? with | some x,some y,some z => some (x,y,z) | _,_,_ => none
noncomputable def finR (b : Int) (n : Nat) (l m : List Int) (v : Value) (H : Heap) : Prop := (errR b n l m ≠ 0→v = errT (errR b n l m))∧(errR b n l m = 0→v = .tuple #[.slice (some ⟨9,0,none⟩) n n,vi 0]∧get3 H 9 = some (ros l,ros m,madeA (outL n (sf b l m m.length))))
noncomputable def prV0 (b:Int) (l:List Int) (m:List Int) (x_2:Nat) := (rSt b l m x_2+dist (Arg.plain (vi (rAt b l m x_2))).num (Arg.plain (vi (getI (List.map (Value.int IntKind.i64) l) (0+(getI (List.map (Value.int IntKind.i64) m) (0+(x_2:Int).toNat * 1)).toNat * 2)))).num)
noncomputable def prV1 (b:Int) (d:Nat) (l:List Int) (m:List Int) (x_2:Nat) := (Value.slice (some (ad0 1)) m.length d::I10 (sf b l m x_2) [])
noncomputable def prV2 (b:Int) (n:Nat) (c:Nat):Prop := (AObj.rw [vi b,Value.slice (some (ad0 0)) n c] none=AObj.rw [vi b,Value.slice (some (ad0 0)) n c] none∧true=true)
noncomputable def prV3 (b:Int) (n:Nat) (c:Nat) (l:List Int) (x:Nat) := (vi b::Value.slice (some (ad0 0)) n c::vi (↑(lg b l x):Int)::B10 (tmd x) [])
noncomputable def prV4  := (Value.int IntKind.i64)
noncomputable def prV5 (b:Int) (d:Nat) (l:List Int) (m:List Int) (x_2:Nat) (y:Nat):Prop := (AObj.rw [Value.slice (some (ad0 1)) m.length d,vi (bif Nat.beq 1 (0+1+(getI (List.map prV4 m) (0+(x_2:Int).toNat * 1)).toNat * 1) then IntKind.i64.wrap (prV0 b l m x_2) else sf b l m x_2 0),vi (bif Nat.beq 2 (0+1+(getI (List.map prV4 m) (0+(x_2:Int).toNat * 1)).toNat * 1) then IntKind.i64.wrap (prV0 b l m x_2) else sf b l m x_2 1),vi (bif Nat.beq 3 (0+1+(getI (List.map prV4 m) (0+(x_2:Int).toNat * 1)).toNat * 1) then IntKind.i64.wrap (prV0 b l m x_2) else sf b l m x_2 2),vi (bif Nat.beq 4 (0+1+(getI (List.map prV4 m) (0+(x_2:Int).toNat * 1)).toNat * 1) then IntKind.i64.wrap (prV0 b l m x_2) else sf b l m x_2 3),vi (bif Nat.beq 5 (0+1+(getI (List.map prV4 m) (0+(x_2:Int).toNat * 1)).toNat * 1) then IntKind.i64.wrap (prV0 b l m x_2) else sf b l m x_2 4),vi (bif Nat.beq 6 (0+1+(getI (List.map prV4 m) (0+(x_2:Int).toNat * 1)).toNat * 1) then IntKind.i64.wrap (prV0 b l m x_2) else sf b l m x_2 5),vi (bif Nat.beq 7 (0+1+(getI (List.map prV4 m) (0+(x_2:Int).toNat * 1)).toNat * 1) then IntKind.i64.wrap (prV0 b l m x_2) else sf b l m x_2 6),vi (bif Nat.beq 8 (0+1+(getI (List.map prV4 m) (0+(x_2:Int).toNat * 1)).toNat * 1) then IntKind.i64.wrap (prV0 b l m x_2) else sf b l m x_2 7),vi (bif Nat.beq 9 (0+1+(getI (List.map prV4 m) (0+(x_2:Int).toNat * 1)).toNat * 1) then IntKind.i64.wrap (prV0 b l m x_2) else sf b l m x_2 8),vi (bif Nat.beq 10 (0+1+(getI (List.map prV4 m) (0+(x_2:Int).toNat * 1)).toNat * 1) then IntKind.i64.wrap (prV0 b l m x_2) else sf b l m x_2 9)] none=AObj.rw (Value.slice (some (ad0 1)) m.length d::I10 (sf b l m y) []) none∧true=true)
noncomputable def prV6 (l:List Int) (x_3:Nat):List Value := [vi (getI (List.map prV4 l) (0+(x_3:Int).toNat * 2)),vi (getI (List.map prV4 l) (0+(x_3:Int).toNat * 2+1))]
noncomputable def prV7 (b:Int) (d:Nat) (l:List Int) (m:List Int) (x_2:Nat) := (List.take (Nat.min 10 (IntKind.i64.wrap (m.length:Int)).toNat * 1) (List.drop (0+1) (prV1 b d l m x_2)))
noncomputable def prV8  (x:Nat) := (0+3+(x:Int).toNat * 1)
noncomputable def prV9 (b:Int) (d:Nat) (l:List Int) (m:List Int) := (Value.slice (some (ad0 1)) m.length d::I10 (sf b l m m.length) [])
noncomputable def prV10 (b:Int) (d:Nat) (l:List Int) (m:List Int) (x_2:Nat):Prop := (AObj.rw (prV1 b d l m x_2) none=AObj.rw (prV1 b d l m x_2) none∧true=true)
noncomputable def prV11 (b:Int) (n:Nat) (c:Nat) (l:List Int) (x:Nat):List Value := [vi b,Value.slice (some (ad0 0)) n c,vi (↑(lg b l x):Int),Value.bool (bif Nat.beq 3 (prV8 x) then true else tmd x 0),Value.bool (bif Nat.beq 4 (prV8 x) then true else tmd x 1),Value.bool (bif Nat.beq 5 (prV8 x) then true else tmd x 2),Value.bool (bif Nat.beq 6 (prV8 x) then true else tmd x 3),Value.bool (bif Nat.beq 7 (prV8 x) then true else tmd x 4),Value.bool (bif Nat.beq 8 (prV8 x) then true else tmd x 5),Value.bool (bif Nat.beq 9 (prV8 x) then true else tmd x 6),Value.bool (bif Nat.beq 10 (prV8 x) then true else tmd x 7),Value.bool (bif Nat.beq 11 (prV8 x) then true else tmd x 8),Value.bool (bif Nat.beq 12 (prV8 x) then true else tmd x 9)]
noncomputable def prV12 (b:Int) (n:Nat) (c:Nat) (l:List Int) (x:Nat):Prop := (AObj.rw (prV3 b n c l x) none=AObj.rw (prV3 b n c l x) none∧true=true)
noncomputable def prV13  (x_2:Nat) := (0+(x_2:Int).toNat * 1)
noncomputable def prV14 (b:Int) (n:Nat) (c:Nat) (l:List Int) (m:List Int) (x:Nat):List AObj := [AObj.ro (List.map prV4 l),AObj.ro (List.map prV4 m),AObj.rw [vi b,Value.slice (some (ad0 0)) n c] none,AObj.rw [vi b,Value.slice (some (ad0 0)) n c] none,AObj.rw (prV3 b n c l x) none]
noncomputable def prV15 (b:Int) (n:Nat) (c:Nat) (d:Nat) (l:List Int) (m:List Int) (x:Nat) (x_2:Nat) (x_3:Nat) := (finR b n l m (Value.tuple ⟨[Value.slice (some (ad0 10)) (IntKind.i64.wrap (m.length:Int)).toNat (IntKind.i64.wrap (m.length:Int)).toNat,vi (0:Int)]⟩) [AObj.ro (List.map prV4 l),AObj.ro (List.map prV4 m),AObj.rw [vi b,Value.slice (some (ad0 0)) n c] none,AObj.rw [vi b,Value.slice (some (ad0 0)) n c] none,AObj.rw (prV3 b n c l x) none,AObj.rw (prV1 b d l m x_2) none,AObj.rw (prV1 b d l m x_2) none,AObj.rw (prV1 b d l m x_2) none,AObj.rw (prV9 b d l m) none,AObj.rw (prV6 l x_3) none,AObj.rw (putL (List.replicate (IntKind.i64.wrap (m.length:Int)).toNat (vi (0:Int))) 0 (prV7 b d l m x_2)) none])
noncomputable def prV16 (b:Int) (n:Nat) (c:Nat) (d:Nat) (l:List Int) (m:List Int) (x:Nat) (x_2:Nat) := (finR b n l m (Value.tuple ⟨[Value.slice (some (ad0 9)) (IntKind.i64.wrap (m.length:Int)).toNat (IntKind.i64.wrap (m.length:Int)).toNat,vi (0:Int)]⟩) [AObj.ro (List.map prV4 l),AObj.ro (List.map prV4 m),AObj.rw [vi b,Value.slice (some (ad0 0)) n c] none,AObj.rw [vi b,Value.slice (some (ad0 0)) n c] none,AObj.rw (prV3 b n c l x) none,AObj.rw (prV1 b d l m x_2) none,AObj.rw (prV1 b d l m x_2) none,AObj.rw (prV1 b d l m x_2) none,AObj.rw (prV9 b d l m) none,AObj.rw (putL (List.replicate (IntKind.i64.wrap (m.length:Int)).toNat (vi (0:Int))) 0 (prV7 b d l m x_2)) none])
noncomputable def prV17  : Prop := (AObj.rw (Value.slice none (0 : Nat) (0 : Nat) :: I10 empI []) none = AObj.rw (Value.slice none (0 : Nat) (0 : Nat) :: I10 empI []) none∧true = true)
noncomputable def prV18 (m:List Int) (x_2:Nat) := (0+(getI (List.map prV4 m) (prV13 x_2)).toNat * 2)
noncomputable def prV19 (n:Nat) (c:Nat):Prop := (Value.slice (some (ad0 0)) n c=Value.slice (some (ad0 0)) n c)
noncomputable def prV20 (d:Nat) (m:List Int):Prop := (Value.slice (some (ad0 1)) m.length d=Value.slice (some (ad0 1)) m.length d)
noncomputable def prV21 (b:Int) (n:Nat) (c:Nat) (d:Nat) (l:List Int) (m:List Int) (x:Nat) (x_2:Nat) (x_3:Nat) := (finR b n l m (Value.tuple ⟨[Value.slice none 0 0,vi (12:Int)]⟩) [AObj.ro (List.map prV4 l),AObj.ro (List.map prV4 m),AObj.rw [vi b,Value.slice (some (ad0 0)) n c] none,AObj.rw [vi b,Value.slice (some (ad0 0)) n c] none,AObj.rw (prV3 b n c l x) none,AObj.rw (prV1 b d l m x_2) none,AObj.rw (prV1 b d l m x_2) none,AObj.rw (prV1 b d l m x_2) none,AObj.rw (prV9 b d l m) none,AObj.rw (prV6 l x_3) none])
noncomputable def prV22 (b:Int) (n:Nat) (c:Nat) (d:Nat) (l:List Int) (m:List Int) (x:Nat) (x_2:Nat) := (finR b n l m (Value.tuple ⟨[Value.slice none 0 0,vi (12:Int)]⟩) [AObj.ro (List.map prV4 l),AObj.ro (List.map prV4 m),AObj.rw [vi b,Value.slice (some (ad0 0)) n c] none,AObj.rw [vi b,Value.slice (some (ad0 0)) n c] none,AObj.rw (prV3 b n c l x) none,AObj.rw (prV1 b d l m x_2) none,AObj.rw (prV1 b d l m x_2) none,AObj.rw (prV1 b d l m x_2) none,AObj.rw (prV9 b d l m) none])
noncomputable def prV23 (m:List Int) := (List.take m.length (List.drop 0 (intsOf (List.map prV4 m))))
noncomputable def prV24 (l:List Int) := (AObj.ro (List.map prV4 l))
noncomputable def prV25 (m:List Int) := (AObj.ro (List.map prV4 m))
noncomputable def prV26  : Prop := (Value.pointer (some { block := (3 : Nat) + (1 : Nat),off := (0 : Nat),spot := none }) = ptr0 4)
noncomputable def prV27 (b:Int) (d:Nat) (l:List Int) (m:List Int) (x_2:Nat) := (andP (some (0+1+Nat.min 10 (IntKind.i64.wrap (m.length:Int)).toNat * 1≤11∧true=true)) (0+(prV7 b d l m x_2).length≤(List.replicate (IntKind.i64.wrap (m.length:Int)).toNat (vi (0:Int))).length∧(prV7 b d l m x_2).all (sc1 11)=true))
noncomputable def prV28 (b:Int) (d:Nat) (l:List Int) (m:List Int) (x_2:Nat) := (andP (some (0+1+Nat.min 10 (IntKind.i64.wrap (m.length:Int)).toNat * 1≤11∧true=true)) (0+(prV7 b d l m x_2).length≤(List.replicate (IntKind.i64.wrap (m.length:Int)).toNat (vi (0:Int))).length∧(prV7 b d l m x_2).all (sc1 10)=true))
noncomputable def prV29  (x_3:Nat) := (0+1+(x_3:Int).toNat * 1)
noncomputable def prV30 (b:Int) (l:List Int) (m:List Int) (x_2:Nat):Prop := (((-1000000:Int)≤(Arg.plain (vi (rAt b l m x_2))).num∧(Arg.plain (vi (rAt b l m x_2))).num≤(1000000:Int))∧(-1000000:Int)≤(Arg.plain (vi (getI (List.map prV4 l) (prV18 m x_2)))).num∧(Arg.plain (vi (getI (List.map prV4 l) (prV18 m x_2)))).num≤(1000000:Int))
noncomputable def prV31  (x_3:Nat) := (3+(x_3:Int).toNat * 1)
noncomputable def prV32  : Prop := (Value.pointer (some { block := (3 : Nat) + (1 : Nat),off := (0 : Nat),spot := none }) = Value.pointer (some { block := (3 : Nat) + (1 : Nat),off := (0 : Nat),spot := none }))
noncomputable def prV33  : Prop := (Value.pointer (some { block := (5 : Nat) + (1 : Nat),off := (0 : Nat),spot := none }) = Value.pointer (some { block := (5 : Nat) + (1 : Nat),off := (0 : Nat),spot := none }))
noncomputable def prV34 (m:List Int):Prop := ((m.length:Int)=(m.length:Int))
noncomputable def prV35  (x_1:Nat × Int × Int) := (0+(x_1.fst:Int).toNat * 1)
noncomputable def prV36  (x_3:Nat) (y:Nat):Prop := (IntKind.i64.wrap ((x_3:Int)+(1:Int))=(y:Int))
noncomputable def prV37 (b:Int) (d:Nat) (l:List Int) (m:List Int):Prop := (AObj.rw (prV9 b d l m) none=AObj.rw (prV9 b d l m) none∧true=true)
noncomputable def prV38  (x:Nat) := (0+(x:Int).toNat * 2)
noncomputable def prV39 (n:Nat):Prop := ((n:Int)=(n:Int))
noncomputable def prV40 (b:Int) (d:Nat) (l:List Int) (m:List Int) (y:Nat):Prop := (AObj.rw (Value.slice (some (ad0 1)) m.length d::I10 empI []) none=AObj.rw (Value.slice (some (ad0 1)) m.length d::I10 (sf b l m y) []) none∧true=true)
noncomputable def prV41 (b:Int) (d:Nat) (l:List Int) (m:List Int) (x_2:Nat):Prop := (IntAt IntKind.i64 (prV1 b d l m x_2) (0+1+(getI (List.map prV4 m) (prV13 x_2)).toNat * 1)∧some 1=some 1)
noncomputable def prV42 (b:Int) (n:Nat) (c:Nat) (l:List Int) (y:Nat) := (vi b::Value.slice (some (ad0 0)) n c::vi (↑(lg b l y):Int)::B10 (tmd y) [])
noncomputable def prV43 (l:List Int) (x_3:Nat) := (ckAsk [CK.i IntKind.i64,CK.i IntKind.i64] (List.map prV4 l) (0+(x_3:Int).toNat * 2))
noncomputable def prV44 (b:Int) (n:Nat) (l:List Int):Bool := (errP b n (intsOf (List.map prV4 l)) !=(0:Int))
noncomputable def prV45  := (Value.tuple { toList := [Value.slice none (0 : Nat) (0 : Nat),vi (16 : Int)] })
noncomputable def prV46  := ((0 : Nat) + (1 : Nat))
noncomputable def prV47 (m:List Int) (x_1:Nat × Int × Int):Bool := (getI (List.map prV4 m) (prV35 x_1)==IntKind.i64.wrap (x_1.snd.fst-(1:Int)))
noncomputable def prV48  := ((0 : Nat) + (2 : Nat))
noncomputable def prV :=
fun (b:Int) (n c d:Nat) (l m:List Int)↦Ob ((true=true∧Flat (List.map prV4 l))∧okL (Leaf.view (List.map prV4 l) n false))∧((prV44 b n l)=true→((prV44 b n l)=true→True∧Ob (finR b n l m (Value.tuple ⟨[Value.slice none 0 0,vi (errP b n (intsOf (List.map prV4 l)))]⟩) [AObj.ro (List.map prV4 l),AObj.ro (List.map prV4 m),AObj.rw [vi b,Value.slice (some (ad0 0)) n c] none,AObj.rw [vi b,Value.slice (some (ad0 0)) n c] none]))∧((prV44 b n l)=false→False))∧((prV44 b n l)=false→(∃ (y:Nat),Ob (y≤n)∧(Ob (AObj.ro (List.map prV4 l)=AObj.ro (List.map (nmap1 fun (bq:Nat)↦bq) (List.map prV4 l))∧AObj.sc 5 (prV24 l)=true)∧Ob (AObj.ro (List.map prV4 m)=AObj.ro (List.map (nmap1 fun (bqq:Nat)↦bqq) (List.map prV4 m))∧AObj.sc 5 (prV25 m)=true)∧Ob (prV2 b n c)∧Ob (prV2 b n c)∧Ob (AObj.rw (vi b::Value.slice (some (ad0 0)) n c::vi (0:Int)::B10 empB []) none=AObj.rw (prV42 b n c l y) none∧true=true)∧True)∧Ob (ptr0 4=ptr0 4)∧Ob (prV19 n c)∧Ob (prV39 n)∧Ob ((0:Int)=(y:Int))∧True)∧∀ (x:Nat),Ob (x≤n)→(decide ((x:Int)<(n:Int))=true→Ob ((0:Int)≤(x:Int)∧(x:Int)<(n:Int)∧true=true)∧Ob (ckAsk [CK.i IntKind.i64,CK.i IntKind.i64] (List.map prV4 l) (prV38 x))∧Ob (0+2≤2)∧Ob ((0:Int)≤(x:Int)∧(x:Int)<(↑(10:Nat):Int))∧Ob (BoolAt (prV3 b n c l x) (prV8 x)∧some 1=some 1)∧Ob (some (vi (getI (List.map prV4 l) (prV38 x)))=some (vi (getI (List.map prV4 l) (prV38 x))))∧Ob (some (vi b)=some (vi b))∧(decide (getI (List.map prV4 l) (prV38 x)<b)=true→Ob (IntAt IntKind.i64 (prV11 b n c l x) prV48∧some 1=some 1)∧∃ (y:Nat),Ob (y≤n)∧Ob (n-y<n-x)∧(Ob (AObj.ro (List.map prV4 l)=AObj.ro (List.map (nmap1 fun (bqqq:Nat)↦bqqq) (List.map prV4 l))∧AObj.sc 5 (prV24 l)=true)∧Ob (AObj.ro (List.map prV4 m)=AObj.ro (List.map (nmap1 fun (bqqqq:Nat)↦bqqqq) (List.map prV4 m))∧AObj.sc 5 (prV25 m)=true)∧Ob (prV2 b n c)∧Ob (prV2 b n c)∧Ob (AObj.rw [vi (bif false then IntKind.i64.wrap ((x:Int)+(1:Int)) else b),Value.slice (some (ad0 0)) n c,vi (bif true then IntKind.i64.wrap ((x:Int)+(1:Int)) else (↑(lg b l x):Int)),Value.bool (bif Nat.beq 3 (prV8 x) then true else tmd x 0),Value.bool (bif Nat.beq 4 (prV8 x) then true else tmd x 1),Value.bool (bif Nat.beq 5 (prV8 x) then true else tmd x 2),Value.bool (bif Nat.beq 6 (prV8 x) then true else tmd x 3),Value.bool (bif Nat.beq 7 (prV8 x) then true else tmd x 4),Value.bool (bif Nat.beq 8 (prV8 x) then true else tmd x 5),Value.bool (bif Nat.beq 9 (prV8 x) then true else tmd x 6),Value.bool (bif Nat.beq 10 (prV8 x) then true else tmd x 7),Value.bool (bif Nat.beq 11 (prV8 x) then true else tmd x 8),Value.bool (bif Nat.beq 12 (prV8 x) then true else tmd x 9)] none=AObj.rw (prV42 b n c l y) none∧true=true)∧True)∧Ob prV32∧Ob (prV19 n c)∧Ob (prV39 n)∧Ob (IntKind.i64.wrap ((x:Int)+(1:Int))=(y:Int))∧True)∧(decide (getI (List.map prV4 l) (prV38 x)<b)=false→∃ (y:Nat),Ob (y≤n)∧Ob (n-y<n-x)∧(Ob (AObj.ro (List.map prV4 l)=AObj.ro (List.map (nmap1 fun (bqqqqq:Nat)↦bqqqqq) (List.map prV4 l))∧AObj.sc 5 (prV24 l)=true)∧Ob (AObj.ro (List.map prV4 m)=AObj.ro (List.map (nmap1 fun (bqqqqqq:Nat)↦bqqqqqq) (List.map prV4 m))∧AObj.sc 5 (prV25 m)=true)∧Ob (prV2 b n c)∧Ob (prV2 b n c)∧Ob (AObj.rw (prV11 b n c l x) none=AObj.rw (prV42 b n c l y) none∧true=true)∧True)∧Ob prV32∧Ob (prV19 n c)∧Ob (prV39 n)∧Ob (IntKind.i64.wrap ((x:Int)+(1:Int))=(y:Int))∧True))∧(decide ((x:Int)<(n:Int))=false→(false=true→True∧Ob (finR b n l m (Value.tuple ⟨[Value.slice none 0 0,vi (0:Int)]⟩) (prV14 b n c l m x)))∧(false=false→(((m.length:Int) !=(n:Int))=true→True∧Ob (finR b n l m (Value.tuple ⟨[Value.slice none 0 0,vi (15:Int)]⟩) (prV14 b n c l m x)))∧(((m.length:Int) !=(n:Int))=false→Ob ((List.take m.length (List.drop 0 (List.map prV4 m))=List.map prV4 (prV23 m)∧0+m.length≤(List.map prV4 m).length∧true=true)∧(prV23 m).length≤1000000∧(0:Int)≤(Arg.plain (vi (n:Int))).num∧(Arg.plain (vi (n:Int))).num≤(10:Int))∧((!dB (apP (Arg.plain (vi (n:Int))).num (prV23 m) (prV23 m).length))=true→True∧Ob (finR b n l m (Value.tuple ⟨[Value.slice none 0 0,vi (2:Int)]⟩) (prV14 b n c l m x)))∧((!dB (apP (Arg.plain (vi (n:Int))).num (prV23 m) (prV23 m).length))=false→Ob (IntAt IntKind.i64 (prV3 b n c l x) prV48)∧Ob (IntAt IntKind.i64 (prV3 b n c l x) prV48)∧(∃ (yq:Nat × Int × Int),Ob (yq.fst≤m.length∧((-1000000:Int)≤yq.snd.fst+(yq.fst:Int)∧yq.snd.fst≤(1000000:Int)∧(0:Int)≤yq.snd.snd∧yq.snd.snd≤(1000000:Int)+(yq.fst:Int))∧rnd yq.snd.fst yq.snd.snd (List.drop yq.fst m)=rnd (↑(lefts b n l):Int) (↑(lefts b n l):Int) m)∧(Ob (AObj.ro (List.map prV4 l)=AObj.ro (List.map (nmap1 fun (bqqqqqqq:Nat)↦bqqqqqqq) (List.map prV4 l))∧AObj.sc 5 (prV24 l)=true)∧Ob (AObj.ro (List.map prV4 m)=AObj.ro (List.map (nmap1 fun (bqqqqqqqq:Nat)↦bqqqqqqqq) (List.map prV4 m))∧AObj.sc 5 (prV25 m)=true)∧Ob (prV2 b n c)∧Ob (prV2 b n c)∧Ob (prV12 b n c l x)∧True)∧Ob (false=false)∧Ob (getI (prV3 b n c l x) prV48=yq.snd.fst)∧Ob (getI (prV3 b n c l x) prV48=yq.snd.snd)∧Ob (prV20 d m)∧Ob (prV34 m)∧Ob ((0:Int)=(yq.fst:Int))∧True)∧∀ (x_1:Nat × Int × Int),Ob (x_1.fst≤m.length∧((-1000000:Int)≤x_1.snd.fst+(x_1.fst:Int)∧x_1.snd.fst≤(1000000:Int)∧(0:Int)≤x_1.snd.snd∧x_1.snd.snd≤(1000000:Int)+(x_1.fst:Int))∧rnd x_1.snd.fst x_1.snd.snd (List.drop x_1.fst m)=rnd (↑(lefts b n l):Int) (↑(lefts b n l):Int) m)→(decide ((x_1.fst:Int)<(m.length:Int))=true→Ob ((0:Int)≤(x_1.fst:Int)∧(x_1.fst:Int)<(m.length:Int)∧true=true)∧Ob (IntAt IntKind.i64 (List.map prV4 m) (prV35 x_1))∧((prV47 m x_1)=true→∃ (yqq:Nat × Int × Int),Ob (yqq.fst≤m.length∧((-1000000:Int)≤yqq.snd.fst+(yqq.fst:Int)∧yqq.snd.fst≤(1000000:Int)∧(0:Int)≤yqq.snd.snd∧yqq.snd.snd≤(1000000:Int)+(yqq.fst:Int))∧rnd yqq.snd.fst yqq.snd.snd (List.drop yqq.fst m)=rnd (↑(lefts b n l):Int) (↑(lefts b n l):Int) m)∧Ob (m.length-yqq.fst<m.length-x_1.fst)∧(Ob (AObj.ro (List.map prV4 l)=AObj.ro (List.map (nmap1 fun (bqqqqqqqqq:Nat)↦bqqqqqqqqq) (List.map prV4 l))∧AObj.sc 5 (prV24 l)=true)∧Ob (AObj.ro (List.map prV4 m)=AObj.ro (List.map (nmap1 fun (bqqqqqqqqqq:Nat)↦bqqqqqqqqqq) (List.map prV4 m))∧AObj.sc 5 (prV25 m)=true)∧Ob (prV2 b n c)∧Ob (prV2 b n c)∧Ob (prV12 b n c l x)∧True)∧Ob (false=false)∧Ob (IntKind.i64.wrap (x_1.snd.fst-(1:Int))=yqq.snd.fst)∧Ob (x_1.snd.snd=yqq.snd.snd)∧Ob (prV20 d m)∧Ob (prV34 m)∧Ob (IntKind.i64.wrap ((x_1.fst:Int)+(1:Int))=(yqq.fst:Int))∧True)∧((prV47 m x_1)=false→((getI (List.map prV4 m) (prV35 x_1)==x_1.snd.snd)=true→∃ (yqqq:Nat × Int × Int),Ob (yqqq.fst≤m.length∧((-1000000:Int)≤yqqq.snd.fst+(yqqq.fst:Int)∧yqqq.snd.fst≤(1000000:Int)∧(0:Int)≤yqqq.snd.snd∧yqqq.snd.snd≤(1000000:Int)+(yqqq.fst:Int))∧rnd yqqq.snd.fst yqqq.snd.snd (List.drop yqqq.fst m)=rnd (↑(lefts b n l):Int) (↑(lefts b n l):Int) m)∧Ob (m.length-yqqq.fst<m.length-x_1.fst)∧(Ob (AObj.ro (List.map prV4 l)=AObj.ro (List.map (nmap1 fun (bqqqqqqqqqqq:Nat)↦bqqqqqqqqqqq) (List.map prV4 l))∧AObj.sc 5 (prV24 l)=true)∧Ob (AObj.ro (List.map prV4 m)=AObj.ro (List.map (nmap1 fun (bqqqqqqqqqqqq:Nat)↦bqqqqqqqqqqqq) (List.map prV4 m))∧AObj.sc 5 (prV25 m)=true)∧Ob (prV2 b n c)∧Ob (prV2 b n c)∧Ob (prV12 b n c l x)∧True)∧Ob (false=false)∧Ob (x_1.snd.fst=yqqq.snd.fst)∧Ob (IntKind.i64.wrap (x_1.snd.snd+(1:Int))=yqqq.snd.snd)∧Ob (prV20 d m)∧Ob (prV34 m)∧Ob (IntKind.i64.wrap ((x_1.fst:Int)+(1:Int))=(yqqq.fst:Int))∧True)∧((getI (List.map prV4 m) (prV35 x_1)==x_1.snd.snd)=false→(true=true→True∧Ob (finR b n l m prV45 (prV14 b n c l m x)))∧(true=false→Ob (0+11≤11)∧Ob (some (vi b)=some (vi b))∧(∃ (y:Nat),Ob (y≤m.length)∧(Ob (AObj.ro (List.map prV4 l)=AObj.ro (List.map (nmap1 fun (bqqqqqqqqqqqqq:Nat)↦bqqqqqqqqqqqqq) (List.map prV4 l))∧AObj.sc 7 (prV24 l)=true)∧Ob (AObj.ro (List.map prV4 m)=AObj.ro (List.map (nmap1 fun (bqqqqqqqqqqqqqq:Nat)↦bqqqqqqqqqqqqqq) (List.map prV4 m))∧AObj.sc 7 (prV25 m)=true)∧Ob (prV2 b n c)∧Ob (prV2 b n c)∧Ob (prV12 b n c l x)∧Ob prV17∧Ob (prV40 b d l m y)∧True)∧Ob prV26∧Ob (ptr0 5=ptr0 5)∧Ob (ptr0 6=ptr0 6)∧Ob (b=rAt b l m y)∧Ob ((0:Int)=rSt b l m y)∧Ob (prV20 d m)∧Ob (prV34 m)∧Ob ((0:Int)=(y:Int))∧True)∧∀ (x_2:Nat),Ob (x_2≤m.length)→(decide ((x_2:Int)<(m.length:Int))=true→Ob ((0:Int)≤(x_2:Int)∧(x_2:Int)<(m.length:Int)∧true=true)∧Ob (IntAt IntKind.i64 (List.map prV4 m) (prV13 x_2))∧Ob ((0:Int)≤getI (List.map prV4 m) (prV13 x_2)∧getI (List.map prV4 m) (prV13 x_2)<(n:Int)∧true=true)∧Ob (IntAt IntKind.i64 (List.map prV4 l) (prV18 m x_2))∧Ob (prV30 b l m x_2)∧Ob ((0:Int)≤getI (List.map prV4 m) (prV13 x_2)∧getI (List.map prV4 m) (prV13 x_2)<(↑(10:Nat):Int))∧Ob (prV41 b d l m x_2)∧∃ (y:Nat),Ob (y≤m.length)∧Ob (m.length-y<m.length-x_2)∧(Ob (AObj.ro (List.map prV4 l)=AObj.ro (List.map (nmap1 fun (bqqqqqqqqqqqqqqq:Nat)↦bqqqqqqqqqqqqqqq) (List.map prV4 l))∧AObj.sc 7 (prV24 l)=true)∧Ob (AObj.ro (List.map prV4 m)=AObj.ro (List.map (nmap1 fun (bqqqqqqqqqqqqqqqq:Nat)↦bqqqqqqqqqqqqqqqq) (List.map prV4 m))∧AObj.sc 7 (prV25 m)=true)∧Ob (prV2 b n c)∧Ob (prV2 b n c)∧Ob (prV12 b n c l x)∧Ob prV17∧Ob (prV5 b d l m x_2 y)∧True)∧Ob (ptr0 4=ptr0 4)∧Ob (ptr0 5=ptr0 5)∧Ob prV33∧Ob (getI (List.map prV4 l) (prV18 m x_2)=rAt b l m y)∧Ob (IntKind.i64.wrap (prV0 b l m x_2)=rSt b l m y)∧Ob (prV20 d m)∧Ob (prV34 m)∧Ob (IntKind.i64.wrap ((x_2:Int)+(1:Int))=(y:Int))∧True)∧(decide ((x_2:Int)<(m.length:Int))=false→Ob (0+11≤11)∧Ob (0+11≤11)∧(∃ (y:Nat),Ob (y≤n∧∀ (i:Nat),i<y→sf b l m m.length i≤tw l i)∧(Ob (AObj.ro (List.map prV4 l)=AObj.ro (List.map (nmap1 fun (bqqqqqqqqqqqqqqqqq:Nat)↦bqqqqqqqqqqqqqqqqq) (List.map prV4 l))∧AObj.sc 9 (prV24 l)=true)∧Ob (AObj.ro (List.map prV4 m)=AObj.ro (List.map (nmap1 fun (bqqqqqqqqqqqqqqqqqq:Nat)↦bqqqqqqqqqqqqqqqqqq) (List.map prV4 m))∧AObj.sc 9 (prV25 m)=true)∧Ob (prV2 b n c)∧Ob (prV2 b n c)∧Ob (prV12 b n c l x)∧Ob (prV10 b d l m x_2)∧Ob (prV10 b d l m x_2)∧Ob (prV10 b d l m x_2)∧Ob (AObj.rw (prV1 b d l m x_2) none=AObj.rw (prV9 b d l m) none∧true=true)∧True)∧Ob prV26∧Ob (ptr0 8=ptr0 8)∧Ob (false=false)∧Ob (prV19 n c)∧Ob (prV39 n)∧Ob ((0:Int)=(y:Int))∧True)∧∀ (x_3:Nat),Ob (x_3≤n∧∀ (i:Nat),i<x_3→sf b l m m.length i≤tw l i)→(decide ((x_3:Int)<(n:Int))=true→Ob ((0:Int)≤(x_3:Int)∧(x_3:Int)<(n:Int)∧true=true)∧Ob (prV43 l x_3)∧Ob (0+2≤2)∧Ob ((0:Int)≤(x_3:Int)∧(x_3:Int)<(↑(10:Nat):Int))∧Ob (BoolAt (prV3 b n c l x) (prV31 x_3))∧(getB (prV3 b n c l x) (prV31 x_3)=true→Ob ((0:Int)≤(x_3:Int)∧(x_3:Int)<(↑(10:Nat):Int))∧Ob (IntAt IntKind.i64 (prV9 b d l m) (prV29 x_3))∧Ob (IntAt IntKind.i64 (prV6 l x_3) prV46)∧(decide (getI (prV6 l x_3) prV46<getI (prV9 b d l m) (prV29 x_3))=true→(true=true→True∧Ob (prV21 b n c d l m x x_2 x_3))∧(true=false→Ob ((0:Int)≤IntKind.i64.wrap (m.length:Int)∧IntKind.i64.wrap (m.length:Int)≤IntKind.i64.wrap (m.length:Int)∧(↑(8:Nat):Int) * IntKind.i64.wrap (m.length:Int)≤(281474976710656:Int))∧Ob (prV27 b d l m x_2)∧True∧Ob (prV15 b n c d l m x x_2 x_3)))∧(decide (getI (prV6 l x_3) prV46<getI (prV9 b d l m) (prV29 x_3))=false→∃ (y:Nat),Ob (y≤n∧∀ (i:Nat),i<y→sf b l m m.length i≤tw l i)∧Ob (n-y<n-x_3)∧(Ob (AObj.ro (List.map prV4 l)=AObj.ro (List.map (nmap1 fun (bqqqqqqqqqqqqqqqqqqq:Nat)↦bqqqqqqqqqqqqqqqqqqq) (List.map prV4 l))∧AObj.sc 9 (prV24 l)=true)∧Ob (AObj.ro (List.map prV4 m)=AObj.ro (List.map (nmap1 fun (bqqqqqqqqqqqqqqqqqqqq:Nat)↦bqqqqqqqqqqqqqqqqqqqq) (List.map prV4 m))∧AObj.sc 9 (prV25 m)=true)∧Ob (prV2 b n c)∧Ob (prV2 b n c)∧Ob (prV12 b n c l x)∧Ob (prV10 b d l m x_2)∧Ob (prV10 b d l m x_2)∧Ob (prV10 b d l m x_2)∧Ob (prV37 b d l m)∧True)∧Ob (ptr0 4=ptr0 4)∧Ob (ptr0 8=ptr0 8)∧Ob (false=false)∧Ob (prV19 n c)∧Ob (prV39 n)∧Ob (prV36 x_3 y)∧True))∧(getB (prV3 b n c l x) (prV31 x_3)=false→∃ (y:Nat),Ob (y≤n∧∀ (i:Nat),i<y→sf b l m m.length i≤tw l i)∧Ob (n-y<n-x_3)∧(Ob (AObj.ro (List.map prV4 l)=AObj.ro (List.map (nmap1 fun (bqqqqqqqqqqqqqqqqqqqqq:Nat)↦bqqqqqqqqqqqqqqqqqqqqq) (List.map prV4 l))∧AObj.sc 9 (prV24 l)=true)∧Ob (AObj.ro (List.map prV4 m)=AObj.ro (List.map (nmap1 fun (bqqqqqqqqqqqqqqqqqqqqqq:Nat)↦bqqqqqqqqqqqqqqqqqqqqqq) (List.map prV4 m))∧AObj.sc 9 (prV25 m)=true)∧Ob (prV2 b n c)∧Ob (prV2 b n c)∧Ob (prV12 b n c l x)∧Ob (prV10 b d l m x_2)∧Ob (prV10 b d l m x_2)∧Ob (prV10 b d l m x_2)∧Ob (prV37 b d l m)∧True)∧Ob (ptr0 4=ptr0 4)∧Ob (ptr0 8=ptr0 8)∧Ob (false=false)∧Ob (prV19 n c)∧Ob (prV39 n)∧Ob (prV36 x_3 y)∧True))∧(decide ((x_3:Int)<(n:Int))=false→(false=true→True∧Ob (prV22 b n c d l m x x_2))∧(false=false→Ob ((0:Int)≤IntKind.i64.wrap (m.length:Int)∧IntKind.i64.wrap (m.length:Int)≤IntKind.i64.wrap (m.length:Int)∧(↑(8:Nat):Int) * IntKind.i64.wrap (m.length:Int)≤(281474976710656:Int))∧Ob (prV28 b d l m x_2)∧True∧Ob (prV16 b n c d l m x x_2))))))))∧(decide ((x_1.fst:Int)<(m.length:Int))=false→(false=true→True∧Ob (finR b n l m prV45 (prV14 b n c l m x)))∧(false=false→Ob (0+11≤11)∧Ob (some (vi b)=some (vi b))∧(∃ (y:Nat),Ob (y≤m.length)∧(Ob (AObj.ro (List.map prV4 l)=AObj.ro (List.map (nmap1 fun (bqqqqqqqqqqqqqqqqqqqqqqq:Nat)↦bqqqqqqqqqqqqqqqqqqqqqqq) (List.map prV4 l))∧AObj.sc 7 (prV24 l)=true)∧Ob (AObj.ro (List.map prV4 m)=AObj.ro (List.map (nmap1 fun (bqqqqqqqqqqqqqqqqqqqqqqqq:Nat)↦bqqqqqqqqqqqqqqqqqqqqqqqq) (List.map prV4 m))∧AObj.sc 7 (prV25 m)=true)∧Ob (prV2 b n c)∧Ob (prV2 b n c)∧Ob (prV12 b n c l x)∧Ob prV17∧Ob (prV40 b d l m y)∧True)∧Ob prV26∧Ob (ptr0 5=ptr0 5)∧Ob (ptr0 6=ptr0 6)∧Ob (b=rAt b l m y)∧Ob ((0:Int)=rSt b l m y)∧Ob (prV20 d m)∧Ob (prV34 m)∧Ob ((0:Int)=(y:Int))∧True)∧∀ (x_2:Nat),Ob (x_2≤m.length)→(decide ((x_2:Int)<(m.length:Int))=true→Ob ((0:Int)≤(x_2:Int)∧(x_2:Int)<(m.length:Int)∧true=true)∧Ob (IntAt IntKind.i64 (List.map prV4 m) (prV13 x_2))∧Ob ((0:Int)≤getI (List.map prV4 m) (prV13 x_2)∧getI (List.map prV4 m) (prV13 x_2)<(n:Int)∧true=true)∧Ob (IntAt IntKind.i64 (List.map prV4 l) (prV18 m x_2))∧Ob (prV30 b l m x_2)∧Ob ((0:Int)≤getI (List.map prV4 m) (prV13 x_2)∧getI (List.map prV4 m) (prV13 x_2)<(↑(10:Nat):Int))∧Ob (prV41 b d l m x_2)∧∃ (y:Nat),Ob (y≤m.length)∧Ob (m.length-y<m.length-x_2)∧(Ob (AObj.ro (List.map prV4 l)=AObj.ro (List.map (nmap1 fun (bqqqqqqqqqqqqqqqqqqqqqqqqq:Nat)↦bqqqqqqqqqqqqqqqqqqqqqqqqq) (List.map prV4 l))∧AObj.sc 7 (prV24 l)=true)∧Ob (AObj.ro (List.map prV4 m)=AObj.ro (List.map (nmap1 fun (bqqqqqqqqqqqqqqqqqqqqqqqqqq:Nat)↦bqqqqqqqqqqqqqqqqqqqqqqqqqq) (List.map prV4 m))∧AObj.sc 7 (prV25 m)=true)∧Ob (prV2 b n c)∧Ob (prV2 b n c)∧Ob (prV12 b n c l x)∧Ob prV17∧Ob (prV5 b d l m x_2 y)∧True)∧Ob (ptr0 4=ptr0 4)∧Ob (ptr0 5=ptr0 5)∧Ob prV33∧Ob (getI (List.map prV4 l) (prV18 m x_2)=rAt b l m y)∧Ob (IntKind.i64.wrap (prV0 b l m x_2)=rSt b l m y)∧Ob (prV20 d m)∧Ob (prV34 m)∧Ob (IntKind.i64.wrap ((x_2:Int)+(1:Int))=(y:Int))∧True)∧(decide ((x_2:Int)<(m.length:Int))=false→Ob (0+11≤11)∧Ob (0+11≤11)∧(∃ (y:Nat),Ob (y≤n∧∀ (i:Nat),i<y→sf b l m m.length i≤tw l i)∧(Ob (AObj.ro (List.map prV4 l)=AObj.ro (List.map (nmap1 fun (bqqqqqqqqqqqqqqqqqqqqqqqqqqq:Nat)↦bqqqqqqqqqqqqqqqqqqqqqqqqqqq) (List.map prV4 l))∧AObj.sc 9 (prV24 l)=true)∧Ob (AObj.ro (List.map prV4 m)=AObj.ro (List.map (nmap1 fun (bqqqqqqqqqqqqqqqqqqqqqqqqqqqq:Nat)↦bqqqqqqqqqqqqqqqqqqqqqqqqqqqq) (List.map prV4 m))∧AObj.sc 9 (prV25 m)=true)∧Ob (prV2 b n c)∧Ob (prV2 b n c)∧Ob (prV12 b n c l x)∧Ob (prV10 b d l m x_2)∧Ob (prV10 b d l m x_2)∧Ob (prV10 b d l m x_2)∧Ob (AObj.rw (prV1 b d l m x_2) none=AObj.rw (prV9 b d l m) none∧true=true)∧True)∧Ob prV26∧Ob (ptr0 8=ptr0 8)∧Ob (false=false)∧Ob (prV19 n c)∧Ob (prV39 n)∧Ob ((0:Int)=(y:Int))∧True)∧∀ (x_3:Nat),Ob (x_3≤n∧∀ (i:Nat),i<x_3→sf b l m m.length i≤tw l i)→(decide ((x_3:Int)<(n:Int))=true→Ob ((0:Int)≤(x_3:Int)∧(x_3:Int)<(n:Int)∧true=true)∧Ob (prV43 l x_3)∧Ob (0+2≤2)∧Ob ((0:Int)≤(x_3:Int)∧(x_3:Int)<(↑(10:Nat):Int))∧Ob (BoolAt (prV3 b n c l x) (prV31 x_3))∧(getB (prV3 b n c l x) (prV31 x_3)=true→Ob ((0:Int)≤(x_3:Int)∧(x_3:Int)<(↑(10:Nat):Int))∧Ob (IntAt IntKind.i64 (prV9 b d l m) (prV29 x_3))∧Ob (IntAt IntKind.i64 (prV6 l x_3) prV46)∧(decide (getI (prV6 l x_3) prV46<getI (prV9 b d l m) (prV29 x_3))=true→(true=true→True∧Ob (prV21 b n c d l m x x_2 x_3))∧(true=false→Ob ((0:Int)≤IntKind.i64.wrap (m.length:Int)∧IntKind.i64.wrap (m.length:Int)≤IntKind.i64.wrap (m.length:Int)∧(↑(8:Nat):Int) * IntKind.i64.wrap (m.length:Int)≤(281474976710656:Int))∧Ob (prV27 b d l m x_2)∧True∧Ob (prV15 b n c d l m x x_2 x_3)))∧(decide (getI (prV6 l x_3) prV46<getI (prV9 b d l m) (prV29 x_3))=false→∃ (y:Nat),Ob (y≤n∧∀ (i:Nat),i<y→sf b l m m.length i≤tw l i)∧Ob (n-y<n-x_3)∧(Ob (AObj.ro (List.map prV4 l)=AObj.ro (List.map (nmap1 fun (bqqqqqqqqqqqqqqqqqqqqqqqqqqqqq:Nat)↦bqqqqqqqqqqqqqqqqqqqqqqqqqqqqq) (List.map prV4 l))∧AObj.sc 9 (prV24 l)=true)∧Ob (AObj.ro (List.map prV4 m)=AObj.ro (List.map (nmap1 fun (bqqqqqqqqqqqqqqqqqqqqqqqqqqqqqq:Nat)↦bqqqqqqqqqqqqqqqqqqqqqqqqqqqqqq) (List.map prV4 m))∧AObj.sc 9 (prV25 m)=true)∧Ob (prV2 b n c)∧Ob (prV2 b n c)∧Ob (prV12 b n c l x)∧Ob (prV10 b d l m x_2)∧Ob (prV10 b d l m x_2)∧Ob (prV10 b d l m x_2)∧Ob (prV37 b d l m)∧True)∧Ob (ptr0 4=ptr0 4)∧Ob (ptr0 8=ptr0 8)∧Ob (false=false)∧Ob (prV19 n c)∧Ob (prV39 n)∧Ob (prV36 x_3 y)∧True))∧(getB (prV3 b n c l x) (prV31 x_3)=false→∃ (y:Nat),Ob (y≤n∧∀ (i:Nat),i<y→sf b l m m.length i≤tw l i)∧Ob (n-y<n-x_3)∧(Ob (AObj.ro (List.map prV4 l)=AObj.ro (List.map (nmap1 fun (bqqqqqqqqqqqqqqqqqqqqqqqqqqqqqqq:Nat)↦bqqqqqqqqqqqqqqqqqqqqqqqqqqqqqqq) (List.map prV4 l))∧AObj.sc 9 (prV24 l)=true)∧Ob (AObj.ro (List.map prV4 m)=AObj.ro (List.map (nmap1 fun (bqqqqqqqqqqqqqqqqqqqqqqqqqqqqqqqq:Nat)↦bqqqqqqqqqqqqqqqqqqqqqqqqqqqqqqqq) (List.map prV4 m))∧AObj.sc 9 (prV25 m)=true)∧Ob (prV2 b n c)∧Ob (prV2 b n c)∧Ob (prV12 b n c l x)∧Ob (prV10 b d l m x_2)∧Ob (prV10 b d l m x_2)∧Ob (prV10 b d l m x_2)∧Ob (prV37 b d l m)∧True)∧Ob (ptr0 4=ptr0 4)∧Ob (ptr0 8=ptr0 8)∧Ob (false=false)∧Ob (prV19 n c)∧Ob (prV39 n)∧Ob (prV36 x_3 y)∧True))∧(decide ((x_3:Int)<(n:Int))=false→(false=true→True∧Ob (prV22 b n c d l m x x_2))∧(false=false→Ob ((0:Int)≤IntKind.i64.wrap (m.length:Int)∧IntKind.i64.wrap (m.length:Int)≤IntKind.i64.wrap (m.length:Int)∧(↑(8:Nat):Int) * IntKind.i64.wrap (m.length:Int)≤(281474976710656:Int))∧Ob (prV28 b d l m x_2)∧True∧Ob (prV16 b n c d l m x x_2)))))))))))
theorem prV_eq : prV = fun (b : Int) (n c d : Nat) (l m : List Int) => vc Try.prog (prE b n c d l m) 2 55 true (fun _ => none) prB [] (argFr 0 [pierV b (some ⟨0,0,none⟩) n c,sl1 m.length d]) [ros l,ros m] (retK Try.prog Try.f19 (finR b n l m)) := by kernel_rfl
theorem tmd_zero : B10 empB [] = B10 (tmd 0) [] := rfl
theorem tmd_step {x a : Nat} : (bif Nat.beq a x then true else tmd x a) = tmd (x + 1) a := by
 unfold tmd
 cases hb : Nat.beq a x with
 | true => have := Nat.eq_of_beq_eq_true hb; subst this; exact (show Nat.blt a (a + 1) = true by rw [Nat.blt_eq]; omega).symm
 | false =>
   have := Nat.ne_of_beq_eq_false hb
   show Nat.blt a x = Nat.blt a (x + 1)
   have e : ∀ y,(Nat.blt a y = true) = (a < y) := fun y => Nat.blt_eq
   rw [Bool.eq_iff_iff,e,e]
   omega
theorem putL_full : ∀ (l : List Value) (v : Value) (a : List Value),putL (a ++ List.replicate l.length v) a.length l = a ++ l
 | [],v,a => by simp [putL]
 | c :: l,v,a => by
   have e : putL (a ++ List.replicate (c :: l).length v) a.length (c :: l) = putL (a ++ c :: List.replicate l.length v) (a.length + 1) l := by
     rw [putL,List.length_cons,List.replicate_succ,List.set_append_right _ _ (Nat.le_refl _),Nat.sub_self,List.set_cons_zero]
   rw [e]
   have := putL_full l v (a ++ [c])
   simpa using this
theorem I10_take {k : Nat} {st : Nat→Int} (h : k≤10) : List.take k (I10 st []) = (outL k st).map (.int .i64) := by
 rcases k with _ | _ | _ | _ | _ | _ | _ | _ | _ | _ | _ | k <;> first | rfl | omega
theorem prV_ok (b : Int) (n c d : Nat) (l m : List Int) (hl : l.length = n * 2) (hn : n≤1000000) (hm : m.length≤1000) : prV b n c d l m := by
 unfold prV prV48 prV47 prV46 prV45 prV44 prV43 prV42 prV41 prV40 prV39 prV38 prV37 prV36 prV35 prV34 prV33 prV32 prV31 prV30 prV29 prV28 prV27 prV26 prV25 prV24 prV23 prV22 prV21 prV20 prV19 prV18 prV17 prV16 prV15 prV14 prV13 prV12 prV11 prV10 prV9 prV8 prV7 prV6 prV5 prV4 prV3 prV2 prV1 prV0
 simp only [SS,reduceCtorEq,Arg.list,Arg.num,Arg.flag,intOf,andP,Nat.reduceLeDiff,Nat.reduceAdd,Nat.reduceMul,Nat.reduceLT,errT,ckAsk,CK.ask,pl_fold,tw_fold,nb1_1,nb1_2,nb1_3,nb1_4,nb1_5,nb1_6,nb1_7,nb1_8,nb1_9,nb1_10,nb3_3,nb3_4,nb3_5,nb3_6,nb3_7,nb3_8,nb3_9,nb3_10,nb3_11,nb3_12,cond_true,cond_false,tmd_step,getI_2b,intAt_2b]
 have fo : Flat (List.map (Value.int .i64) l)∧okL (.view (List.map (Value.int .i64) l) n false) := ⟨flat_ints,okL_ints hl hn⟩
 have finE : ∀ {e : Int} {v : Value} {H : Heap},errR b n l m = e→e ≠ 0→v = errT e→finR b n l m v H := fun h1 h2 h3 => ⟨fun _ => by rw [h3,h1],fun k => absurd (h1.symm.trans k) h2⟩
 refine ⟨fo,fun h1 => ⟨fun _ => finE (errR_p h1) h1 rfl,fun h2 => absurd h2 h1⟩,fun h1 => ?_⟩
 obtain ⟨⟨n1,n2⟩,hr,ho⟩ := errP_cases h1
 refine ⟨⟨0,by omega,⟨rfl,tmd_zero⟩,rfl⟩,fun x hx => ⟨fun h2 => ?_,fun h2 => ?_⟩⟩
 · have hx10 : x < 10 := by omega
   refine ⟨by omega,by omega,by omega,B10_at hx10,fun h3 => ⟨rfl,x + 1,by omega,by omega,⟨?_,rfl⟩,wrap_succ (n := n) (by omega) hn⟩,fun h3 => ⟨x + 1,by omega,by omega,⟨?_,rfl⟩,wrap_succ (n := n) (by omega) hn⟩⟩
   · rw [lg,if_pos h3]; exact wrap_succ (n := n) (by omega) hn
   · rw [lg,if_neg h3]
 have ex : x = n := by omega
 subst ex
 have el : (lg b l x : Int) = lefts b x l := by rw [lg_lefts ho]
 have elg : getI (vi b :: Value.slice (some (ad0 0)) x c :: vi (lg b l x) :: B10 (tmd x) []) 2 = lefts b x l := el
 refine ⟨fun h3 => finE (errR_15 h1 (by omega)) (by decide) rfl,fun h3 => ⟨by omega,fun h4 => finE (errR_2 h1 (by omega) (of_dBf h4)) (by decide) rfl,fun h4 => ⟨rfl,rfl,⟨(0,(lefts b x l : Int),(lefts b x l : Int)),⟨Nat.zero_le _,?_,rfl⟩,elg,elg,rfl⟩,fun ⟨y,f,t⟩ ⟨hy,⟨f1,f2,t1,t2⟩,hj⟩ => ?_⟩⟩⟩
 · have := lefts_le (b := b) (n := x) (l := l)
   simp only []; omega
 simp only [] at hy f1 f2 t1 t2 hj ⊢
 rw [wrap_in (x := f - 1) (by omega) (by omega),wrap_in (x := t + 1) (by omega) (by omega)]
 have hap := of_dB h4
 refine ⟨fun h5 => ?_,fun h5 => ?_⟩
 · rw [drop_cons (by omega)] at hj
   refine ⟨by omega,by omega,fun h6 => ⟨(y + 1,f - 1,t),⟨by simp only []; omega,by simp only []; omega,?_⟩,by simp only []; omega,rfl,rfl,wrap_succ (n := m.length) (by omega) (by omega)⟩,fun h6 => ⟨fun h7 => ⟨(y + 1,f,t + 1),⟨by simp only []; omega,by simp only []; omega,?_⟩,by simp only []; omega,rfl,rfl,wrap_succ (n := m.length) (by omega) (by omega)⟩,fun h7 => finE (errR_16 h1 (by omega) hap ?_) (by decide) rfl⟩⟩
   · rw [← hj,rnd_left h6]
   · rw [← hj,rnd_right h6 h7]
   · rw [← hj,rnd_none h6 h7]
 have hrn : rnd (lefts b x l) (lefts b x l) m = true := by rw [← hj,List.drop_of_length_le (by omega)]; rfl
 have hmx : m.length = x := by omega
 refine ⟨⟨0,Nat.zero_le _,rfl,rfl,rfl,rfl⟩,fun z hz => ⟨fun h6 => ?_,fun h6 => ?_⟩⟩
 · have az := hap.1 z (by omega)
   have a1 := rAt_bd hr hap.1 z (by omega)
   have a2 : 0≤pl l (m.getD z 0).toNat∧pl l (m.getD z 0).toNat≤1000 := rAt_bd hr hap.1 (z + 1) (by omega)
   have s2 := rSt_bd hr hap.1 (z + 1) (by omega)
   have w2 : IntKind.i64.wrap (rSt b l m z + dist (rAt b l m z) (pl l (m.getD z 0).toNat)) = rSt b l m (z + 1) := by
     show IntKind.i64.wrap (rSt b l m (z + 1)) = _
     exact wrap_in (by omega) (by omega)
   rw [w2]
   exact ⟨by omega,by omega,by omega,by omega,by omega,by omega,I10_at (by omega),z + 1,by omega,by omega,rfl,rfl,rfl,wrap_succ (n := m.length) (by omega) (by omega)⟩
 have ez : z = m.length := by omega
 subst ez
 refine ⟨⟨0,⟨Nat.zero_le _,all_none⟩,rfl,rfl⟩,fun y2 ⟨hy2,hj2⟩ => ⟨fun h7 => ?_,fun h7 => ?_⟩⟩
 · have h10 : y2 < 10 := by omega
   rw [I10_getI h10,B10_getB h10]
   refine ⟨by omega,by omega,by omega,B10_at h10,fun h8 => ⟨by omega,I10_at h10,fun h9 => finE (errR_12 h1 hmx hap hrn fun k => ?_) (by decide) rfl,fun h9 => ⟨y2 + 1,⟨by omega,all_snoc hj2 (by omega)⟩,by omega,wrap_succ (n := x) (by omega) hn⟩⟩,fun h8 => absurd h8 ?_⟩
   · have := k y2 (by omega); omega
   · have : tmd x y2 = true := by show Nat.blt y2 x = true; rw [Nat.blt_eq]; omega
     rw [this]; exact Bool.noConfusion
 have wm : IntKind.i64.wrap (m.length : Int) = m.length := wrap_in (by omega) (by omega)
 have hit : inT b x l m := fun i hi => hj2 i (by omega)
 rw [wm,Int.toNat_natCast,show Nat.min 10 m.length = m.length from Nat.min_eq_right (by omega),I10_take (by omega)]
 refine ⟨by omega,⟨by omega,by rw [List.length_map,outL_len,List.length_replicate]; exact Nat.le_refl _,all_sc_int⟩,fun k => absurd (errR_0 h1 hmx hap hrn hit) k,fun _ => ⟨by rw [hmx],?_⟩⟩
 have hp := putL_full (List.map (Value.int .i64) (outL m.length (sf b l m m.length))) (vi 0) []
 rw [List.nil_append,List.nil_append,List.length_map,outL_len,List.length_nil] at hp
 rw [hp,hmx]; rfl
end Go.Pier.Rd
namespace Go.Pier.Rd
open Go Go.Pier Go.Proofs
noncomputable def crO : List Arg3→Option Born
 | [.agg [.plain (.int .i64 b),.view cs n r],.one (.view ds k q)] => some ⟨(okL (.view cs n r)∧okM (.view ds k q))∧k≤1000∧errR b n (intsOf cs) (intsOf ds) = 0,fun a => .tuple #[.slice (some ⟨a,0,none⟩) n n,vi 0],[madeA (outL n (sf b (intsOf cs) (intsOf ds) (intsOf ds).length))]⟩
 | _ => none
theorem errT_sc {e : Int} : sc 0 (errT e) = true := by simp [errT,sc,sc2,sc1,sc0,nilS]
theorem view_ros {ds : List Value} {k : Nat} {q : Bool} (h : okM (.view ds k q)) : (intsOf ds).length = k∧AObj.ro ds = ros (intsOf ds) := ⟨by rw [intsOf,List.length_map]; exact h.2.1,by show AObj.ro ds = .ro ((intsOf ds).map (.int .i64)); rw [← h.1]⟩
theorem view_pier {cs : List Value} {n : Nat} {q : Bool} (h : okL (.view cs n q)) : (intsOf cs).length = n * 2∧n≤1000000∧AObj.ro cs = ros (intsOf cs) := ⟨by rw [intsOf,List.length_map]; exact h.2.1,h.2.2,by show AObj.ro cs = .ro ((intsOf cs).map (.int .i64)); rw [← h.1]⟩
theorem born_pair {p : Prop} {n : Nat} {l : List Int} : Born.Good ⟨p,fun a => .tuple #[.slice (some ⟨a,0,none⟩) n n,vi 0],[madeA l]⟩ where
 plain j o h := by
   cases j with
   | zero => cases h; exact .inr ⟨_,_,rfl,all_sc_int⟩
   | succ j => simp at h
 alike ρ b ρ' c h := by
   obtain ⟨h1,h2,h3⟩ := h 0 (by simp)
   simp only [Nat.add_zero] at h1 h2
   have e : ren2 ρ (.slice (some ⟨b,0,none⟩) n n) = ren2 ρ' (.slice (some ⟨c,0,none⟩) n n) := by
     show Value.slice (some (Ren.adr _ _ _)) n n = Value.slice (some (Ren.adr _ _ _)) n n
     rw [adr_std (std_none rfl),adr_std (std_none rfl)]
     simp only [Ren.addr,h1,h2]
   show Value.tuple (Array.map (ren2 ρ) _) = Value.tuple (Array.map (ren2 ρ') _)
   simp only [List.map_toArray,List.map_cons,List.map_nil,e]
   rfl
 scp n := by
   simp [sc,sc2,sc1,sc0]
theorem inl_four {a b c d : InlE} (h1 : Try.prog.funcs[a.f]? = some a.fn) (h2 : Try.prog.funcs[b.f]? = some b.fn) (h3 : Try.prog.funcs[c.f]? = some c.fn) (h4 : Try.prog.funcs[d.f]? = some d.fn) : ∀ e ∈ [a,b,c,d],Try.prog.funcs[e.f]? = some e.fn := by
 intro e he
 simp only [List.mem_cons,List.not_mem_nil,or_false] at he
 rcases he with rfl | rfl | rfl | rfl <;> assumption
theorem prT_ok : CtOk Try.prog prT := ((CtOk.none.add cpG_ok).add apG_ok).add diG_ok
theorem prE1_ok : VOk Try.prog prE1 := ⟨prT_ok,E0_ok.cc,E0_ok.yc,orcOr_ok orcLd_ok (orcOr_ok orcB_ok (orcOr_ok orcI_ok orcCp_ok))⟩
theorem prE_ok (b : Int) (n c d : Nat) (l m : List Int) : VOk Try.prog (prE b n c d l m) := ⟨prT_ok,ccIn_ok prE1_ok mixed (inl_four Try.func57 Try.func59 Try.func60 Try.func61),E0_ok.yc,prE1_ok.orc⟩
theorem get3_some {H : Heap} {k : Nat} {x y z : AObj} (h : get3 H k = some (x,y,z)) : H[0]? = some x∧H[1]? = some y∧H[k]? = some z := by
 unfold get3 at h
 split at h <;> cases h
 rename_i h1 h2 h3
 exact ⟨h1,h2,h3⟩
theorem pk_v (b : Int) (n c d : Nat) (l m : List Int) (h1 : l.length = n * 2) (h2 : n≤1000000) (h3 : m.length≤1000) (h5 : errR b n l m ≠ 0) : Call Try.prog 19 [pierV b (some ⟨0,0,none⟩) n c,sl1 m.length d] [ros l,ros m] fun v _ => v = errT (errR b n l m) := by
 have h := prV_ok b n c d l m h1 h2 h3
 rw [prV_eq] at h
 exact (Call.ofVc (H := [ros l,ros m]) (args := [pierV b (some ⟨0,0,none⟩) n c,sl1 m.length d]) (prE_ok b n c d l m) mixed (c := prB) Try.func19 (by kernel_rfl) h).mono fun v H' hf => hf.1 h5
theorem pk_o (b : Int) (n c d : Nat) (l m : List Int) (h1 : l.length = n * 2) (h2 : n≤1000000) (h3 : m.length≤1000) (h5 : errR b n l m = 0) : Call Try.prog 19 [pierV b (some ⟨0,0,none⟩) n c,sl1 m.length d] [ros l,ros m] fun v H' => v = .tuple #[.slice (some ⟨2,0,none⟩) n n,vi 0]∧H' = [ros l,ros m,madeA (outL n (sf b l m m.length))] := by
 have h := prV_ok b n c d l m h1 h2 h3
 rw [prV_eq] at h
 have hc := Call.ofVc (H := [ros l,ros m]) (args := [pierV b (some ⟨0,0,none⟩) n c,sl1 m.length d]) (prE_ok b n c d l m) mixed (c := prB) Try.func19 (by kernel_rfl) h
 refine Call.renamed (σ := nsub 2 9) (hc.mono fun v H' hf => ?_)
 obtain ⟨rfl,hg⟩ := hf.2 h5
 obtain ⟨g0,g1,g9⟩ := get3_some hg
 have s9 : sc 3 (Value.tuple #[.slice (some ⟨2,0,none⟩) n n,vi 0]) = true := by simp [sc,sc2,sc1,sc0]
 refine (show objsOk (nsub 2 9) H' 3 0 _∧frsOk (nsub 2 9) _ 3 _ from ⟨?_,?_⟩)
 · have k0 : H'[nsub 2 9 0]? = some (ros l) := g0
   have k1 : H'[nsub 2 9 (0 + 1)]? = some (ros m) := g1
   have k2 : H'[nsub 2 9 (0 + 1 + 1)]? = some (madeA (outL n (sf b l m m.length))) := g9
   unfold ros at k0 k1
   unfold madeA at k2
   simp only [objsOk,ros,madeA,k0,k1,k2,objEq,omap,map_nmap_int,sc_ro_int,sc_rw_int,and_self,and_true,ob_iff]
 · simp only [frsOk,Fr.get,Nat.beq,valEq,s9,and_true]
   exact ⟨by simp [nmap,nmap2,nmap1,nmap0,nsub,am]⟩
end Go.Pier.Rd
namespace Go.Pier.Rd
open Go Go.Pier Go.Proofs
def rds (n : Nat) : Nat→Nat→Nat→List Int→List (List Int)
 | 0,_,_,m => [m]
 | k + 1,f,t,m => (if 0 < f then rds n k (f - 1) t (m ++ [((f - 1 : Nat) : Int)]) else []) ++ (if t < n then rds n k f (t + 1) (m ++ [(t : Int)]) else [])
structure Begun (n f t : Nat) (m : List Int) : Prop where
 len : m.length + f = t
 le : t≤n
 mem : ∀ x ∈ m,(f : Int)≤x∧x < (t : Int)
 nd : m.Nodup
 all : ∀ a : Nat,f≤a→a < t→(a : Int) ∈ m
theorem Begun.left {n f t : Nat} {m : List Int} (h : Begun n f t m) (hf : 0 < f) : Begun n (f - 1) t (m ++ [((f - 1 : Nat) : Int)]) where
 len := by have := h.len; simp only [List.length_append,List.length_cons,List.length_nil]; omega
 le := h.le
 mem x hx := by
   have := h.len
   rcases List.mem_append.1 hx with hx | hx
   · have := h.mem x hx; omega
   · rw [List.mem_singleton.1 hx]; omega
 nd := by
   rw [List.nodup_append]
   refine ⟨h.nd,by simp,fun a ha b hb => ?_⟩
   rw [List.mem_singleton.1 hb]
   have := h.mem a ha; omega
 all a h1 h2 := by
   by_cases e : a = f - 1
   · subst e; exact List.mem_append_right _ List.mem_cons_self
   · exact List.mem_append_left _ (h.all a (by omega) h2)
theorem Begun.right {n f t : Nat} {m : List Int} (h : Begun n f t m) (ht : t < n) : Begun n f (t + 1) (m ++ [(t : Int)]) where
 len := by have := h.len; simp only [List.length_append,List.length_cons,List.length_nil]; omega
 le := ht
 mem x hx := by
   have := h.len
   rcases List.mem_append.1 hx with hx | hx
   · have := h.mem x hx; omega
   · rw [List.mem_singleton.1 hx]; omega
 nd := by
   rw [List.nodup_append]
   refine ⟨h.nd,by simp,fun a ha b hb => ?_⟩
   rw [List.mem_singleton.1 hb]
   have := h.mem a ha; omega
 all a h1 h2 := by
   by_cases e : a = t
   · subst e; exact List.mem_append_right _ List.mem_cons_self
   · exact List.mem_append_left _ (h.all a h1 (by omega))
def Whole (n : Nat) (m : List Int) : Prop := Begun n 0 n m
theorem rds_whole {n : Nat} : ∀ (k f t : Nat) (m : List Int),f + (n - t) = k→Begun n f t m→∀ r ∈ rds n k f t m,Whole n r
 | 0,f,t,m,hk,h,r,hr => by
   have := h.le
   rw [rds,List.mem_singleton] at hr
   subst hr
   have e1 : f = 0 := by omega
   have e2 : t = n := by omega
   subst e1; subst e2; exact h
 | k + 1,f,t,m,hk,h,r,hr => by
   have := h.le
   rw [rds] at hr
   rcases List.mem_append.1 hr with hr | hr
   · split at hr
     · rename_i hf
       exact rds_whole k (f - 1) t _ (by omega) (h.left hf) r hr
     · cases hr
   · split at hr
     · rename_i ht
       exact rds_whole k f (t + 1) _ (by omega) (h.right ht) r hr
     · cases hr
def stp (b : Int) (l m : List Int) : Nat→Int := sf b l m m.length
structure LS where
 no : Bool
 st : Nat→Int
def stepL (g : (Nat→Int)→Bool) (N : (Nat→Int)→Int) (s : LS) (x : Nat→Int) : LS := match g x with
 | true => match s.no || decide (N x < N s.st) with
   | true => ⟨false,x⟩
   | false => s
 | false => s
def foldR (b : Int) (l : List Int) (g : (Nat→Int)→Bool) (N : (Nat→Int)→Int) (s : LS) (r : List (List Int)) : LS := r.foldl (fun s m => stepL g N s (stp b l m)) s
theorem foldR_append {b : Int} {l : List Int} {g : (Nat→Int)→Bool} {N : (Nat→Int)→Int} {s : LS} {r r' : List (List Int)} : foldR b l g N s (r ++ r') = foldR b l g N (foldR b l g N s r) r' := List.foldl_append
end Go.Pier.Rd
namespace Go.Pier
open Go
variable {P : Program} {H : Heap}
structure MapC where
 f : FuncId
 args : List Value
 es : List MapEntry
 ck : Nat
 v : Value
 es2 : List MapEntry
 ck2 : Nat
def entB (es : List MapEntry) : Bool := es.all fun e => sc2 0 e.key && sc2 0 e.val
def MapC.plain (p : MapC) : Bool := p.args.all (sc 0) && (sc 0 p.v && (entB p.es && entB p.es2))
def MapC.Ok (P : Program) (p : MapC) : Prop := Call P p.f (.map (some 0) :: p.args) [.map p.es p.ck] (fun v' H2 => v' = p.v∧H2 = [.map p.es2 p.ck2])∧p.plain = true
theorem MapC.ok_ev {p : MapC} {tbl : Tbl} (ht : TblOk P tbl) {n : Nat} (h : (gcFun (evFunT P (evCT P tbl n none)) p.f (.map (some 0) :: p.args) [.map p.es p.ck]).map (fun r => (r.1,r.2.1)) = some (p.v,[.map p.es2 p.ck2])) (hp : p.plain = true) : p.Ok P := by
 rw [Option.map_eq_some_iff] at h
 obtain ⟨⟨v,H2,l⟩,h1,h2⟩ := h
 cases h2
 exact ⟨(ExactC.ok_ev (p := ⟨p.f,.map (some 0) :: p.args,[.map p.es p.ck],p.v,[.map p.es2 p.ck2],l⟩) ht h1).1,hp⟩
theorem canonA2_vals {caps : Nat→Nat} : ∀ {l : List Value} {i : Nat},canonA2 caps i (l.map Arg2.val) = l
 | [],_ => rfl
 | v :: l,i => by rw [List.map_cons,canonA2,canonA2_vals]
theorem canonH2_vals : ∀ {l : List Value},canonH2 (l.map Arg2.val) = []
 | [] => rfl
 | v :: l => by rw [List.map_cons,canonH2,canonH2_vals]
theorem read_vals {σ : Nat→Nat} {B : List Nat} {m : Nat} : ∀ {l : List Value},l.all (sc 0) = true→ReadA2 H σ B m (l.map Arg2.val) l
 | [],_ => trivial
 | v :: l,h => by
   rw [List.all_cons,Bool.and_eq_true] at h
   exact ⟨(nmap_closed h.1).symm,sc_mono (Nat.zero_le _) h.1,read_vals h.2⟩
theorem omap_ent {σ : Nat→Nat} {es : List MapEntry} {ck : Nat} (h : entB es = true) : omap σ (.map es ck) = .map es ck := by
 simp only [omap]
 have : (es.map fun e => { e with val := nmap2 σ e.val }) = es.map id := List.map_congr_left fun e he => by
   have := List.all_eq_true.1 h e he
   rw [Bool.and_eq_true] at this
   simp only [nmap2_closed this.2,id]
 rw [this,List.map_id]
theorem sc2_up {n : Nat} {v : Value} (h : sc2 0 v = true) : sc2 n v = true := sc2_mono (Nat.zero_le n) h
theorem sc_ent {n : Nat} {es : List MapEntry} {ck : Nat} (h : entB es = true) : AObj.sc n (.map es ck) = true := by
 simp only [AObj.sc]
 refine List.all_eq_true.2 fun e he => ?_
 have := List.all_eq_true.1 h e he
 rw [Bool.and_eq_true] at this ⊢
 exact ⟨this.1,sc2_up this.2⟩
theorem MapC.call {p : MapC} (h : p.Ok P) {r : Nat} (hr : H[r]? = some (.map p.es p.ck)) :
   Call P p.f (.map (some r) :: p.args) H (fun v' H2 => v' = p.v∧H2 = H.set r (.map p.es2 p.ck2))∧Kept H (H.set r (.map p.es2 p.ck2)) [r] := by
 obtain ⟨h,hp⟩ := h
 unfold MapC.plain at hp
 simp only [Bool.and_eq_true] at hp
 obtain ⟨h1,h2,h3,h4⟩ := hp
 have hlt := (List.getElem?_eq_some_iff.1 hr).1
 have := Call.frameL (P := P) (f := p.f) (H := H) (Et := [.map p.es p.ck]) (Ft := [.map p.es2 p.ck2]) (N := []) (L := [r]) (ags := .val (.map (some 0)) :: p.args.map Arg2.val) (vs := .map (some r) :: p.args) (v := p.v) rfl rfl (by simp)
   (fun b hb => by rw [List.mem_singleton.1 hb]; exact hlt)
   (fun c o hc => by
     cases c with
     | zero => cases hc; rw [omap_ent h3]; exact hr
     | succ c => simp at hc)
   (fun o ho => by rw [List.mem_singleton.1 ho]; exact ⟨rfl,sc_ent h3⟩)
   ⟨by simp [nmap,nmap2,nmap1,nmap0],by simp [sc,sc2,sc1,sc0],read_vals h1⟩
   (fun caps => by rw [canonA2,canonA2_vals,canonH2,canonH2_vals]; exact h)
   (fun o ho => by
     rw [List.append_nil] at ho
     rw [List.mem_singleton.1 ho]
     simp only [AObj.nm]
     refine List.all_eq_true.2 fun e he => ?_
     have := List.all_eq_true.1 h4 e he
     rw [Bool.and_eq_true] at this
     exact nm2_closed this.2)
   (fun o ho => by cases ho)
   (nm_closed h2)
   (fun o ho => by
     rw [List.append_nil] at ho
     rw [List.mem_singleton.1 ho,omap_ent h4]
     exact sc_ent h4)
   (by rw [nmap_closed h2]; exact sc_mono (Nat.zero_le _) h2)
 rw [nmap_closed h2,List.map_singleton,omap_ent h4,List.map_nil,List.append_nil] at this
 exact this
end Go.Pier
namespace Go.Pier
open Go
variable {P : Program} {H : Heap} {f : FuncId}
def setG : Heap→Heap→List Nat→Heap→Heap
 | H,e :: E,b :: L,o :: r => match e.wr with
   | true => setG (H.set b o) E L r
   | false => setG H E L r
 | H,_,_,_ => H
theorem setG_length : ∀ (E : Heap) (L : List Nat) (r H : Heap),(setG H E L r).length = H.length
 | [],L,r,H => by cases L <;> cases r <;> rfl
 | e :: E,[],r,H => by cases r <;> rfl
 | e :: E,b :: L,[],H => rfl
 | e :: E,b :: L,o :: r,H => by
   unfold setG
   split
   · rw [setG_length]; simp
   · exact setG_length E L r H
theorem setG_get : ∀ (E : Heap) (L : List Nat) (r H : Heap),L.length = E.length→L.length = r.length→L.Nodup→(∀ b ∈ L,b < H.length) →
   ∀ b,(∀ (c : Nat),L[c]? = some b→(∀ e,E[c]? = some e→e.wr = true)→(setG H E L r)[b]? = r[c]?)∧((∀ (c : Nat),L[c]? = some b→∀ e,E[c]? = some e→e.wr = false)→(setG H E L r)[b]? = H[b]?)
 | [],L,r,H,h0,_,_,_,b => by
   obtain rfl : L = [] := List.eq_nil_of_length_eq_zero h0
   exact ⟨fun c hc => by simp at hc,fun _ => by cases r <;> rfl⟩
 | e :: E,[],r,H,h0,_,_,_,b => by cases h0
 | e :: E,a :: L,[],H,_,h,_,_,b => by cases h
 | e :: E,a :: L,o :: r,H,h0,h,hn,hl,b => by
   obtain ⟨n1,n2⟩ := List.nodup_cons.1 hn
   have hlen : L.length = r.length := by simpa using h
   have hlen0 : L.length = E.length := by simpa using h0
   unfold setG
   split
   · rename_i hw
     have ih := setG_get E L r (H.set a o) hlen0 hlen n2 (fun b hb => by rw [List.length_set]; exact hl b (List.mem_cons_of_mem _ hb)) b
     refine ⟨fun c hc he => ?_,fun hb => ?_⟩
     · cases c with
       | zero =>
         simp only [List.getElem?_cons_zero,Option.some.injEq] at hc
         subst hc
         rw [ih.2 (fun c hc => absurd (List.mem_of_getElem? hc) n1),List.getElem?_set_self (hl _ List.mem_cons_self)]; rfl
       | succ c =>
         simp only [List.getElem?_cons_succ] at hc he ⊢
         exact ih.1 c hc he
     · have hne : a ≠ b := fun e' => by
         have := hb 0 (by rw [e']; rfl) e rfl
         rw [hw] at this; cases this
       rw [ih.2 (fun c hc e' he' => hb (c + 1) hc e' he'),List.getElem?_set_ne hne]
   · rename_i hw
     have ih := setG_get E L r H hlen0 hlen n2 (fun b hb => hl b (List.mem_cons_of_mem _ hb)) b
     refine ⟨fun c hc he => ?_,fun hb => ?_⟩
     · cases c with
       | zero => have := he e rfl; rw [hw] at this; cases this
       | succ c =>
         simp only [List.getElem?_cons_succ] at hc he ⊢
         exact ih.1 c hc he
     · exact ih.2 fun c hc e' he' => hb (c + 1) hc e' he'
theorem Call.frameG {Et Ft N : Heap} {L : List Nat} {args vs : List Value} {v : Value} (hL : L.length = Et.length) (hF : Ft.length = Et.length) (hnd : L.Nodup) (hlt : ∀ b ∈ L,b < H.length)
   (hobj : ∀ (c : Nat) (o : AObj),Et[c]? = some o→o = .gone∨H[L.getD c 0]? = some (omap (fun c => L.getD c 0) o)) (hsc : ∀ o ∈ Et,o.sc Et.length = true)
   (hargs : vs = args.map (nmap fun c => L.getD c 0)) (hsa : args.all (sc Et.length) = true)
   (h : Call P f args Et fun v' F' => v' = v∧F' = Ft ++ N)
   (hnm : ∀ o ∈ Ft ++ N,o.nm (fun d => decide (d < Et.length) || decide (Et.length≤d)) = true) (hro : ∀ o ∈ N,o.isRo = false)
   (hv : nm (fun d => decide (d < Et.length) || decide (Et.length≤d)) v = true)
   (hscp : ∀ o ∈ Ft ++ N,(omap (nameL L Et.length H.length) o).sc (H.length + N.length) = true)
   (hvs : sc (H.length + N.length) (nmap (nameL L Et.length H.length) v) = true) :
   Call P f vs H (fun v' H2 => v' = nmap (nameL L Et.length H.length) v∧H2 = setG H Et L (Ft.map (omap (nameL L Et.length H.length))) ++ N.map (omap (nameL L Et.length H.length))) ∧
   Kept H (setG H Et L (Ft.map (omap (nameL L Et.length H.length))) ++ N.map (omap (nameL L Et.length H.length))) L := by
 generalize hτ : nameL L Et.length H.length = τ at *
 have hlen1 : (setG H Et L (Ft.map (omap τ))).length = H.length := setG_length _ _ _ _
 have hset := setG_get Et L (Ft.map (omap τ)) H hL (by rw [List.length_map,hL,hF]) hnd hlt
 have σlt : ∀ c,c < Et.length→∃ b,L[c]? = some b∧L.getD c 0 = b := fun c hc => ⟨_,List.getElem?_eq_getElem (by omega),natD_of_get (List.getElem?_eq_getElem (by omega))⟩
 have τlt : ∀ c,c < Et.length→τ c = L.getD c 0 := fun c hc => by rw [← hτ]; exact nameL_lt (by omega)
 have hinj : ∀ b b',b < Et.length→b' < Et.length→L.getD b 0 = L.getD b' 0→b = b' := fun b b' hb hb' he => by
   obtain ⟨x,h1,h2⟩ := σlt b hb
   obtain ⟨y,h3,h4⟩ := σlt b' hb'
   rw [h2,h4] at he
   rw [he] at h1
   exact (List.getElem?_inj (i := b) (j := b') (by omega) hnd).1 (by rw [h1,h3])
 constructor
 · refine Call.frame (σ := fun c => L.getD c 0) (B := L) (E := Et) (F := Ft ++ N) (m := Et.length) (τ := τ) (ags := args.map Arg2.val) (C := fun _ => True) (Nat.le_refl _) (fun ρ w R => ?_) (fun caps _ => by rw [canonA2_vals]; exact h) ?_ hv ?_
   · have hB : ∀ b, b < Et.length → L.getD b 0 ∈ L := fun b hb => by
       obtain ⟨x,h1,h2⟩ := σlt b hb
       rw [h2]; exact List.mem_of_getElem? h1
     obtain ⟨ρE,hH⟩ := R.held (σ := fun c => L.getD c 0) (E := Et) (B := L) hobj hinj (fun b o hb => hsc o (List.mem_of_getElem? hb)) hB
     refine ⟨ρE,fun _ => 0,hH,?_,by rw [canonA2_vals]; exact hsa,trivial⟩
     rw [canonA2_vals,hargs,List.map_map]
     refine List.map_congr_left fun u hu => ?_
     have hb := List.all_eq_true.1 hsa u hu
     show ren ρE u = ren ρ (nmap _ u)
     rw [← ren_nmap,ren_agree hH.base hb]
   · refine ⟨?_,by simp; omega,fun c hc => ?_,fun j => ?_,fun b o hb ho => ?_,fun j o ho => ?_,fun c o hc ho => ?_,fun b o hb => ?_⟩
     · simp only [List.length_append,List.length_map,hlen1]; omega
     · obtain ⟨x,h1,h2⟩ := σlt c hc
       exact ⟨by show L.getD c 0 < _; rw [h2]; exact hlt _ (List.mem_of_getElem? h1),τlt c hc⟩
     · rw [← hτ,nameL_ge (by omega)]; omega
     · rw [List.getElem?_append_left (by rw [hlen1]; exact hb)] at ho
       by_cases hm : ∃ c : Nat,L[c]? = some b∧∃ e : AObj,Et[c]? = some e∧e.wr = true
       · obtain ⟨c,hc,oe,he,hw⟩ := hm
         have hcl : c < Et.length := (List.getElem?_eq_some_iff.1 he).1
         rw [(hset b).1 c hc (fun e h1 => by rw [he] at h1; cases h1; exact hw),List.getElem?_map,Option.map_eq_some_iff] at ho
         obtain ⟨o',h1,rfl⟩ := ho
         exact .inr (.inl ⟨c,hcl,by rw [wr_of_get he]; exact hw,natD_of_get hc,o',by rw [List.getElem?_append_left (by omega)]; exact h1,rfl⟩)
       · rw [(hset b).2 (fun c hc e he => by
           cases hw : e.wr with
           | false => rfl
           | true => exact absurd ⟨c,hc,e,he,hw⟩ hm)] at ho
         refine .inr (.inr ⟨ho,fun c hc he => hm ?_⟩)
         obtain ⟨oe,h1,h2⟩ := getWr hc
         have hcl : c < Et.length := (List.getElem?_eq_some_iff.1 h1).1
         obtain ⟨x,h3,h4⟩ := σlt c hcl
         have he' : L.getD c 0 = b := he
         exact ⟨c,by rw [h3,← h4,he'],oe,h1,h2⟩
     · rw [List.getElem?_append_right (by rw [hlen1]; omega),hlen1,List.getElem?_map,Option.map_eq_some_iff] at ho
       obtain ⟨o',h1,rfl⟩ := ho
       rw [show H.length + j - H.length = j by omega] at h1
       refine .inr ⟨o',?_,rfl,hro o' (List.mem_of_getElem? h1)⟩
       rw [List.getElem?_append_right (by omega)]
       rw [show Et.length + j - Ft.length = j by omega]
       exact h1
     · exact hnm o (List.mem_of_getElem? ho)
     · have hl2 : (setG H Et L (Ft.map (omap τ)) ++ N.map (omap τ)).length = H.length + N.length := by simp [hlen1]
       rw [hl2]
       rcases Nat.lt_or_ge b H.length with h1 | h1
       · rw [List.getElem?_append_left (by rw [hlen1]; exact h1)] at hb
         by_cases hm : ∃ c : Nat,L[c]? = some b∧∃ e : AObj,Et[c]? = some e∧e.wr = true
         · obtain ⟨c,hc,oe,he,hw⟩ := hm
           rw [(hset b).1 c hc (fun e h1 => by rw [he] at h1; cases h1; exact hw),List.getElem?_map,Option.map_eq_some_iff] at hb
           obtain ⟨o',h2,rfl⟩ := hb
           exact .inr (hscp o' (List.mem_append_left _ (List.mem_of_getElem? h2)))
         · rw [(hset b).2 (fun c hc e he => by
             cases hw : e.wr with
             | false => rfl
             | true => exact absurd ⟨c,hc,e,he,hw⟩ hm)] at hb
           exact .inl hb
       · rw [List.getElem?_append_right (by rw [hlen1]; exact h1),List.getElem?_map,Option.map_eq_some_iff] at hb
         obtain ⟨o',h2,rfl⟩ := hb
         exact .inr (hscp o' (List.mem_append_right _ (List.mem_of_getElem? h2)))
   · rw [show (setG H Et L (Ft.map (omap τ)) ++ N.map (omap τ)).length = H.length + N.length by simp [hlen1]]
     exact hvs
 · refine ⟨by simp [hlen1],fun b hb hn => ?_⟩
   rw [List.getElem?_append_left (by rw [hlen1]; exact hb),(hset b).2 fun c hc => absurd (List.mem_of_getElem? hc) hn]
theorem setG_same : ∀ (E : Heap) (L : List Nat) (r H : Heap),(∀ (c b : Nat) (e o : AObj),E[c]? = some e→e.wr = true→L[c]? = some b→r[c]? = some o→H[b]? = some o)→setG H E L r = H
 | [],L,r,H,_ => by cases L <;> cases r <;> rfl
 | e :: E,[],r,H,_ => by cases r <;> rfl
 | e :: E,b :: L,[],H,_ => rfl
 | e :: E,b :: L,o :: r,H,h => by
   unfold setG
   have hr : setG H E L r = H := setG_same E L r H fun c b e o h1 h2 h3 h4 => h (c + 1) b e o h1 h2 h3 h4
   split
   · rename_i hw
     have h0 := h 0 b e o rfl hw rfl rfl
     have : H.set b o = H := by
       apply List.ext_getElem?
       intro j
       rw [List.getElem?_set]
       split
       · rename_i e1; subst e1
         rw [if_pos (List.getElem?_eq_some_iff.1 h0).1,h0]
       · rfl
     rw [this,hr]
   · exact hr
theorem Call.frameP {Et : Heap} {L : List Nat} {args vs : List Value} {v : Value} (hL : L.length = Et.length) (hnd : L.Nodup) (hlt : ∀ b ∈ L,b < H.length)
   (hobj : ∀ (c : Nat) (o : AObj),Et[c]? = some o→o = .gone∨H[L.getD c 0]? = some (omap (fun c => L.getD c 0) o)) (hsc : ∀ o ∈ Et,o.sc Et.length = true)
   (hτ : ∀ (c : Nat) (o : AObj),Et[c]? = some o→o.sc (H.length) = true→omap (nameL L Et.length H.length) o = omap (fun c => L.getD c 0) o∧(omap (nameL L Et.length H.length) o).sc H.length = true)
   (hscH : ∀ o ∈ Et,o.sc H.length = true)
   (hargs : vs = args.map (nmap fun c => L.getD c 0)) (hsa : args.all (sc Et.length) = true)
   (h : Call P f args Et fun v' F' => v' = v∧F' = Et)
   (hnm : ∀ o ∈ Et,o.nm (fun d => decide (d < Et.length) || decide (Et.length≤d)) = true)
   (hv : nm (fun d => decide (d < Et.length) || decide (Et.length≤d)) v = true)
   (hvs : sc H.length (nmap (nameL L Et.length H.length) v) = true) :
   Call P f vs H fun v' H2 => v' = nmap (nameL L Et.length H.length) v∧H2 = H := by
 have := (Call.frameG (P := P) (f := f) (H := H) (Et := Et) (Ft := Et) (N := []) (L := L) (args := args) (vs := vs) (v := v) hL rfl hnd hlt hobj hsc hargs hsa (h.mono fun v' F' hh => ⟨hh.1,by rw [hh.2,List.append_nil]⟩)
   (fun o ho => hnm o (by rwa [List.append_nil] at ho)) (fun o ho => by cases ho) hv
   (fun o ho => by
     rw [List.append_nil] at ho
     obtain ⟨c,hc⟩ := List.mem_iff_getElem?.1 ho
     exact (hτ c o hc (hscH o ho)).2) hvs).1
 refine this.mono fun v' H2 hh => ⟨hh.1,?_⟩
 rw [hh.2,List.map_nil,List.append_nil]
 refine setG_same _ _ _ _ fun c b e o h1 h2 h3 h4 => ?_
 rw [List.getElem?_map,h1,Option.map_some,Option.some.injEq] at h4
 subst h4
 rw [(hτ c e h1 (hscH e (List.mem_of_getElem? h1))).1]
 rcases hobj c e h1 with rfl | h5
 · cases h2
 · rw [natD_of_get h3] at h5; exact h5
end Go.Pier
namespace Go.Pier
open Go
variable {P : Program} {ρ : Ren} {H H' : Heap} {w : World}
variable {ct : Ct} {E : VEnv} {N base : Nat} {ρ0 : Ren} {H0 : Heap} {w0 : World} {F : Fr} {a : Act} {D : Dec} {ops : Array Oper} {o : Oper} {i : Nat} {ro : Option Nat}
abbrev Yt := Nat→List Value→Heap→Option (Option Prop × Value × Heap × List Nat)
def YtOk (P : Program) (yt : Yt) : Prop := ∀ b args H φ v H' l,yt b args H = some (φ,v,H',l)→Asks φ→Yield P b args H (fun v' H2 => v' = v∧H2 = H')∧Kept H H' l
variable {yt : Yt}
open Classical in
noncomputable def ctCallY (ct : Ct) (yt : Yt) : CallFn := fun k args H => match k with
 | .fn f => match ct f args H with
   | some (φ,v,H',l) => if Asks φ then some (v,H',l) else none
   | none => none
 | .round b => match yt b args H with
   | some (φ,v,H',l) => if Asks φ then some (v,H',l) else none
   | none => none
theorem ctCallY_ok (hct : CtOk P ct) (hy : YtOk P yt) : CallOk P (ctCallY ct yt) := by
 intro f args H v H' l h
 unfold ctCallY at h
 split at h
 · rename_i f
   split at h
   · rename_i φ v' H1 l' hc
     split at h
     · rename_i hφ
       cases h
       exact hct _ _ _ _ _ _ _ hc hφ
     · cases h
   · cases h
 · rename_i b
   split at h
   · rename_i φ v' H1 l' hc
     split at h
     · rename_i hφ
       cases h
       exact hy _ _ _ _ _ _ _ hc hφ
     · cases h
   · cases h
def sRunY (P : Program) (E : VEnv) (yt : Yt) (o : Oper) (tm : Array Value) (G : Heap) : Option (Option Prop × Value × Heap × List Nat) :=
 match E.orc (aeval tm) G o with
 | some (φ,v,F) => some (some φ,v.getD undef,F,evLog (aeval tm) o)
 | none => match symOp P (aeval tm) G o with
 | some (φ,v,F) => match apLen (aeval tm) o with
   | some (n,m,c) => some (some (andP φ (¬ n + m≤c)),v.getD undef,F,[])
   | none => some (φ,v.getD undef,F,evLog (aeval tm) o)
 | none => match evOp P (aeval tm) G o with
   | some (.enter f args,H1) => E.ct f args H1
   | some _ => none
   | none => match rowOf P (aeval tm) G o with
     | some _ => none
     | none => match yieldOf (aeval tm) o with
       | some (b,args) => yt b args G
       | none => none
theorem sRun_soundY (hE : VOk P E) {tm : Array Value} {G : Heap} {φ : Option Prop} {V : Value} {F : Heap} {l : List Nat} (hw : Region.wanted o (yielded ops tm) = true) (h : sRunY P E yt o tm G = some (φ,V,F,l)) (hφ : Asks φ) :
   runOp P (ctCallY E.ct yt) ops o tm G = some (V,F,l) := by
 unfold sRunY at h
 unfold runOp
 rw [if_pos hw]
 split at h
 · rename_i ψ v F' hs
   simp only [Option.some.injEq,Prod.mk.injEq] at h
   obtain ⟨rfl,rfl,rfl,rfl⟩ := h
   rw [hE.orc _ _ _ _ _ _ hs hφ]
   cases v <;> rfl
 split at h
 · rename_i ψ v F' hs
   split at h
   · rename_i n m c hl
     simp only [Option.some.injEq,Prod.mk.injEq] at h
     obtain ⟨rfl,rfl,rfl,rfl⟩ := h
     obtain ⟨h1,h2⟩ := andP_iff.1 hφ
     rw [symOp_sound hs h1]
     have := apLen_log hl h2
     cases v <;> simp only [outOf,this] <;> rfl
   · simp only [Option.some.injEq,Prod.mk.injEq] at h
     obtain ⟨rfl,rfl,rfl,rfl⟩ := h
     rw [symOp_sound hs hφ]
     cases v <;> rfl
 · split at h
   · rename_i f args H1 he
     rw [he]
     simp only [ctCallY,h,if_pos hφ]
   · cases h
   · rename_i he
     rw [he]
     split at h
     · cases h
     · rename_i hr
       rw [hr]
       split at h
       · rename_i b args hy
         simp only [hy,ctCallY,h,if_pos hφ]
       · cases h
section
variable (P) (E : VEnv) (yt : Yt)
def vdRunY (ops : Array Oper) (ms : List Nat) (i : Nat) (o : Oper) (D : Dec) (s : DSt) (K : Dec→DSt→Prop) : Prop :=
 match symRow P (aeval s.tm) (dSees ops ms i o s) o with
 | some (cs,off,k) => vRowK cs off k (dSees ops ms i o s) fun v H1 => match dAfter P ops ms i o s (v,H1,[]) with
   | some s' => K (dnew D o) s'
   | none => False
 | none => match sRunY P E yt o s.tm (dSees ops ms i o s) with
 | some (φ,r) => match dAfterS P E ops ms i o s r with
   | some (ψ,s') => match φ,ψ with
     | none,none => K (dnew D o) s'
     | some φ,none => Ob φ∧K (dnew D o) s'
     | none,some ψ => Ob ψ∧K (dnew D o) s'
     | some φ,some ψ => Ob φ∧Ob ψ∧K (dnew D o) s'
   | none => False
 | none => False
def vdNotY (ops : Array Oper) (ms : List Nat) (i : Nat) (o : Oper) (D : Dec) (s : DSt) (K : Dec→DSt→Prop) : Prop :=
 match dAfter P ops ms i o s (undef,dSees ops ms i o s,[]) with
 | some s' => K (dput D o.dst) s'
 | none => False
def vdStepY (ops : Array Oper) (ms : List Nat) (i : Nat) (o : Oper) (D : Dec) (s : DSt) (K : Dec→DSt→Prop) : Prop :=
 match o.guard with
 | none => vdRunY P E yt ops ms i o D s K
 | some (j,want) => match (ops[j]?).bind (·.dst) with
   | none => False
   | some d => match s.tm.getD d undef with
     | .bool b => match dget D d with
       | some b' => match b,b' with
         | true,true => match want with | true => vdRunY P E yt ops ms i o D s K | false => vdNotY P ops ms i o D s K
         | false,false => match want with | true => vdNotY P ops ms i o D s K | false => vdRunY P E yt ops ms i o D s K
         | _,_ => False
       | none => (b = want→vdRunY P E yt ops ms i o ((d,want) :: D) { s with tm := s.tm.setIfInBounds d (.bool want) } K)∧(b = (!want)→vdNotY P ops ms i o ((d,!want) :: D) { s with tm := s.tm.setIfInBounds d (.bool (!want)) } K)
     | .tuple _ => vdNotY P ops ms i o D s K
     | _ => False
def vdGoY (ops : Array Oper) (ms : List Nat) : Nat→List Oper→Dec→DSt→(Dec→DSt→Prop)→Prop
 | _,[],D,s,K => K D s
 | i,o :: r,D,s,K => vdStepY P E yt ops ms i o D s fun D s => vdGoY ops ms (i + 1) r D s K
def vDrawY (N : Nat) (ops : Array Oper) (D : Dec) (F : Fr) (H : Heap) (K : Dec→Fr→Heap→Prop) : Prop :=
 match staticOk ops (masks ops) && readsOk F N ops with
 | true => vdGoY P E yt ops (masks ops) 0 ops.toList D { sf := [],recs := [],hides := [],effs := [],Gs := [],G := H,tm := frT N F } fun D s => K D (drawF ops s.tm F) s.G
 | false => False
end
theorem vdRun_soundY (hE : VOk P E) {ms : List Nat} {s : DSt} {K : Dec→DSt→Prop} (hw : Region.wanted o (yielded ops s.tm) = true) (h : vdRunY P E yt ops ms i o D s K) : ∃ s' D',dstep P (ctCallY E.ct yt) ops ms i o s = some s'∧K D' s' := by
 unfold vdRunY at h
 split at h
 · rename_i cs off k hrow
   obtain ⟨v,H1,h1,h2,h3⟩ := symRow_sound hrow h
   split at h3 <;> try (exact h3.elim)
   rename_i s' hs
   refine ⟨s',_,?_,h3⟩
   rw [dstep_eq]
   have : runOp P (ctCallY E.ct yt) ops o s.tm (dSees ops ms i o s) = some (v,H1,[]) := by
     unfold runOp
     rw [if_pos hw,h2]
     simp only [h1]
   rw [this]
   exact hs
 split at h <;> try (exact h.elim)
 rename_i φ r hr
 obtain ⟨V,F,l⟩ := r
 split at h <;> try (exact h.elim)
 rename_i ψ s' hs
 obtain ⟨hφ,hψ,hk⟩ : Asks φ∧Asks ψ∧K (dnew D o) s' := by
   split at h
   · exact ⟨trivial,trivial,h⟩
   · exact ⟨h.1.out,trivial,h.2⟩
   · exact ⟨trivial,h.1.out,h.2⟩
   · exact ⟨h.1.out,h.2.1.out,h.2.2⟩
 have hs := dAfterS_sound hE hs hψ
 refine ⟨s',_,?_,hk⟩
 rw [dstep_eq,sRun_soundY hE hw hr hφ]
 exact hs
theorem vdNot_soundY {ms : List Nat} {s : DSt} {K : Dec→DSt→Prop} (hw : Region.wanted o (yielded ops s.tm) = false) (h : vdNotY P ops ms i o D s K) : ∃ s' D',dstep P (ctCallY E.ct yt) ops ms i o s = some s'∧K D' s' := by
 unfold vdNotY at h
 split at h <;> try (exact h.elim)
 rename_i s' hs
 refine ⟨s',_,?_,h⟩
 rw [dstep_eq]
 have : runOp P (ctCallY E.ct yt) ops o s.tm (dSees ops ms i o s) = some (undef,dSees ops ms i o s,[]) := by
   unfold runOp
   rw [if_neg (by rw [hw]; exact Bool.false_ne_true)]
 rw [this]
 exact hs
theorem vdStep_soundY (hE : VOk P E) {ms : List Nat} {s : DSt} {K : Dec→DSt→Prop} (h : vdStepY P E yt ops ms i o D s K) : ∃ s' D',dstep P (ctCallY E.ct yt) ops ms i o s = some s'∧K D' s' := by
 unfold vdStepY at h
 split at h
 · rename_i hg
   exact vdRun_soundY hE (by simp [Region.wanted,hg]) h
 · rename_i j want hg
   split at h <;> try (exact h.elim)
   rename_i d hd
   split at h
   · rename_i b hb
     have hy : yielded ops s.tm j = some b := by rw [yielded_t hd,hb]
     have hyes : b = want→Region.wanted o (yielded ops s.tm) = true := fun e => by simp [Region.wanted,hg,hy,e]
     have hno : b = (!want)→Region.wanted o (yielded ops s.tm) = false := fun e => by subst e; cases want <;> simp [Region.wanted,hg,hy]
     split at h
     · split at h
       · cases want with
         | true => exact vdRun_soundY hE (hyes rfl) h
         | false => exact vdNot_soundY (hno rfl) h
       · cases want with
         | true => exact vdNot_soundY (hno rfl) h
         | false => exact vdRun_soundY hE (hyes rfl) h
       · exact h.elim
     · by_cases e : b = want
       · have h1 := h.1 e
         rw [set_same (by rw [hb,e]) (by simp [undef])] at h1
         exact vdRun_soundY hE (hyes e) h1
       · have e' : b = !want := by cases b <;> cases want <;> simp_all
         have h1 := h.2 e'
         rw [set_same (by rw [hb,e']) (by simp [undef])] at h1
         exact vdNot_soundY (hno e') h1
   · rename_i vs hb
     have hy : yielded ops s.tm j = none := by rw [yielded_t hd,hb]
     exact vdNot_soundY (by simp [Region.wanted,hg,hy]) h
   · exact h.elim
theorem vdGo_soundY (hE : VOk P E) {ms : List Nat} {K : Dec→DSt→Prop} : ∀ (r : List Oper) (i : Nat) (D : Dec) (s : DSt),vdGoY P E yt ops ms i r D s K→∃ s' D',drun P (ctCallY E.ct yt) ops ms i r s = some s'∧K D' s'
 | [],_,D,s,h => ⟨s,D,rfl,h⟩
 | o :: r,i,D,s,h => by
   obtain ⟨s1,D1,h1,h2⟩ := vdStep_soundY hE (show vdStepY P E yt ops ms i o D s _ from h)
   obtain ⟨s2,D2,h3,h4⟩ := vdGo_soundY hE r (i + 1) D1 s1 h2
   exact ⟨s2,D2,by simp only [drun,h1,Option.bind_some]; exact h3,h4⟩
theorem vDraw_soundY (hE : VOk P E) (hy : YtOk P yt) (hm : P.follows .mixedOrders = true) {n0 id : Nat} {K : AExit→Dec→Fr→Heap→Prop} (h : vDrawY P E yt N ops D F H (K .normal)) : VW n0 N ro P (.region id ops true) H F (fun x F H => ∃ D,K x D F H) := by
 unfold vDrawY at h
 split at h <;> try (exact h.elim)
 rename_i hs
 simp only [Bool.and_eq_true] at hs
 obtain ⟨s',D',h1,h2⟩ := vdGo_soundY hE _ _ _ _ h
 refine VW.draw (ctCallY_ok hE.ct hy) hm (t' := s'.tm) (H' := s'.G) (l := (s'.effs.flatMap (·.T)).filter fun b => decide (b < H.length)) hs.2 ?_ ⟨D',h2⟩
 unfold evDraw
 rw [if_pos hs.1,h1]
 rfl
section
variable (P) (E : VEnv) (yt : Yt) (n0 N : Nat) (top : Bool)
def vcY : (Nat→Option LInv)→Code→Dec→Fr→Heap→KD→Prop
 | _,.skip,D,F,H,K => K .normal D F H
 | _,.label _,D,F,H,K => K .normal D F H
 | _,.exit id,D,F,H,K => K (.exit id) D F H
 | _,.ret,D,F,H,K => K .ret D F H
 | _,.region _ ops false,D,F,H,K => vSeq P E N ops ops.toList D F H (K .normal)
 | _,.region _ ops true,D,F,H,K => vDrawY P E yt N ops D F H (K .normal)
 | inv,.seq a b,D,F,H,K => vcY inv a D F H (thenD (fun D F H => vcY inv b D F H K) K)
 | inv,.cond o a b,D,F,H,K => condV F D o (fun D F => vcY inv a D F H K) (fun D F => vcY inv b D F H K)
 | inv,.block id c,D,F,H,K => match c with
   | .loop b => match inv id with
     | some I => enterS n0 I.σ0 F H 0 I.shapes∧allS (fun i s => ∀ x,Ob (s.ok x)→vcY (s.sub x) b [] (s.F x) (s.H x) (roundD n0 I i (s.μ x) (blockD id K))) 0 I.shapes
     | none => False
   | c => vcY inv c D F H (blockD id K)
 | inv,.scope c,D,F,H,K => vcY inv c D F H K
 | _,.rangeFunc g ps a b,D,F,H,K => match top with
   | true => vRange P E N g ps a b D F H K
   | false => False
 | _,_,_,_,_,_ => False
end
theorem vc_soundY (hct : VOk P E) (hy : YtOk P yt) (hm : P.follows .mixedOrders = true) {n0 : Nat} {ro : Option Nat} : ∀ {inv : Nat→Option LInv} (c : Code) (D : Dec) (F : Fr) (H : Heap) (K : KD),vcY P E yt n0 N (vTop ro) inv c D F H K→VW n0 N ro P c H F (fun x F H => ∃ D,K x D F H)
 | _,.skip,D,F,H,K,h => VW.skip ⟨D,h⟩
 | _,.label _,D,F,H,K,h => VW.label ⟨D,h⟩
 | _,.exit _,D,F,H,K,h => VW.exit ⟨D,h⟩
 | _,.ret,D,F,H,K,h => VW.ret ⟨D,h⟩
 | _,.region id ops false,D,F,H,K,h => fun base ρ0 H0 w0 a w hn hA => by
   refine wpIn_region ?_
   rw [List.range_eq_range',← Array.length_toList]
   exact vSeq_sound hct ops.toList 0 D F H a w rfl h hA fun D F H a w h1 h2 => ⟨.normal,F,H,rfl,⟨D,h1⟩,h2⟩
 | _,.region id ops true,D,F,H,K,h => vDraw_soundY hct hy hm h
 | _, .seq x y, D, F, H, K, h => VW.seq ((vc_soundY hct hy hm x D F H _ h).mono fun e F H ⟨D, h1⟩ => by
     cases e with
     | normal => exact vc_soundY hct hy hm y D F H K h1
     | exit id => exact ⟨D,h1⟩
     | ret => exact ⟨D,h1⟩)
 | _,.cond o x y,D,F,H,K,h => by
   simp only [vcY] at h
   unfold condV at h
   split at h <;> try (exact h.elim)
   rename_i k
   split at h <;> try (exact h.elim)
   rename_i b hb
   split at h
   · split at h
     · exact VW.cond (b := true) hb (vc_soundY hct hy hm x D F H K h)
     · exact VW.cond (b := false) hb (vc_soundY hct hy hm y D F H K h)
     · exact h.elim
   · refine VW.cond (b := b) hb ?_
     intro base ρ0 H0 w0 a w hn hA
     cases b with
     | true => exact vc_soundY hct hy hm x _ _ H K (h.1 rfl) base ρ0 H0 w0 a w hn (hA.learn hb)
     | false => exact vc_soundY hct hy hm y _ _ H K (h.2 rfl) base ρ0 H0 w0 a w hn (hA.learn hb)
 | inv,.block id c,D,F,H,K,h => by
   have hblk : ∀ {F : Fr} {H : Heap},VW n0 N ro P c H F (fun x F H => ∃ D,blockD id K x D F H)→VW n0 N ro P (.block id c) H F (fun x F H => ∃ D,K x D F H) := fun hv =>
     VW.block (hv.mono fun e F H ⟨D,h1⟩ => by
       cases e with
       | normal => exact ⟨D,h1⟩
       | ret => exact ⟨D,h1⟩
       | exit j =>
         simp only [blockD] at h1
         simp only [blockK]
         cases hj : Nat.beq j id with
         | true => rw [hj] at h1; exact ⟨D,h1⟩
         | false => rw [hj] at h1; exact ⟨D,h1⟩)
   refine hblk ?_
   match c,h with
   | .loop b,h =>
     simp only [vcY] at h
     split at h
     · rename_i I _
       obtain ⟨h0,h3⟩ := h
       obtain ⟨i0,s0,x0,h4,h1,h2⟩ := enterS_get h0
       intro base ρ0 H0 w0 a w hn hA
       refine VW.loopInv (I := fun m F H => ∃ (i : Nat) (s : LShape LInv) (x : s.X),I.shapes[i]? = some s∧s.ok x∧F = s.F x∧H = s.H x∧m = s.μ x) (m := s0.μ x0) (fun m F H ⟨i,s,x,k0,k1,k2,k3,k4⟩ => ?_) ⟨i0,s0,x0,h4,h1,rfl,rfl,rfl⟩ base ρ0 H0 w0 a w hn (hA.reach hn h2)
       subst k2; subst k3; subst k4
       intro base ρ0 H0 w0 a w hn hA
       refine wpIn_mono (vc_soundY hct hy hm b [] (s.F x) (s.H x) _ (allS_get h3 k0 x ⟨k1⟩) base ρ0 H0 w0 a w hn hA) ?_
       rintro e a w' ⟨ex,F',H',rfl,⟨D',q1⟩,q2⟩
       cases ex with
       | normal =>
         obtain ⟨i',s',y,τ,q3,q4,q5,q6⟩ := againS_get q1
         exact ⟨.normal,s'.F y,s'.H y,rfl,⟨_,q5,i',s',y,q3,q4,rfl,rfl,rfl⟩,q2.reach hn q6⟩
       | exit j => exact ⟨.exit j,F',H',rfl,⟨D',q1⟩,q2⟩
       | ret => exact ⟨.ret,F',H',rfl,⟨D',q1⟩,q2⟩
     · exact h.elim
   | .skip,h | .label _,h | .exit _,h | .ret,h | .region ..,h | .seq ..,h | .cond ..,h | .block ..,h | .scope _,h | .rangeFunc ..,h | .goto _,h | .refuse _,h =>
     exact vc_soundY (inv := inv) hct hy hm _ D F H (blockD id K) h
 | _,.scope c,D,F,H,K,h => VW.scope (vc_soundY hct hy hm c D F H K (by simpa only [vcY] using h))
 | _,.rangeFunc g ps a b,D,F,H,K,h => by
   simp only [vcY] at h
   cases ro with
   | some l => exact h.elim
   | none => exact vRange_sound hct h
 | _,.loop _,_,_,_,_,h | _,.goto _,_,_,_,_,h | _,.refuse _,_,_,_,_,h => by simp only [vcY] at h
def yBodyY (P : Program) (E : VEnv) (yt : Yt) (n0 N : Nat) (inv : Nat→Option LInv) (b : Nat) (body : Code) (Q : Value→Heap→Prop) : KD := fun x D F1 H1 =>
 match x with
 | .normal => match H1[b]? with
   | some (.loop st pend t p a c) => match st,pend with
     | .ready,none => vcY P E yt n0 N false inv body [] F1 (H1.set b (.loop .busy none t p a c)) fun x _ _ H3 => match H3[b]? with
       | some (.loop st pend t p a c) => match st,pend with
         | .busy,none => Q (.bool (isNormal x)) (H3.set b (roundEnd x t p a c))
         | _,_ => False
       | _ => False
     | _,_ => False
   | _ => False
 | _ => False
def ycInY (P : Program) (E : VEnv) (yt : Yt) (inv : Nat→Option LInv) : Yc := fun b args H => match H[b]? with
 | some (.loop st pend t ps assign body) => match st,pend with
   | .ready,none => match Nat.beq args.length ps.size && allLt t.size ps.toList with
     | true => some fun Q => vcY P E yt H.length t.size false inv assign [] (frPuts (frOf 0 t.toList) (ps.toList.zip args)) H (yBodyY P E yt H.length t.size inv b body Q)
     | false => none
   | _,_ => none
 | _ => none
theorem ycIn_okY {E : VEnv} (hE : VOk P E) (hy : YtOk P yt) (hm : P.follows .mixedOrders = true) {inv : Nat→Option LInv} : YcOk P (ycInY P E yt inv) := fun b args H T h Q hT => by
 unfold ycInY at h
 split at h <;> try (cases h; done)
 rename_i st pend t ps assign body hb
 split at h <;> try (cases h; done)
 split at h <;> cases h
 rename_i hc
 simp only [Bool.and_eq_true] at hc
 refine Yield.ofVW hb (Nat.eq_of_beq_eq_true hc.1) (allLt_ok hc.2) fun l => (vc_soundY hE hy hm (ro := some l) assign [] _ H _ hT).mono ?_
 rintro x F1 H1 ⟨D,hq⟩
 unfold yBodyY at hq
 split at hq <;> try (exact hq.elim)
 split at hq <;> try (exact hq.elim)
 rename_i st1 pend1 t1 p1 a1 c1 hb1
 split at hq <;> try (exact hq.elim)
 refine ⟨rfl,t1,p1,a1,c1,hb1,(vc_soundY hE hy hm (ro := some l) body [] _ _ _ hq).mono ?_⟩
 rintro x F3 H3 ⟨D,hq⟩
 split at hq <;> try (exact hq.elim)
 rename_i st3 pend3 t3 p3 a3 c3 hb3
 split at hq <;> try (exact hq.elim)
 exact ⟨t3,p3,a3,c3,hb3,by rw [← isNormal_eq]; exact hq⟩
theorem Yield.anew {b : Nat} {args : List Value} {R : Value→Heap→Prop} (h : Yield P b args H fun v1 H1 => ∃ σ v2 H2,Anew H.length σ H1 H2∧v1 = nmap σ v2∧sc H2.length v2 = true∧R v2 H2) : Yield P b args H R := fun ρ w RR hs => by
 obtain ⟨fn,tmps,assign,body,h1,h2⟩ := h ρ w RR hs
 refine ⟨fn,tmps,assign,body,h1,h2.mono ?_⟩
 rintro e w' ⟨ρ',v,H',rfl,⟨σ,v2,H2,hN,rfl,hv,hr⟩,R',X,s'⟩
 obtain ⟨ρ2,R2,X2,hag,_⟩ := R'.anew X hN
 exact ⟨ρ2,v2,H2,by rw [← ren_nmap,ren_agree hag hv],hr,R2,X2,hv⟩
end Go.Pier
namespace Go.Pier.Rd
open Go Go.Pier Go.Proofs
def rfC : Code→Option (Array Tmp × Code × Code)
 | .seq a b => match rfC a with | some x => some x | none => rfC b
 | .block _ c => rfC c
 | .scope c => rfC c
 | .rangeFunc _ ps a b => some (ps,a,b)
 | _ => none
def lpO (f : Func) (t : Array Value) (s : LoopState := .ready) : AObj := match f.body with
 | some c => match rfC c with
   | some (ps,a,b) => .loop s none t ps a b
   | none => .gone
 | none => .gone
def yv (b : Nat) : Value := .func (.yield b) #[] #[]
def allF : Value := .func (.func 122) #[] #[ptr0 3,ptr0 4]
def tripsF : Value := .func (.func 123) #[] #[ptr0 2]
def slotV (no : Bool) (k n : Nat) : Value := match no with | true => nilS | false => newS k n
noncomputable def L0 (nv : Value) : AObj := lpO Try.f102 #[allF,nv,junk,ptr0 6,ptr0 7,ptr0 8,ptr0 9,junk,allF,junk,junk,junk,junk,junk,junk,junk,junk,junk,junk,junk,junk,junk]
noncomputable def L1 : AObj := lpO Try.f122 #[yv 10,ptr0 3,ptr0 4,ptr0 11,junk,tripsF,junk,junk,junk,junk,junk,junk,junk,junk,junk,junk]
noncomputable def L2 (s : LoopState) : AObj := lpO Try.f123 #[yv 12,ptr0 2,ptr0 13,junk,ptr0 1,.func (.func 133) #[] #[ptr0 14],junk,junk,junk,junk,junk,junk,junk] s
noncomputable def EH (b : Int) (n c f : Nat) (l : List Int) (nv : Value) (X : AObj) (s : LoopState) (no : Bool) (k : Nat) (st : Nat→Int) : Heap :=
 [ros l,.rw (walkC b n c f (tmd n)) none,.rw [ptr0 1] none,.rw [tripsF] none,.rw [.func (.func 61) #[ptr0 1] #[]] none,X,
  .rw [nv] none,.rw (nilS :: I10 empI []) none,.rw (slotV no k n :: I10 st []) none,.rw [.bool no] none,L0 nv,
  .rw [yv 10] none,L1,.rw [yv 12] none,.rw [ptr0 1] none,L2 s]
noncomputable def inTB (n : Nat) (l : List Int) (x : Nat→Int) : Bool := dB (∀ i,i < n→x i≤tw l i)
end Go.Pier.Rd
