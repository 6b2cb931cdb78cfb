import Derived.Test.YtbmdkgoclijgkaaPierKD2
import Derived.KernelRfl
import Derived.Test.YtbmdkgoclijgkaaPierW
import Derived.Test.YtbmdkgoclijgkaaPierKD1
set_option linter.unusedSimpArgs false
set_option linter.unusedVariables false
namespace Go.Pier.Rd
open Go Go.Pier Go.Proofs
def dist (a b : Int) : Int := if b - a > a - b then b - a else a - b
theorem dist_eq {a b : Int} : dist a b = max (a - b) (b - a) := by unfold dist; split <;> omega
def lf (b : Int) (l : List Int) : Nat→Nat→Nat
 | 0,i => i
 | k + 1,i => if pl l i < b then lf b l k (i + 1) else i
def lefts (b : Int) (n : Nat) (l : List Int) : Nat := lf b l n 0
theorem lf_spec {b : Int} {l : List Int} : ∀ (k i : Nat),i≤lf b l k i∧lf b l k i≤i + k∧(∀ j,i≤j→j < lf b l k i→pl l j < b)∧(lf b l k i < i + k→¬ pl l (lf b l k i) < b)
 | 0,i => ⟨Nat.le_refl _,Nat.le_refl _,fun j h1 h2 => by simp only [lf] at h2; omega,fun h => by simp only [lf] at h; omega⟩
 | k + 1,i => by
   simp only [lf]
   split
   · rename_i hp
     obtain ⟨h1,h2,h3,h4⟩ := lf_spec (b := b) (l := l) k (i + 1)
     refine ⟨by omega,by omega,fun j k1 k2 => ?_,fun h => h4 (by omega)⟩
     by_cases e : j = i
     · subst e; exact hp
     · exact h3 j (by omega) k2
   · rename_i hp
     exact ⟨Nat.le_refl _,by omega,fun j k1 k2 => by omega,fun _ => hp⟩
def lg (b : Int) (l : List Int) : Nat→Nat
 | 0 => 0
 | x + 1 => if pl l x < b then x + 1 else lg b l x
theorem lg_spec {b : Int} {l : List Int} : ∀ (x : Nat),lg b l x≤x∧(0 < lg b l x→pl l (lg b l x - 1) < b)∧∀ j,lg b l x≤j→j < x→¬ pl l j < b
 | 0 => ⟨Nat.le_refl _,fun h => by simp only [lg] at h; omega,fun j h1 h2 => by omega⟩
 | x + 1 => by
   simp only [lg]
   split
   · rename_i hp
     exact ⟨Nat.le_refl _,fun _ => hp,fun j h1 h2 => by omega⟩
   · rename_i hp
     obtain ⟨h1,h2,h3⟩ := lg_spec (b := b) (l := l) x
     refine ⟨by omega,h2,fun j k1 k2 => ?_⟩
     by_cases e : j = x
     · subst e; exact hp
     · exact h3 j k1 (by omega)
theorem ord_lt {b : Int} {n : Nat} {l : List Int} (h : ordP b n l) : ∀ (j i : Nat),i < j→j < n→pl l i < pl l j
 | 0,i,h1,_ => by omega
 | j + 1,i,h1,h2 => by
   have h3 := (h (j + 1) h2).2 (by omega)
   rw [Nat.add_sub_cancel] at h3
   by_cases e : i = j
   · subst e; exact h3
   · have := ord_lt h j i (by omega) (by omega); omega
theorem lg_lefts {b : Int} {n : Nat} {l : List Int} (h : ordP b n l) : lg b l n = lefts b n l := by
 obtain ⟨h1,h2,h3⟩ := lg_spec (b := b) (l := l) n
 obtain ⟨k1,k2,k3,k4⟩ := lf_spec (b := b) (l := l) n 0
 unfold lefts
 generalize lg b l n = x at *
 generalize lf b l n 0 = y at *
 rcases Nat.lt_trichotomy x y with e | e | e
 · exact absurd (k3 x (by omega) e) (h3 x (Nat.le_refl _) (by omega))
 · exact e
 · have a1 := h2 (by omega)
   have a2 := k4 (by omega)
   by_cases e2 : y = x - 1
   · rw [e2] at a2; exact absurd a1 a2
   · have := ord_lt h (x - 1) y (by omega) (by omega); omega
theorem lefts_le {b : Int} {n : Nat} {l : List Int} : lefts b n l≤n := by
 have := (lf_spec (b := b) (l := l) n 0).2.1
 unfold lefts; omega
def apP (n : Int) (m : List Int) (x : Nat) : Prop := (∀ j,j < x→0≤m.getD j 0∧m.getD j 0 < n)∧∀ j,j < x→∀ i,i < j→m.getD i 0 ≠ m.getD j 0
def rnd : Int→Int→List Int→Bool
 | _,_,[] => true
 | f,t,x :: r => if x = f - 1 then rnd (f - 1) t r else if x = t then rnd f (t + 1) r else false
def rAt (b : Int) (l m : List Int) : Nat→Int
 | 0 => b
 | x + 1 => pl l (m.getD x 0).toNat
def rSt (b : Int) (l m : List Int) : Nat→Int
 | 0 => 0
 | x + 1 => rSt b l m x + dist (rAt b l m x) (pl l (m.getD x 0).toNat)
def sf (b : Int) (l m : List Int) : Nat→Nat→Int
 | 0,_ => 0
 | x + 1,a => bif Nat.beq a (m.getD x 0).toNat then rSt b l m (x + 1) else sf b l m x a
def outL (n : Nat) (st : Nat→Int) : List Int := (List.range n).map st
theorem rAt_bd {b : Int} {n : Nat} {l m : List Int} (h : rngP b n l) (ha : ∀ j,j < m.length→0≤m.getD j 0∧m.getD j 0 < n) : ∀ x,x≤m.length→0≤rAt b l m x∧rAt b l m x≤1000
 | 0,_ => h.2
 | x + 1,hx => by
   have := ha x (by omega)
   exact (h.1 (m.getD x 0).toNat (by omega)).1
theorem rSt_bd {b : Int} {n : Nat} {l m : List Int} (h : rngP b n l) (ha : ∀ j,j < m.length→0≤m.getD j 0∧m.getD j 0 < n) : ∀ x,x≤m.length→0≤rSt b l m x∧rSt b l m x≤1000 * x
 | 0,_ => ⟨Int.le_refl _,Int.le_refl _⟩
 | x + 1,hx => by
   have h1 := rSt_bd h ha x (by omega)
   have h2 := rAt_bd h ha x (by omega)
   have h3 := rAt_bd h ha (x + 1) hx
   show 0≤rSt b l m x + dist (rAt b l m x) (rAt b l m (x + 1))∧rSt b l m x + dist (rAt b l m x) (rAt b l m (x + 1))≤_
   rw [dist_eq]
   push_cast
   omega
theorem errP_cases {b : Int} {n : Nat} {l : List Int} (h : errP b n l = 0) : (1≤n∧n≤10)∧rngP b n l∧ordP b n l := by
 unfold errP at h
 split at h
 · cases h
 split at h
 · cases h
 rename_i h1 h2
 split at h
 · cases h
 rename_i h3
 exact ⟨by omega,Classical.not_not.1 h2,Classical.not_not.1 h3⟩
end Go.Pier.Rd
set_option maxRecDepth 100000
namespace Go.Pier.Rd
open Go Go.Pier Go.Proofs
noncomputable def hasN :=
fun (n:Int)↦(∃ (y:Unit),Ob True∧True∧Ob (Value.slice none 0 0=Value.slice none 0 0)∧Ob (n=n)∧Ob (false=false)∧Ob ((0:Int)=(0:Int))∧True)∧∀ (x:Unit),Ob True→(false=true→False)∧(false=false→True∧Ob (Value.bool false=Value.bool false))
end Go.Pier.Rd
namespace Go.Pier.Rd
open Go Go.Pier Go.Proofs
noncomputable def diB : Code := Try.f99.body.getD .skip
noncomputable def faB : Code := Try.f100.body.getD .skip
noncomputable def diV :=
fun (x y:Int)↦True∧Ob (vi (if IntKind.i64.wrap (y-x) > IntKind.i64.wrap (x-y) then IntKind.i64.wrap (y-x) else IntKind.i64.wrap (x-y))=vi (dist x y))
theorem diV_eq : diV = fun (x y : Int) => vc Try.prog {} 0 12 true (fun _ => none) diB [] (argFr 0 [vi x,vi y]) [] (retK Try.prog Try.f99 (fun v _ => v = vi (dist x y))) := by kernel_rfl
noncomputable def faV :=
fun (x y:Int)↦True∧Ob (vi (if IntKind.i64.wrap (y-x) > IntKind.i64.wrap (x-y) then IntKind.i64.wrap (y-x) else IntKind.i64.wrap (x-y))=vi (dist x y))
theorem faV_eq : faV = fun (x y : Int) => vc Try.prog {} 0 12 true (fun _ => none) faB [] (argFr 0 [vi x,vi y]) [] (retK Try.prog Try.f100 (fun v _ => v = vi (dist x y))) := by kernel_rfl
noncomputable def leB : Code := Try.f86.body.getD .skip
def leI (b : Int) (n c : Nat) (l : List Int) : Nat→Option LInv := invOf
 0 (LInv.one Nat (fun i => i≤n∧lf b l (n - i) i = lefts b n l) (fun i => [(1,ptr0 1),(2,vi 0),(3,vi i)]) (fun _ => [ros l,.rw (pierC b (some ⟨0,0,none⟩) n c) none]) (fun i => n - i))
noncomputable def leV :=
fun (b:Int) (n c:Nat) (l:List Int)↦(∃ (y:Nat),Ob (y≤n∧lf b l (n-y) y=lefts b n l)∧(Ob (AObj.ro (List.map (Value.int IntKind.i64) l)=AObj.ro (List.map (nmap1 fun (bq:Nat)↦bq) (List.map (Value.int IntKind.i64) l))∧AObj.sc 2 (AObj.ro (List.map (Value.int IntKind.i64) l))=true)∧Ob (AObj.rw [vi b,Value.slice (some (ad0 0)) n c] none=AObj.rw [vi b,Value.slice (some (ad0 0)) n c] none∧true=true)∧True)∧Ob (ptr0 1=ptr0 1)∧Ob ((0:Int)=(0:Int))∧Ob ((0:Int)=(y:Int))∧True)∧∀ (x:Nat),Ob (x≤n∧lf b l (n-x) x=lefts b n l)→(decide ((x:Int)<(n:Int))=true→Ob ((0:Int)≤(x:Int)∧(x:Int)<(n:Int)∧true=true)∧Ob (IntAt IntKind.i64 (List.map (Value.int IntKind.i64) l) (0+(x:Int).toNat * 2))∧Ob (some (vi b)=some (vi b))∧(decide (getI (List.map (Value.int IntKind.i64) l) (0+(x:Int).toNat * 2)<b)=true→∃ (y:Nat),Ob (y≤n∧lf b l (n-y) y=lefts b n l)∧Ob (n-y<n-x)∧(Ob (AObj.ro (List.map (Value.int IntKind.i64) l)=AObj.ro (List.map (nmap1 fun (bqq:Nat)↦bqq) (List.map (Value.int IntKind.i64) l))∧AObj.sc 2 (AObj.ro (List.map (Value.int IntKind.i64) l))=true)∧Ob (AObj.rw [vi b,Value.slice (some (ad0 0)) n c] none=AObj.rw [vi b,Value.slice (some (ad0 0)) n c] none∧true=true)∧True)∧Ob (ptr0 1=ptr0 1)∧Ob ((0:Int)=(0:Int))∧Ob (IntKind.i64.wrap ((x:Int)+(1:Int))=(y:Int))∧True)∧(decide (getI (List.map (Value.int IntKind.i64) l) (0+(x:Int).toNat * 2)<b)=false→True∧Ob (vi (x:Int)=vi (↑(lefts b n l):Int))))∧(decide ((x:Int)<(n:Int))=false→True∧Ob (vi (x:Int)=vi (↑(lefts b n l):Int)))
theorem leV_eq : leV = fun (b : Int) (n c : Nat) (l : List Int) => vc Try.prog ldE 1 23 true (leI b n c l) leB [] (argFr 0 [pierV b (some ⟨0,0,none⟩) n c]) [ros l] (retK Try.prog Try.f86 (fun v _ => v = vi (lefts b n l))) := by kernel_rfl
noncomputable def apB : Code := Try.f58.body.getD .skip
noncomputable def apE : VEnv := { ct := wiT,orc := orcB Try.prog }
noncomputable def sn (m : List Int) (x : Nat) (a : Nat) : Bool := dB (∃ j,j < x∧m.getD j 0 = (a : Int))
noncomputable def apI (n : Int) (m : List Int) (c : Nat) : Nat→Option LInv := invOf
 0 (LInv.one Nat (fun i => i≤m.length∧apP n m i) (fun i => [(0,vi n),(4,.bool false),(5,ptr0 1),(8,.slice (some ⟨0,0,none⟩) m.length c),(9,vi m.length),(10,vi i)]) (fun i => [ros m,.rw (B10 (sn m i) []) none]) (fun i => m.length - i))
noncomputable def apV0 (n:Int) (m:List Int) (c:Nat) (x:Nat) := (0+(getI (List.map (Value.int IntKind.i64) m) (0+(x:Int).toNat * 1)).toNat * 1)
noncomputable def apV1 (n:Int) (m:List Int) (c:Nat) := (List.map (Value.int IntKind.i64) m)
noncomputable def apV2 (n:Int) (m:List Int) (c:Nat) (x:Nat) := (0+(x:Int).toNat * 1)
noncomputable def apV :=
fun (n:Int) (m:List Int) (c:Nat)↦(∃ (y:Nat),Ob (y≤m.length∧apP n m y)∧(Ob (AObj.ro (apV1 n m c)=AObj.ro (List.map (nmap1 fun (b:Nat)↦b) (apV1 n m c))∧AObj.sc 2 (AObj.ro (apV1 n m c))=true)∧Ob (AObj.rw (B10 empB []) none=AObj.rw (B10 (sn m y) []) none∧true=true)∧True)∧Ob (n=n)∧Ob (false=false)∧Ob (ptr0 1=ptr0 1)∧Ob (Value.slice (some (ad0 0)) m.length c=Value.slice (some (ad0 0)) m.length c)∧Ob ((m.length:Int)=(m.length:Int))∧Ob ((0:Int)=(y:Int))∧True)∧∀ (x:Nat),Ob (x≤m.length∧apP n m x)→(decide ((x:Int)<(m.length:Int))=true→Ob ((0:Int)≤(x:Int)∧(x:Int)<(m.length:Int)∧true=true)∧Ob (IntAt IntKind.i64 (apV1 n m c) (apV2 n m c x))∧Ob (([vi (getI (apV1 n m c) (apV2 n m c x))]=[vi (intOf (vi (getI (apV1 n m c) (apV2 n m c x))))]∧0+1≤1∧true=true)∧1≤1000000)∧((!wiF (Arg.plain (vi (0:Int))).num (Arg.plain (vi (IntKind.i64.wrap (n-(1:Int))))).num [intOf (vi (getI (apV1 n m c) (apV2 n m c x)))])=false→Ob ((0:Int)≤getI (apV1 n m c) (apV2 n m c x)∧getI (apV1 n m c) (apV2 n m c x)<(↑(10:Nat):Int))∧Ob (BoolAt (B10 (sn m x) []) (apV0 n m c x))∧(getB (B10 (sn m x) []) (apV0 n m c x)=true→True∧Ob (Value.bool false=Value.bool (dB (apP n m m.length))))∧(getB (B10 (sn m x) []) (apV0 n m c x)=false→Ob ((0:Int)≤getI (apV1 n m c) (apV2 n m c x)∧getI (apV1 n m c) (apV2 n m c x)<(↑(10:Nat):Int))∧Ob (BoolAt (B10 (sn m x) []) (apV0 n m c x)∧some 1=some 1)∧∃ (y:Nat),Ob (y≤m.length∧apP n m y)∧Ob (m.length-y<m.length-x)∧(Ob (AObj.ro (apV1 n m c)=AObj.ro (List.map (nmap1 fun (b:Nat)↦b) (apV1 n m c))∧AObj.sc 2 (AObj.ro (apV1 n m c))=true)∧Ob (AObj.rw [Value.bool (bif Nat.beq 0 (apV0 n m c x) then true else sn m x 0),Value.bool (bif Nat.beq 1 (apV0 n m c x) then true else sn m x 1),Value.bool (bif Nat.beq 2 (apV0 n m c x) then true else sn m x 2),Value.bool (bif Nat.beq 3 (apV0 n m c x) then true else sn m x 3),Value.bool (bif Nat.beq 4 (apV0 n m c x) then true else sn m x 4),Value.bool (bif Nat.beq 5 (apV0 n m c x) then true else sn m x 5),Value.bool (bif Nat.beq 6 (apV0 n m c x) then true else sn m x 6),Value.bool (bif Nat.beq 7 (apV0 n m c x) then true else sn m x 7),Value.bool (bif Nat.beq 8 (apV0 n m c x) then true else sn m x 8),Value.bool (bif Nat.beq 9 (apV0 n m c x) then true else sn m x 9)] none=AObj.rw (B10 (sn m y) []) none∧true=true)∧True)∧Ob (n=n)∧Ob (false=false)∧Ob (ptr0 1=ptr0 1)∧Ob (Value.slice (some (ad0 0)) m.length c=Value.slice (some (ad0 0)) m.length c)∧Ob ((m.length:Int)=(m.length:Int))∧Ob (IntKind.i64.wrap ((x:Int)+(1:Int))=(y:Int))∧True))∧((!wiF (Arg.plain (vi (0:Int))).num (Arg.plain (vi (IntKind.i64.wrap (n-(1:Int))))).num [intOf (vi (getI (apV1 n m c) (apV2 n m c x)))])=true→True∧Ob (Value.bool false=Value.bool (dB (apP n m m.length)))))∧(decide ((x:Int)<(m.length:Int))=false→True∧Ob (Value.bool true=Value.bool (dB (apP n m m.length))))
theorem apV_eq : apV = fun (n : Int) (m : List Int) (c : Nat) => vc Try.prog apE 1 28 true (apI n m c) apB [] (argFr 0 [vi n,.slice (some ⟨0,0,none⟩) m.length c]) [ros m] (retK Try.prog Try.f58 (fun v _ => v = .bool (dB (apP n m m.length)))) := by kernel_rfl
theorem di_val {x y : Int} (hx : -1000000≤x∧x≤1000000) (hy : -1000000≤y∧y≤1000000) : (if IntKind.i64.wrap (y - x) > IntKind.i64.wrap (x - y) then IntKind.i64.wrap (y - x) else IntKind.i64.wrap (x - y)) = dist x y := by
 rw [wrap_in (x := y - x) (by omega) (by omega),wrap_in (x := x - y) (by omega) (by omega)]; rfl
theorem diV_ok (x y : Int) (hx : -1000000≤x∧x≤1000000) (hy : -1000000≤y∧y≤1000000) : diV x y := by
 unfold diV
 simp only [SS,reduceCtorEq,Arg.list,Arg.num,Arg.flag,intOf,andP,Nat.reduceLeDiff,Nat.reduceAdd,Nat.reduceMul,Nat.reduceLT]
 exact di_val hx hy
theorem faV_ok (x y : Int) (hx : -1000000≤x∧x≤1000000) (hy : -1000000≤y∧y≤1000000) : faV x y := by
 unfold faV
 simp only [SS,reduceCtorEq,Arg.list,Arg.num,Arg.flag,intOf,andP,Nat.reduceLeDiff,Nat.reduceAdd,Nat.reduceMul,Nat.reduceLT]
 exact di_val hx hy
theorem leV_ok (b : Int) (n c : Nat) (l : List Int) (hl : l.length = n * 2) (hn : n≤1000000) : leV b n c l := by
 unfold leV
 simp only [SS,reduceCtorEq,Arg.list,Arg.num,Arg.flag,intOf,andP,Nat.reduceLeDiff,Nat.reduceAdd,Nat.reduceMul,Nat.reduceLT,ckAsk,CK.ask,pl_fold,tw_fold]
 refine ⟨⟨0,⟨by omega,rfl⟩,rfl⟩,fun x ⟨hx,hj⟩ => ⟨fun h1 => ?_,fun h1 => ?_⟩⟩
 · obtain ⟨k,hk⟩ : ∃ k,n - x = k + 1 := ⟨n - x - 1,by omega⟩
   rw [hk,lf] at hj
   refine ⟨by omega,by omega,fun h2 => ?_,fun h2 => ?_⟩
   · rw [if_pos h2] at hj
     exact ⟨x + 1,⟨by omega,by rw [← hj,show n - (x + 1) = k by omega]⟩,by omega,wrap_succ (n := n) (by omega) hn⟩
   · rw [if_neg h2] at hj; rw [hj]
 · rw [show n - x = 0 by omega,lf] at hj; rw [hj]
theorem sn_zero {m : List Int} {a : Nat} : sn m 0 a = false := (dB_false fun ⟨j,h,_⟩ => by omega).symm
theorem sn_step {m : List Int} {x a : Nat} (h : 0≤m.getD x 0) : (bif Nat.beq a (m.getD x 0).toNat then true else sn m x a) = sn m (x + 1) a := by
 by_cases e : a = (m.getD x 0).toNat
 · have : Nat.beq a (m.getD x 0).toNat = true := by rw [e]; exact Nat.beq_refl _
   rw [this]
   exact dB_true ⟨x,by omega,by omega⟩
 · have : Nat.beq a (m.getD x 0).toNat = false := by
     cases hb : Nat.beq a (m.getD x 0).toNat with
     | false => rfl
     | true => exact absurd (Nat.eq_of_beq_eq_true hb) e
   rw [this]
   show sn m x a = sn m (x + 1) a
   unfold sn
   congr 1
   refine propext ⟨fun ⟨j,h1,h2⟩ => ⟨j,by omega,h2⟩,fun ⟨j,h1,h2⟩ => ⟨j,?_,h2⟩⟩
   rcases Nat.lt_or_ge j x with h3 | h3
   · exact h3
   · exfalso; have : j = x := by omega
     subst this; omega
theorem apP_step {n : Int} {m : List Int} {x : Nat} (h : apP n m x) (h1 : 0≤m.getD x 0∧m.getD x 0 < n) (h2 : ∀ i,i < x→m.getD i 0 ≠ m.getD x 0) : apP n m (x + 1) := ⟨all_snoc h.1 h1,all_snoc h.2 h2⟩
theorem apV_ok (n : Int) (m : List Int) (c : Nat) (hm : m.length≤1000000) (hn : 0≤n∧n≤10) : apV n m c := by
 unfold apV apV2 apV1 apV0
 simp only [SS,reduceCtorEq,Arg.list,Arg.num,Arg.flag,intOf,andP,Nat.reduceLeDiff,Nat.reduceAdd,Nat.reduceMul,Nat.reduceLT,wiF_one]
 rw [wrap_in (x := n - 1) (by omega) (by omega)]
 refine ⟨⟨0,⟨by omega,all_none,all_none⟩,?_,rfl⟩,fun x ⟨hx,hj⟩ => ⟨fun h1 => ⟨by omega,by omega,fun h2 => ?_,fun h2 => dB_false fun k => ?_⟩,fun h1 => ?_⟩⟩
 · rw [show sn m 0 = empB from funext fun a => sn_zero]
 · have h10 : (m.getD x 0).toNat < 10 := by omega
   rw [B10_getB0 h10]
   refine ⟨by omega,B10_at0 h10,fun h3 => dB_false fun k => ?_,fun h3 => ⟨by omega,B10_at0 h10,x + 1,⟨by omega,apP_step hj (by omega) fun i hi he => ?_⟩,by omega,?_,wrap_succ (n := m.length) (by omega) hm⟩⟩
   · obtain ⟨j,k1,k2⟩ := of_dB h3
     exact k.2 x (by omega) j k1 (by omega)
   · exact of_dBf h3 ⟨i,hi,by omega⟩
   · simp only [sn_step h2.1]; rfl
 · exact h2 (by have := k.1 x (by omega); omega)
 · rw [show x = m.length by omega] at hj; exact dB_true hj
def diS (r : List Arg) : Prop × Value := match r with
 | [x,y] => ((-1000000≤x.num∧x.num≤1000000)∧-1000000≤y.num∧y.num≤1000000,vi (dist x.num y.num))
 | _ => (False,undef)
theorem diG_ok : ∀ args H φ v H' l,pureG [.int .i64,.int .i64] diS args H = some (φ,v,H',l)→Asks φ→Call Try.prog 99 args H (fun v' H2 => v' = v∧H2 = H')∧Kept H H' l :=
 pureG_ok fun r hk hs => match r,hk with
   | [_,_],⟨⟨x,rfl⟩,⟨y,rfl⟩,_⟩ => ⟨rfl,fun _ => Call.ofVc E0_ok mixed (c := diB) Try.func99 (by kernel_rfl) (cast (congrFun (congrFun diV_eq x) y) (diV_ok x y hs.1 hs.2))⟩
theorem faG_ok : ∀ args H φ v H' l,pureG [.int .i64,.int .i64] diS args H = some (φ,v,H',l)→Asks φ→Call Try.prog 100 args H (fun v' H2 => v' = v∧H2 = H')∧Kept H H' l :=
 pureG_ok fun r hk hs => match r,hk with
   | [_,_],⟨⟨x,rfl⟩,⟨y,rfl⟩,_⟩ => ⟨rfl,fun _ => Call.ofVc E0_ok mixed (c := faB) Try.func100 (by kernel_rfl) (cast (congrFun (congrFun faV_eq x) y) (faV_ok x y hs.1 hs.2))⟩
theorem leG_ok : ∀ args H φ v H' l,pure3 psP (specV fun b n l => vi (lefts b n l)) args H = some (φ,v,H',l)→Asks φ→Call Try.prog 86 args H (fun v' H2 => v' = v∧H2 = H')∧Kept H H' l :=
 specV_ok (fun _ _ _ => rfl) fun b n c l h1 h2 => Call.ofVc ldE_ok mixed (c := leB) (inv := leI b n c l) Try.func86 (by kernel_rfl) (cast (congrFun (congrFun (congrFun (congrFun leV_eq b) n) c) l) (leV_ok b n c l h1 h2))
noncomputable def apS (r : List Arg) : Prop × Value := match r with
 | [n,.ints _ m] => ((m.length≤1000000∧0≤n.num∧n.num≤10),.bool (dB (apP n.num m m.length)))
 | _ => (False,undef)
theorem apE_ok : VOk Try.prog apE := ⟨wiT_ok,E0_ok.cc,E0_ok.yc,orcB_ok⟩
theorem apG_ok : ∀ args H φ v H' l,pureG [.int .i64,.ints .i64] apS args H = some (φ,v,H',l)→Asks φ→Call Try.prog 58 args H (fun v' H2 => v' = v∧H2 = H')∧Kept H H' l :=
 pureG_ok fun r hk hs => match r,hk with
   | [_,_],⟨⟨n,rfl⟩,hl,_⟩ => by
     rcases hl with rfl | ⟨s,rfl⟩ | ⟨m,rfl⟩
     · exact hs.elim
     · exact hs.elim
     · exact ⟨rfl,fun caps => Call.ofVc apE_ok mixed (c := apB) (inv := apI n m _) Try.func58 (by kernel_rfl) (cast (congrFun (congrFun (congrFun apV_eq n) m) _) (apV_ok n m _ hs.1 hs.2))⟩
end Go.Pier.Rd
namespace Go.Pier.Rd
open Go Go.Pier Go.Proofs
noncomputable def rsB : Code := Try.f64.body.getD .skip
def sl0 (n c : Nat) : Value := .slice (some ⟨0,0,none⟩) n c
def sl1 (n c : Nat) : Value := .slice (some ⟨1,0,none⟩) n c
def boxP (b : Int) (n c : Nat) : AObj := .rw (pierC b (some ⟨0,0,none⟩) n c) none
noncomputable def rsE : VEnv := { ct := Ct.none.add 100 (pureG [.int .i64,.int .i64] diS),orc := orcLd Try.prog }
def madeA (l : List Int) : AObj := .rw (l.map (.int .i64)) none
def rsI (b : Int) (n c d : Nat) (l m : List Int) : Nat→Option LInv := invOf
 0 (LInv.one Nat (fun x => x≤m.length) (fun x => [(1,sl1 m.length d),(2,ptr0 2),(4,nilS),(5,.slice (some ⟨3,0,none⟩) m.length m.length),(6,vi (rAt b l m x)),(7,vi (rSt b l m x)),(8,vi x)]) (fun x => [ros l,ros m,boxP b n c,madeA (outL n (sf b l m x))]) (fun x => m.length - x))
noncomputable def rsV0 (b:Int) (n c d:Nat) (l m:List Int) (x:Nat) := (0+(getI (List.map (Value.int IntKind.i64) m) (0+(x:Int).toNat * 1)).toNat * 2)
noncomputable def rsV1 (b:Int) (n c d:Nat) (l m:List Int) := (List.map (Value.int IntKind.i64) m)
noncomputable def rsV2 (b:Int) (n c d:Nat) (l m:List Int) (x:Nat) := (Arg.plain (vi (getI (List.map (Value.int IntKind.i64) l) (rsV0 b n c d l m x))))
noncomputable def rsV3 (b:Int) (n c d:Nat) (l m:List Int) (x:Nat) := (0+(x:Int).toNat * 1)
noncomputable def rsV :=
fun (b:Int) (n c d:Nat) (l m:List Int)↦Ob ((0:Int)≤IntKind.i64.wrap (m.length:Int)∧IntKind.i64.wrap (m.length:Int)≤IntKind.i64.wrap (m.length:Int)∧(↑(8:Nat):Int) * IntKind.i64.wrap (m.length:Int)≤(281474976710656:Int))∧Ob (some (vi b)=some (vi b))∧(∃ (y:Nat),Ob (y≤m.length)∧(Ob (AObj.ro (List.map (Value.int IntKind.i64) l)=AObj.ro (List.map (nmap1 fun (bq:Nat)↦bq) (List.map (Value.int IntKind.i64) l))∧AObj.sc 4 (AObj.ro (List.map (Value.int IntKind.i64) l))=true)∧Ob (AObj.ro (rsV1 b n c d l m)=AObj.ro (List.map (nmap1 fun (bqq:Nat)↦bqq) (rsV1 b n c d l m))∧AObj.sc 4 (AObj.ro (rsV1 b n c d l m))=true)∧Ob (AObj.rw [vi b,Value.slice (some (ad0 0)) n c] none=AObj.rw [vi b,Value.slice (some (ad0 0)) n c] none∧true=true)∧Ob (AObj.rw (List.replicate (IntKind.i64.wrap (m.length:Int)).toNat (vi (0:Int))) none=AObj.rw (List.map (nmap1 fun (bqqq:Nat)↦bqqq) (List.map (Value.int IntKind.i64) (outL n (sf b l m y)))) none∧AObj.sc 4 (AObj.rw (List.map (Value.int IntKind.i64) (outL n (sf b l m y))) none)=true)∧True)∧Ob (Value.slice (some (ad0 1)) m.length d=Value.slice (some (ad0 1)) m.length d)∧Ob (ptr0 2=ptr0 2)∧Ob (Value.slice none 0 0=Value.slice none 0 0)∧Ob (Value.slice (some (ad0 3)) (IntKind.i64.wrap (m.length:Int)).toNat (IntKind.i64.wrap (m.length:Int)).toNat=Value.slice (some (ad0 3)) m.length m.length)∧Ob (b=rAt b l m y)∧Ob ((0:Int)=rSt b l m y)∧Ob ((0:Int)=(y:Int))∧True)∧∀ (x:Nat),Ob (x≤m.length)→(decide ((x:Int)<(m.length:Int))=true→Ob ((0:Int)≤(x:Int)∧(x:Int)<(m.length:Int)∧true=true)∧Ob (IntAt IntKind.i64 (rsV1 b n c d l m) (rsV3 b n c d l m x))∧Ob ((0:Int)≤getI (rsV1 b n c d l m) (rsV3 b n c d l m x)∧getI (rsV1 b n c d l m) (rsV3 b n c d l m x)<(n:Int)∧true=true)∧Ob (IntAt IntKind.i64 (List.map (Value.int IntKind.i64) l) (rsV0 b n c d l m x))∧Ob (((-1000000:Int)≤(Arg.plain (vi (rAt b l m x))).num∧(Arg.plain (vi (rAt b l m x))).num≤(1000000:Int))∧(-1000000:Int)≤(rsV2 b n c d l m x).num∧(rsV2 b n c d l m x).num≤(1000000:Int))∧Ob ((0:Int)≤(x:Int)∧(x:Int)<(m.length:Int)∧true=true)∧Ob (IntAt IntKind.i64 (rsV1 b n c d l m) (rsV3 b n c d l m x))∧Ob ((0:Int)≤getI (rsV1 b n c d l m) (rsV3 b n c d l m x)∧getI (rsV1 b n c d l m) (rsV3 b n c d l m x)<(n:Int)∧true=true)∧Ob (IntAt IntKind.i64 (List.map (Value.int IntKind.i64) l) (rsV0 b n c d l m x))∧Ob ((0:Int)≤(x:Int)∧(x:Int)<(m.length:Int)∧true=true)∧Ob (IntAt IntKind.i64 (rsV1 b n c d l m) (rsV3 b n c d l m x))∧Ob ((0:Int)≤getI (rsV1 b n c d l m) (rsV3 b n c d l m x)∧getI (rsV1 b n c d l m) (rsV3 b n c d l m x)<(m.length:Int)∧true=true)∧Ob (0+(getI (rsV1 b n c d l m) (rsV3 b n c d l m x)).toNat * 1+1≤(List.map (Value.int IntKind.i64) (outL n (sf b l m x))).length)∧∃ (y:Nat),Ob (y≤m.length)∧Ob (m.length-y<m.length-x)∧(Ob (AObj.ro (List.map (Value.int IntKind.i64) l)=AObj.ro (List.map (nmap1 fun (bqqqq:Nat)↦bqqqq) (List.map (Value.int IntKind.i64) l))∧AObj.sc 4 (AObj.ro (List.map (Value.int IntKind.i64) l))=true)∧Ob (AObj.ro (rsV1 b n c d l m)=AObj.ro (List.map (nmap1 fun (bqqqqq:Nat)↦bqqqqq) (rsV1 b n c d l m))∧AObj.sc 4 (AObj.ro (rsV1 b n c d l m))=true)∧Ob (AObj.rw [vi b,Value.slice (some (ad0 0)) n c] none=AObj.rw [vi b,Value.slice (some (ad0 0)) n c] none∧true=true)∧Ob (AObj.rw (putL (List.map (Value.int IntKind.i64) (outL n (sf b l m x))) (0+(getI (rsV1 b n c d l m) (rsV3 b n c d l m x)).toNat * 1) [vi (IntKind.i64.wrap (rSt b l m x+dist (Arg.plain (vi (rAt b l m x))).num (rsV2 b n c d l m x).num))]) none=AObj.rw (List.map (nmap1 fun (bqqqqqq:Nat)↦bqqqqqq) (List.map (Value.int IntKind.i64) (outL n (sf b l m y)))) none∧AObj.sc 4 (AObj.rw (List.map (Value.int IntKind.i64) (outL n (sf b l m y))) none)=true)∧True)∧Ob (Value.slice (some (ad0 1)) m.length d=Value.slice (some (ad0 1)) m.length d)∧Ob (ptr0 2=ptr0 2)∧Ob (Value.slice none 0 0=Value.slice none 0 0)∧Ob (Value.slice (some (ad0 3)) m.length m.length=Value.slice (some (ad0 3)) m.length m.length)∧Ob (getI (List.map (Value.int IntKind.i64) l) (rsV0 b n c d l m x)=rAt b l m y)∧Ob (IntKind.i64.wrap (rSt b l m x+dist (Arg.plain (vi (rAt b l m x))).num (rsV2 b n c d l m x).num)=rSt b l m y)∧Ob (IntKind.i64.wrap ((x:Int)+(1:Int))=(y:Int))∧True)∧(decide ((x:Int)<(m.length:Int))=false→(Ob (AObj.ro (List.map (Value.int IntKind.i64) l)=AObj.ro (List.map (nmap1 (nsub 2 3)) (List.map (Value.int IntKind.i64) l))∧AObj.sc 3 (AObj.ro (List.map (Value.int IntKind.i64) l))=true)∧Ob (AObj.ro (rsV1 b n c d l m)=AObj.ro (List.map (nmap1 (nsub 2 3)) (rsV1 b n c d l m))∧AObj.sc 3 (AObj.ro (rsV1 b n c d l m))=true)∧Ob (AObj.rw (List.map (Value.int IntKind.i64) (outL n (sf b l m x))) none=AObj.rw (List.map (nmap1 (nsub 2 3)) (List.map (Value.int IntKind.i64) (outL n (sf b l m m.length)))) none∧AObj.sc 3 (AObj.rw (List.map (Value.int IntKind.i64) (outL n (sf b l m m.length))) none)=true)∧True)∧Ob (Value.slice (some (ad0 3)) m.length m.length=Value.slice (some (ad0 3)) n n)∧True)
theorem rsV_eq : rsV = fun (b : Int) (n c d : Nat) (l m : List Int) => vc Try.prog rsE 2 50 true (rsI b n c d l m) rsB [] (argFr 0 [pierV b (some ⟨0,0,none⟩) n c,sl1 m.length d]) [ros l,ros m] (retR Try.prog Try.f64 2 (nsub 2 3) (.slice (some ⟨2,0,none⟩) n n) [ros l,ros m,madeA (outL n (sf b l m m.length))]) := by kernel_rfl
theorem outL_len {n : Nat} {st : Nat→Int} : (outL n st).length = n := by rw [outL,List.length_map,List.length_range]
theorem outL_zero {n : Nat} {b : Int} {l m : List Int} : List.replicate n (vi 0) = List.map (Value.int .i64) (outL n (sf b l m 0)) := by
 refine List.ext_getElem? fun i => ?_
 rw [List.getElem?_map,outL,List.getElem?_map,List.getElem?_replicate]
 by_cases h : i < n
 · rw [if_pos h,List.getElem?_range h]; rfl
 · rw [if_neg h,List.getElem?_eq_none (by simpa using h)]; rfl
theorem outL_set {n x : Nat} {b v : Int} {l m : List Int} (hv : v = rSt b l m (x + 1)) : (outL n (sf b l m x)).set (m.getD x 0).toNat v = outL n (sf b l m (x + 1)) := by
 refine List.ext_getElem? fun i => ?_
 rw [List.getElem?_set,outL,outL,List.getElem?_map,List.getElem?_map,List.length_map,List.length_range]
 by_cases hi : i < n
 · rw [List.getElem?_range hi,Option.map_some,Option.map_some]
   by_cases e : (m.getD x 0).toNat = i
   · rw [if_pos e,if_pos (by omega),hv]
     congr 1
     rw [sf,← e,Nat.beq_refl]; rfl
   · rw [if_neg e]
     congr 1
     have : Nat.beq i (m.getD x 0).toNat = false := by
       cases hb : Nat.beq i (m.getD x 0).toNat with
       | false => rfl
       | true => exact absurd (Nat.eq_of_beq_eq_true hb).symm e
     rw [sf,this]; rfl
 · rw [List.getElem?_eq_none (by simpa using hi),Option.map_none,Option.map_none]
   split
   · rename_i h; rw [if_neg (by omega)]
   · rfl
theorem rsV_ok (b : Int) (n c d : Nat) (l m : List Int) (hl : l.length = n * 2) (hr : rngP b n l) (hn : n≤10) (hm : m.length = n) (ha : ∀ j,j < m.length→0≤m.getD j 0∧m.getD j 0 < n) : rsV b n c d l m := by
 unfold rsV rsV3 rsV2 rsV1 rsV0
 simp only [SS,reduceCtorEq,Arg.list,Arg.num,Arg.flag,intOf,andP,Nat.reduceLeDiff,Nat.reduceAdd,Nat.reduceMul,Nat.reduceLT,ckAsk,CK.ask,pl_fold,tw_fold,madeA,putL_int]
 have wm : IntKind.i64.wrap (m.length : Int) = m.length := wrap_in (by omega) (by omega)
 rw [wm]
 refine ⟨by omega,⟨0,by omega,?_,⟨by omega,by omega⟩,rfl,rfl,rfl⟩,fun x hx => ⟨fun h1 => ?_,fun h1 => ?_⟩⟩
 · rw [Int.toNat_natCast,hm]; exact outL_zero
 · have ax := ha x (by omega)
   have a1 := rAt_bd hr ha x (by omega)
   have a2 := rAt_bd hr ha (x + 1) (by omega)
   have s2 := rSt_bd hr ha (x + 1) (by omega)
   have w2 : IntKind.i64.wrap (rSt b l m x + dist (rAt b l m x) (pl l (m.getD x 0).toNat)) = rSt b l m (x + 1) := by
     show IntKind.i64.wrap (rSt b l m (x + 1)) = _
     exact wrap_in (by omega) (by omega)
   have a2' : 0≤pl l (m.getD x 0).toNat∧pl l (m.getD x 0).toNat≤1000 := a2
   rw [w2,outL_len]
   exact ⟨by omega,by omega,by omega,by omega,by omega,by omega,by omega,by omega,by omega,by omega,by omega,by omega,by omega,x + 1,by omega,by omega,by rw [outL_set rfl],rfl,rfl,wrap_succ (n := m.length) (by omega) (by omega)⟩
 · rw [show x = m.length by omega]; exact ⟨rfl,hm,hm⟩
def okM : Leaf→Prop
 | .view cs k _ => cs = (intsOf cs).map (.int .i64)∧cs.length = k∧k≤1000000
 | _ => True
theorem okM_ints {l : List Int} {r : Bool} (h2 : l.length≤1000000) : okM (.view (l.map (.int .i64)) l.length r) := ⟨by rw [intsOf_map],by rw [List.length_map],h2⟩
theorem kinds_pl {r : List Arg3} (h : kinds3 psPL r) : ∃ b lf lm,r = [.agg [.plain (.int .i64 b),lf],.one lm]∧(lf = .plain (.slice none 0 0)∨(∃ s,lf = .hole s)∨∃ cs n,lf = .view cs n false)∧(lm = .plain (.slice none 0 0)∨(∃ s,lm = .hole s)∨∃ cs n,lm = .view cs n false) := by
 match r,h with
 | [.agg [x,y],.one z],⟨⟨h1,h2,_⟩,h3,_⟩ =>
   obtain ⟨b,rfl⟩ := h1
   exact ⟨b,y,z,rfl,h2,h3⟩
def specW (G : Int→Nat→List Int→List Int→Prop) (F : Int→Nat→List Int→List Int→Value) : List Arg3→Option (Prop × Value)
 | [.agg [.plain (.int .i64 b),.view cs n r],.one (.view ds k q)] => some ((okL (.view cs n r)∧okM (.view ds k q))∧G b n (intsOf cs) (intsOf ds),F b n (intsOf cs) (intsOf ds))
 | _ => none
theorem specW_ok {f : FuncId} {G : Int→Nat→List Int→List Int→Prop} {F : Int→Nat→List Int→List Int→Value} (hv : ∀ b n l m,sc 0 (F b n l m) = true)
   (hV : ∀ b n c d l m,l.length = n * 2→n≤1000000→m.length≤1000000→G b n l m→Call Try.prog f [pierV b (some ⟨0,0,none⟩) n c,sl1 m.length d] [ros l,ros m] fun v _ => v = F b n l m) :
   ∀ args H φ v H' l,pure3 psPL (specW G F) args H = some (φ,v,H',l)→Asks φ→Call Try.prog f args H (fun v' H2 => v' = v∧H2 = H')∧Kept H H' l :=
 pure3_ok fun r ψ v hk hs hψ => by
   obtain ⟨b,lf,lm,rfl,hl,hm⟩ := kinds_pl hk
   rcases hl with rfl | ⟨s,rfl⟩ | ⟨cs,n,rfl⟩
   · cases hs
   · cases hs
   rcases hm with rfl | ⟨s,rfl⟩ | ⟨ds,k,rfl⟩
   · cases hs
   · cases hs
   · cases hs
     refine ⟨hv _ _ _ _,fun caps _ => ?_⟩
     obtain ⟨⟨⟨h1,h2,h3⟩,k1,k2,k3⟩,hg⟩ := hψ
     have e1 : (intsOf ds).length = k := by rw [intsOf,List.length_map]; exact k2
     have h4 := hV b n (caps 0) (caps 1) (intsOf cs) (intsOf ds) (by rw [← h2,intsOf,List.length_map]) h3 (by omega) hg
     rw [e1] at h4
     have e : canonH3 [.agg [.plain (.int .i64 b),.view cs n false],.one (.view ds k false)] = [ros (intsOf cs),ros (intsOf ds)] := by
       show [AObj.ro cs,AObj.ro ds] = [.ro ((intsOf cs).map (.int .i64)),.ro ((intsOf ds).map (.int .i64))]
       rw [← h1,← k1]
     rw [e]
     exact h4
theorem rsE_ok : VOk Try.prog rsE := ⟨CtOk.none.add faG_ok,E0_ok.cc,E0_ok.yc,orcLd_ok⟩
def stG (b : Int) (n : Nat) (l m : List Int) : Prop := (rngP b n l∧n≤10)∧m.length = n∧∀ j,j < m.length→0≤m.getD j 0∧m.getD j 0 < n
def rsS : List Arg3→Option Born
 | [.agg [.plain (.int .i64 b),.view cs n r],.one (.view ds k q)] => some ⟨(okL (.view cs n r)∧okM (.view ds k q))∧stG b n (intsOf cs) (intsOf ds),fun a => .slice (some ⟨a,0,none⟩) n n,[madeA (outL n (sf b (intsOf cs) (intsOf ds) (intsOf ds).length))]⟩
 | _ => none
theorem born_list {p : Prop} {n : Nat} {l : List Int} : Born.Good ⟨p,fun a => .slice (some ⟨a,0,none⟩) n n,[madeA l]⟩ where
 plain j o h := by
   cases j with
   | zero => cases h; exact .inr ⟨_,_,rfl,all_sc_int⟩
   | succ j => simp at h
 alike ρ b ρ' c h := by
   obtain ⟨h1,h2,h3⟩ := h 0 (by simp)
   simp only [Nat.add_zero] at h1 h2
   show Value.slice (some (Ren.adr _ _ _)) n n = Value.slice (some (Ren.adr _ _ _)) n n
   rw [adr_std (std_none rfl),adr_std (std_none rfl)]
   simp only [Ren.addr,h1,h2]
 scp n := by
   show decide (n < n + 1) = true
   simp
theorem rsG_ok : ∀ args H φ v H' l,born3 psPL rsS args H = some (φ,v,H',l)→Asks φ→Call Try.prog 64 args H (fun v' H2 => v' = v∧H2 = H')∧Kept H H' l :=
 born3_ok fun r s hk hs hψ => by
   obtain ⟨b,lf,lm,rfl,hl,hm⟩ := kinds_pl hk
   rcases hl with rfl | ⟨s,rfl⟩ | ⟨cs,n,rfl⟩
   · cases hs
   · cases hs
   rcases hm with rfl | ⟨s,rfl⟩ | ⟨ds,k,rfl⟩
   · cases hs
   · cases hs
   · cases hs
     refine ⟨born_list,fun caps _ => ?_⟩
     obtain ⟨⟨⟨h1,h2,h3⟩,k1,k2,k3⟩,⟨g1,g2⟩,g3,g4⟩ := hψ
     have e1 : (intsOf ds).length = k := by rw [intsOf,List.length_map]; exact k2
     have h := rsV_ok b n (caps 0) (caps 1) (intsOf cs) (intsOf ds) (by rw [← h2,intsOf,List.length_map]) g1 g2 g3 g4
     rw [rsV_eq] at h
     have h5 : Call Try.prog 64 [pierV b (some ⟨0,0,none⟩) n (caps 0),sl1 (intsOf ds).length (caps 1)] [ros (intsOf cs),ros (intsOf ds)] (fun v H' => v = .slice (some ⟨2,0,none⟩) n n∧H' = [ros (intsOf cs),ros (intsOf ds),madeA (outL n (sf b (intsOf cs) (intsOf ds) (intsOf ds).length))]) := Call.ofVcR rsE_ok mixed (c := rsB) (inv := rsI b n (caps 0) (caps 1) (intsOf cs) (intsOf ds)) Try.func64 (by kernel_rfl) h
     rw [e1] at h5
     have e : canonH3 [.agg [.plain (.int .i64 b),.view cs n false],.one (.view ds k false)] = [ros (intsOf cs),ros (intsOf ds)] := by
       show [AObj.ro cs,AObj.ro ds] = [.ro ((intsOf cs).map (.int .i64)),.ro ((intsOf ds).map (.int .i64))]
       rw [← h1,← k1]
     rw [e,e1]
     exact h5
end Go.Pier.Rd
namespace Go.Pier.Rd
open Go Go.Pier Go.Proofs
def errT (e : Int) : Value := .tuple #[nilS,vi e]
theorem outL_get {n i : Nat} {st : Nat→Int} (h : i < n) : (outL n st).getD i 0 = st i := by
 rw [outL,List.getD_eq_getElem?_getD,List.getElem?_map,List.getElem?_range h]; rfl
end Go.Pier.Rd
namespace Go.Pier.Rd
open Go Go.Pier Go.Proofs
noncomputable def prT : Ct := ((Ct.none.add 21 (pureP (fun b n l => vi (errP b n l)) (vi 6))).add 58 (pureG [.int .i64,.ints .i64] apS)).add 99 (pureG [.int .i64,.int .i64] diS)
noncomputable def prO : Orc := orcOr (orcLd Try.prog) (orcOr (orcB Try.prog) (orcOr (orcI Try.prog) (orcCp Try.prog)))
noncomputable def prE1 : VEnv := { ct := prT,orc := prO }
def walkC (b : Int) (n c : Nat) (lf : Int) (tm : Nat→Bool) : List Value := vi b :: sl0 n c :: vi lf :: B10 tm []
def tmd (x : Nat) (a : Nat) : Bool := Nat.blt a x
def inv57 (b : Int) (n c : Nat) (l : List Int) : List Value→Heap→Nat→Option LInv := fun _ H => invOf
 0 (LInv.one Nat (fun x => x≤n) (fun x => [(5,ptr0 (H.length + 1)),(20,sl0 n c),(21,vi n),(22,vi x)]) (fun x => H ++ [boxP b n c,.rw (walkC b n c (lg b l x) (tmd x)) none]) (fun x => n - x))
theorem tmd_zero : B10 empB [] = B10 (tmd 0) [] := rfl
theorem tmd_step {x a : Nat} : (bif Nat.beq a x then true else tmd x a) = tmd (x + 1) a := by
 unfold tmd
 cases hb : Nat.beq a x with
 | true => have := Nat.eq_of_beq_eq_true hb; subst this; exact (show Nat.blt a (a + 1) = true by rw [Nat.blt_eq]; omega).symm
 | false =>
   have := Nat.ne_of_beq_eq_false hb
   show Nat.blt a x = Nat.blt a (x + 1)
   have e : ∀ y,(Nat.blt a y = true) = (a < y) := fun y => Nat.blt_eq
   rw [Bool.eq_iff_iff,e,e]
   omega
end Go.Pier.Rd
namespace Go.Pier.Rd
open Go Go.Pier Go.Proofs
theorem prT_ok : CtOk Try.prog prT := ((CtOk.none.add cpG_ok).add apG_ok).add diG_ok
theorem prE1_ok : VOk Try.prog prE1 := ⟨prT_ok,E0_ok.cc,E0_ok.yc,orcOr_ok orcLd_ok (orcOr_ok orcB_ok (orcOr_ok orcI_ok orcCp_ok))⟩
end Go.Pier.Rd
namespace Go.Pier.Rd
open Go Go.Pier Go.Proofs
def rds (n : Nat) : Nat→Nat→Nat→List Int→List (List Int)
 | 0,_,_,m => [m]
 | k + 1,f,t,m => (if 0 < f then rds n k (f - 1) t (m ++ [((f - 1 : Nat) : Int)]) else []) ++ (if t < n then rds n k f (t + 1) (m ++ [(t : Int)]) else [])
structure Begun (n f t : Nat) (m : List Int) : Prop where
 len : m.length + f = t
 le : t≤n
 mem : ∀ x ∈ m,(f : Int)≤x∧x < (t : Int)
 nd : m.Nodup
 all : ∀ a : Nat,f≤a→a < t→(a : Int) ∈ m
theorem Begun.left {n f t : Nat} {m : List Int} (h : Begun n f t m) (hf : 0 < f) : Begun n (f - 1) t (m ++ [((f - 1 : Nat) : Int)]) where
 len := by have := h.len; simp only [List.length_append,List.length_cons,List.length_nil]; omega
 le := h.le
 mem x hx := by
   have := h.len
   rcases List.mem_append.1 hx with hx | hx
   · have := h.mem x hx; omega
   · rw [List.mem_singleton.1 hx]; omega
 nd := by
   rw [List.nodup_append]
   refine ⟨h.nd,by simp,fun a ha b hb => ?_⟩
   rw [List.mem_singleton.1 hb]
   have := h.mem a ha; omega
 all a h1 h2 := by
   by_cases e : a = f - 1
   · subst e; exact List.mem_append_right _ List.mem_cons_self
   · exact List.mem_append_left _ (h.all a (by omega) h2)
theorem Begun.right {n f t : Nat} {m : List Int} (h : Begun n f t m) (ht : t < n) : Begun n f (t + 1) (m ++ [(t : Int)]) where
 len := by have := h.len; simp only [List.length_append,List.length_cons,List.length_nil]; omega
 le := ht
 mem x hx := by
   have := h.len
   rcases List.mem_append.1 hx with hx | hx
   · have := h.mem x hx; omega
   · rw [List.mem_singleton.1 hx]; omega
 nd := by
   rw [List.nodup_append]
   refine ⟨h.nd,by simp,fun a ha b hb => ?_⟩
   rw [List.mem_singleton.1 hb]
   have := h.mem a ha; omega
 all a h1 h2 := by
   by_cases e : a = t
   · subst e; exact List.mem_append_right _ List.mem_cons_self
   · exact List.mem_append_left _ (h.all a h1 (by omega))
def Whole (n : Nat) (m : List Int) : Prop := Begun n 0 n m
theorem rds_whole {n : Nat} : ∀ (k f t : Nat) (m : List Int),f + (n - t) = k→Begun n f t m→∀ r ∈ rds n k f t m,Whole n r
 | 0,f,t,m,hk,h,r,hr => by
   have := h.le
   rw [rds,List.mem_singleton] at hr
   subst hr
   have e1 : f = 0 := by omega
   have e2 : t = n := by omega
   subst e1; subst e2; exact h
 | k + 1,f,t,m,hk,h,r,hr => by
   have := h.le
   rw [rds] at hr
   rcases List.mem_append.1 hr with hr | hr
   · split at hr
     · rename_i hf
       exact rds_whole k (f - 1) t _ (by omega) (h.left hf) r hr
     · cases hr
   · split at hr
     · rename_i ht
       exact rds_whole k f (t + 1) _ (by omega) (h.right ht) r hr
     · cases hr
def stp (b : Int) (l m : List Int) : Nat→Int := sf b l m m.length
structure LS where
 no : Bool
 st : Nat→Int
def stepL (g : (Nat→Int)→Bool) (N : (Nat→Int)→Int) (s : LS) (x : Nat→Int) : LS := match g x with
 | true => match s.no || decide (N x < N s.st) with
   | true => ⟨false,x⟩
   | false => s
 | false => s
def foldR (b : Int) (l : List Int) (g : (Nat→Int)→Bool) (N : (Nat→Int)→Int) (s : LS) (r : List (List Int)) : LS := r.foldl (fun s m => stepL g N s (stp b l m)) s
theorem foldR_append {b : Int} {l : List Int} {g : (Nat→Int)→Bool} {N : (Nat→Int)→Int} {s : LS} {r r' : List (List Int)} : foldR b l g N s (r ++ r') = foldR b l g N (foldR b l g N s r) r' := List.foldl_append
end Go.Pier.Rd
namespace Go.Pier
open Go
variable {P : Program} {H : Heap}
structure MapC where
 f : FuncId
 args : List Value
 es : List MapEntry
 ck : Nat
 v : Value
 es2 : List MapEntry
 ck2 : Nat
def entB (es : List MapEntry) : Bool := es.all fun e => sc2 0 e.key && sc2 0 e.val
def MapC.plain (p : MapC) : Bool := p.args.all (sc 0) && (sc 0 p.v && (entB p.es && entB p.es2))
def MapC.Ok (P : Program) (p : MapC) : Prop := Call P p.f (.map (some 0) :: p.args) [.map p.es p.ck] (fun v' H2 => v' = p.v∧H2 = [.map p.es2 p.ck2])∧p.plain = true
theorem MapC.ok_ev {p : MapC} {tbl : Tbl} (ht : TblOk P tbl) {n : Nat} (h : (gcFun (evFunT P (evCT P tbl n none)) p.f (.map (some 0) :: p.args) [.map p.es p.ck]).map (fun r => (r.1,r.2.1)) = some (p.v,[.map p.es2 p.ck2])) (hp : p.plain = true) : p.Ok P := by
 rw [Option.map_eq_some_iff] at h
 obtain ⟨⟨v,H2,l⟩,h1,h2⟩ := h
 cases h2
 exact ⟨(ExactC.ok_ev (p := ⟨p.f,.map (some 0) :: p.args,[.map p.es p.ck],p.v,[.map p.es2 p.ck2],l⟩) ht h1).1,hp⟩
theorem canonA2_vals {caps : Nat→Nat} : ∀ {l : List Value} {i : Nat},canonA2 caps i (l.map Arg2.val) = l
 | [],_ => rfl
 | v :: l,i => by rw [List.map_cons,canonA2,canonA2_vals]
theorem canonH2_vals : ∀ {l : List Value},canonH2 (l.map Arg2.val) = []
 | [] => rfl
 | v :: l => by rw [List.map_cons,canonH2,canonH2_vals]
theorem read_vals {σ : Nat→Nat} {B : List Nat} {m : Nat} : ∀ {l : List Value},l.all (sc 0) = true→ReadA2 H σ B m (l.map Arg2.val) l
 | [],_ => trivial
 | v :: l,h => by
   rw [List.all_cons,Bool.and_eq_true] at h
   exact ⟨(nmap_closed h.1).symm,sc_mono (Nat.zero_le _) h.1,read_vals h.2⟩
theorem omap_ent {σ : Nat→Nat} {es : List MapEntry} {ck : Nat} (h : entB es = true) : omap σ (.map es ck) = .map es ck := by
 simp only [omap]
 have : (es.map fun e => { e with val := nmap2 σ e.val }) = es.map id := List.map_congr_left fun e he => by
   have := List.all_eq_true.1 h e he
   rw [Bool.and_eq_true] at this
   simp only [nmap2_closed this.2,id]
 rw [this,List.map_id]
theorem sc2_up {n : Nat} {v : Value} (h : sc2 0 v = true) : sc2 n v = true := sc2_mono (Nat.zero_le n) h
theorem sc_ent {n : Nat} {es : List MapEntry} {ck : Nat} (h : entB es = true) : AObj.sc n (.map es ck) = true := by
 simp only [AObj.sc]
 refine List.all_eq_true.2 fun e he => ?_
 have := List.all_eq_true.1 h e he
 rw [Bool.and_eq_true] at this ⊢
 exact ⟨this.1,sc2_up this.2⟩
theorem MapC.call {p : MapC} (h : p.Ok P) {r : Nat} (hr : H[r]? = some (.map p.es p.ck)) :
   Call P p.f (.map (some r) :: p.args) H (fun v' H2 => v' = p.v∧H2 = H.set r (.map p.es2 p.ck2))∧Kept H (H.set r (.map p.es2 p.ck2)) [r] := by
 obtain ⟨h,hp⟩ := h
 unfold MapC.plain at hp
 simp only [Bool.and_eq_true] at hp
 obtain ⟨h1,h2,h3,h4⟩ := hp
 have hlt := (List.getElem?_eq_some_iff.1 hr).1
 have := Call.frameL (P := P) (f := p.f) (H := H) (Et := [.map p.es p.ck]) (Ft := [.map p.es2 p.ck2]) (N := []) (L := [r]) (ags := .val (.map (some 0)) :: p.args.map Arg2.val) (vs := .map (some r) :: p.args) (v := p.v) rfl rfl (by simp)
   (fun b hb => by rw [List.mem_singleton.1 hb]; exact hlt)
   (fun c o hc => by
     cases c with
     | zero => cases hc; rw [omap_ent h3]; exact hr
     | succ c => simp at hc)
   (fun o ho => by rw [List.mem_singleton.1 ho]; exact ⟨rfl,sc_ent h3⟩)
   ⟨by simp [nmap,nmap2,nmap1,nmap0],by simp [sc,sc2,sc1,sc0],read_vals h1⟩
   (fun caps => by rw [canonA2,canonA2_vals,canonH2,canonH2_vals]; exact h)
   (fun o ho => by
     rw [List.append_nil] at ho
     rw [List.mem_singleton.1 ho]
     simp only [AObj.nm]
     refine List.all_eq_true.2 fun e he => ?_
     have := List.all_eq_true.1 h4 e he
     rw [Bool.and_eq_true] at this
     exact nm2_closed this.2)
   (fun o ho => by cases ho)
   (nm_closed h2)
   (fun o ho => by
     rw [List.append_nil] at ho
     rw [List.mem_singleton.1 ho,omap_ent h4]
     exact sc_ent h4)
   (by rw [nmap_closed h2]; exact sc_mono (Nat.zero_le _) h2)
 rw [nmap_closed h2,List.map_singleton,omap_ent h4,List.map_nil,List.append_nil] at this
 exact this
end Go.Pier
namespace Go.Pier
open Go
variable {P : Program} {H : Heap} {f : FuncId}
def setG : Heap→Heap→List Nat→Heap→Heap
 | H,e :: E,b :: L,o :: r => match e.wr with
   | true => setG (H.set b o) E L r
   | false => setG H E L r
 | H,_,_,_ => H
theorem setG_length : ∀ (E : Heap) (L : List Nat) (r H : Heap),(setG H E L r).length = H.length
 | [],L,r,H => by cases L <;> cases r <;> rfl
 | e :: E,[],r,H => by cases r <;> rfl
 | e :: E,b :: L,[],H => rfl
 | e :: E,b :: L,o :: r,H => by
   unfold setG
   split
   · rw [setG_length]; simp
   · exact setG_length E L r H
theorem setG_get : ∀ (E : Heap) (L : List Nat) (r H : Heap),L.length = E.length→L.length = r.length→L.Nodup→(∀ b ∈ L,b < H.length) →
   ∀ b,(∀ (c : Nat),L[c]? = some b→(∀ e,E[c]? = some e→e.wr = true)→(setG H E L r)[b]? = r[c]?)∧((∀ (c : Nat),L[c]? = some b→∀ e,E[c]? = some e→e.wr = false)→(setG H E L r)[b]? = H[b]?)
 | [],L,r,H,h0,_,_,_,b => by
   obtain rfl : L = [] := List.eq_nil_of_length_eq_zero h0
   exact ⟨fun c hc => by simp at hc,fun _ => by cases r <;> rfl⟩
 | e :: E,[],r,H,h0,_,_,_,b => by cases h0
 | e :: E,a :: L,[],H,_,h,_,_,b => by cases h
 | e :: E,a :: L,o :: r,H,h0,h,hn,hl,b => by
   obtain ⟨n1,n2⟩ := List.nodup_cons.1 hn
   have hlen : L.length = r.length := by simpa using h
   have hlen0 : L.length = E.length := by simpa using h0
   unfold setG
   split
   · rename_i hw
     have ih := setG_get E L r (H.set a o) hlen0 hlen n2 (fun b hb => by rw [List.length_set]; exact hl b (List.mem_cons_of_mem _ hb)) b
     refine ⟨fun c hc he => ?_,fun hb => ?_⟩
     · cases c with
       | zero =>
         simp only [List.getElem?_cons_zero,Option.some.injEq] at hc
         subst hc
         rw [ih.2 (fun c hc => absurd (List.mem_of_getElem? hc) n1),List.getElem?_set_self (hl _ List.mem_cons_self)]; rfl
       | succ c =>
         simp only [List.getElem?_cons_succ] at hc he ⊢
         exact ih.1 c hc he
     · have hne : a ≠ b := fun e' => by
         have := hb 0 (by rw [e']; rfl) e rfl
         rw [hw] at this; cases this
       rw [ih.2 (fun c hc e' he' => hb (c + 1) hc e' he'),List.getElem?_set_ne hne]
   · rename_i hw
     have ih := setG_get E L r H hlen0 hlen n2 (fun b hb => hl b (List.mem_cons_of_mem _ hb)) b
     refine ⟨fun c hc he => ?_,fun hb => ?_⟩
     · cases c with
       | zero => have := he e rfl; rw [hw] at this; cases this
       | succ c =>
         simp only [List.getElem?_cons_succ] at hc he ⊢
         exact ih.1 c hc he
     · exact ih.2 fun c hc e' he' => hb (c + 1) hc e' he'
theorem Call.frameG {Et Ft N : Heap} {L : List Nat} {args vs : List Value} {v : Value} (hL : L.length = Et.length) (hF : Ft.length = Et.length) (hnd : L.Nodup) (hlt : ∀ b ∈ L,b < H.length)
   (hobj : ∀ (c : Nat) (o : AObj),Et[c]? = some o→o = .gone∨H[L.getD c 0]? = some (omap (fun c => L.getD c 0) o)) (hsc : ∀ o ∈ Et,o.sc Et.length = true)
   (hargs : vs = args.map (nmap fun c => L.getD c 0)) (hsa : args.all (sc Et.length) = true)
   (h : Call P f args Et fun v' F' => v' = v∧F' = Ft ++ N)
   (hnm : ∀ o ∈ Ft ++ N,o.nm (fun d => decide (d < Et.length) || decide (Et.length≤d)) = true) (hro : ∀ o ∈ N,o.isRo = false)
   (hv : nm (fun d => decide (d < Et.length) || decide (Et.length≤d)) v = true)
   (hscp : ∀ o ∈ Ft ++ N,(omap (nameL L Et.length H.length) o).sc (H.length + N.length) = true)
   (hvs : sc (H.length + N.length) (nmap (nameL L Et.length H.length) v) = true) :
   Call P f vs H (fun v' H2 => v' = nmap (nameL L Et.length H.length) v∧H2 = setG H Et L (Ft.map (omap (nameL L Et.length H.length))) ++ N.map (omap (nameL L Et.length H.length))) ∧
   Kept H (setG H Et L (Ft.map (omap (nameL L Et.length H.length))) ++ N.map (omap (nameL L Et.length H.length))) L := by
 generalize hτ : nameL L Et.length H.length = τ at *
 have hlen1 : (setG H Et L (Ft.map (omap τ))).length = H.length := setG_length _ _ _ _
 have hset := setG_get Et L (Ft.map (omap τ)) H hL (by rw [List.length_map,hL,hF]) hnd hlt
 have σlt : ∀ c,c < Et.length→∃ b,L[c]? = some b∧L.getD c 0 = b := fun c hc => ⟨_,List.getElem?_eq_getElem (by omega),natD_of_get (List.getElem?_eq_getElem (by omega))⟩
 have τlt : ∀ c,c < Et.length→τ c = L.getD c 0 := fun c hc => by rw [← hτ]; exact nameL_lt (by omega)
 have hinj : ∀ b b',b < Et.length→b' < Et.length→L.getD b 0 = L.getD b' 0→b = b' := fun b b' hb hb' he => by
   obtain ⟨x,h1,h2⟩ := σlt b hb
   obtain ⟨y,h3,h4⟩ := σlt b' hb'
   rw [h2,h4] at he
   rw [he] at h1
   exact (List.getElem?_inj (i := b) (j := b') (by omega) hnd).1 (by rw [h1,h3])
 constructor
 · refine Call.frame (σ := fun c => L.getD c 0) (B := L) (E := Et) (F := Ft ++ N) (m := Et.length) (τ := τ) (ags := args.map Arg2.val) (C := fun _ => True) (Nat.le_refl _) (fun ρ w R => ?_) (fun caps _ => by rw [canonA2_vals]; exact h) ?_ hv ?_
   · have hB : ∀ b, b < Et.length → L.getD b 0 ∈ L := fun b hb => by
       obtain ⟨x,h1,h2⟩ := σlt b hb
       rw [h2]; exact List.mem_of_getElem? h1
     obtain ⟨ρE,hH⟩ := R.held (σ := fun c => L.getD c 0) (E := Et) (B := L) hobj hinj (fun b o hb => hsc o (List.mem_of_getElem? hb)) hB
     refine ⟨ρE,fun _ => 0,hH,?_,by rw [canonA2_vals]; exact hsa,trivial⟩
     rw [canonA2_vals,hargs,List.map_map]
     refine List.map_congr_left fun u hu => ?_
     have hb := List.all_eq_true.1 hsa u hu
     show ren ρE u = ren ρ (nmap _ u)
     rw [← ren_nmap,ren_agree hH.base hb]
   · refine ⟨?_,by simp; omega,fun c hc => ?_,fun j => ?_,fun b o hb ho => ?_,fun j o ho => ?_,fun c o hc ho => ?_,fun b o hb => ?_⟩
     · simp only [List.length_append,List.length_map,hlen1]; omega
     · obtain ⟨x,h1,h2⟩ := σlt c hc
       exact ⟨by show L.getD c 0 < _; rw [h2]; exact hlt _ (List.mem_of_getElem? h1),τlt c hc⟩
     · rw [← hτ,nameL_ge (by omega)]; omega
     · rw [List.getElem?_append_left (by rw [hlen1]; exact hb)] at ho
       by_cases hm : ∃ c : Nat,L[c]? = some b∧∃ e : AObj,Et[c]? = some e∧e.wr = true
       · obtain ⟨c,hc,oe,he,hw⟩ := hm
         have hcl : c < Et.length := (List.getElem?_eq_some_iff.1 he).1
         rw [(hset b).1 c hc (fun e h1 => by rw [he] at h1; cases h1; exact hw),List.getElem?_map,Option.map_eq_some_iff] at ho
         obtain ⟨o',h1,rfl⟩ := ho
         exact .inr (.inl ⟨c,hcl,by rw [wr_of_get he]; exact hw,natD_of_get hc,o',by rw [List.getElem?_append_left (by omega)]; exact h1,rfl⟩)
       · rw [(hset b).2 (fun c hc e he => by
           cases hw : e.wr with
           | false => rfl
           | true => exact absurd ⟨c,hc,e,he,hw⟩ hm)] at ho
         refine .inr (.inr ⟨ho,fun c hc he => hm ?_⟩)
         obtain ⟨oe,h1,h2⟩ := getWr hc
         have hcl : c < Et.length := (List.getElem?_eq_some_iff.1 h1).1
         obtain ⟨x,h3,h4⟩ := σlt c hcl
         have he' : L.getD c 0 = b := he
         exact ⟨c,by rw [h3,← h4,he'],oe,h1,h2⟩
     · rw [List.getElem?_append_right (by rw [hlen1]; omega),hlen1,List.getElem?_map,Option.map_eq_some_iff] at ho
       obtain ⟨o',h1,rfl⟩ := ho
       rw [show H.length + j - H.length = j by omega] at h1
       refine .inr ⟨o',?_,rfl,hro o' (List.mem_of_getElem? h1)⟩
       rw [List.getElem?_append_right (by omega)]
       rw [show Et.length + j - Ft.length = j by omega]
       exact h1
     · exact hnm o (List.mem_of_getElem? ho)
     · have hl2 : (setG H Et L (Ft.map (omap τ)) ++ N.map (omap τ)).length = H.length + N.length := by simp [hlen1]
       rw [hl2]
       rcases Nat.lt_or_ge b H.length with h1 | h1
       · rw [List.getElem?_append_left (by rw [hlen1]; exact h1)] at hb
         by_cases hm : ∃ c : Nat,L[c]? = some b∧∃ e : AObj,Et[c]? = some e∧e.wr = true
         · obtain ⟨c,hc,oe,he,hw⟩ := hm
           rw [(hset b).1 c hc (fun e h1 => by rw [he] at h1; cases h1; exact hw),List.getElem?_map,Option.map_eq_some_iff] at hb
           obtain ⟨o',h2,rfl⟩ := hb
           exact .inr (hscp o' (List.mem_append_left _ (List.mem_of_getElem? h2)))
         · rw [(hset b).2 (fun c hc e he => by
             cases hw : e.wr with
             | false => rfl
             | true => exact absurd ⟨c,hc,e,he,hw⟩ hm)] at hb
           exact .inl hb
       · rw [List.getElem?_append_right (by rw [hlen1]; exact h1),List.getElem?_map,Option.map_eq_some_iff] at hb
         obtain ⟨o',h2,rfl⟩ := hb
         exact .inr (hscp o' (List.mem_append_right _ (List.mem_of_getElem? h2)))
   · rw [show (setG H Et L (Ft.map (omap τ)) ++ N.map (omap τ)).length = H.length + N.length by simp [hlen1]]
     exact hvs
 · refine ⟨by simp [hlen1],fun b hb hn => ?_⟩
   rw [List.getElem?_append_left (by rw [hlen1]; exact hb),(hset b).2 fun c hc => absurd (List.mem_of_getElem? hc) hn]
theorem setG_same : ∀ (E : Heap) (L : List Nat) (r H : Heap),(∀ (c b : Nat) (e o : AObj),E[c]? = some e→e.wr = true→L[c]? = some b→r[c]? = some o→H[b]? = some o)→setG H E L r = H
 | [],L,r,H,_ => by cases L <;> cases r <;> rfl
 | e :: E,[],r,H,_ => by cases r <;> rfl
 | e :: E,b :: L,[],H,_ => rfl
 | e :: E,b :: L,o :: r,H,h => by
   unfold setG
   have hr : setG H E L r = H := setG_same E L r H fun c b e o h1 h2 h3 h4 => h (c + 1) b e o h1 h2 h3 h4
   split
   · rename_i hw
     have h0 := h 0 b e o rfl hw rfl rfl
     have : H.set b o = H := by
       apply List.ext_getElem?
       intro j
       rw [List.getElem?_set]
       split
       · rename_i e1; subst e1
         rw [if_pos (List.getElem?_eq_some_iff.1 h0).1,h0]
       · rfl
     rw [this,hr]
   · exact hr
theorem Call.frameP {Et : Heap} {L : List Nat} {args vs : List Value} {v : Value} (hL : L.length = Et.length) (hnd : L.Nodup) (hlt : ∀ b ∈ L,b < H.length)
   (hobj : ∀ (c : Nat) (o : AObj),Et[c]? = some o→o = .gone∨H[L.getD c 0]? = some (omap (fun c => L.getD c 0) o)) (hsc : ∀ o ∈ Et,o.sc Et.length = true)
   (hτ : ∀ (c : Nat) (o : AObj),Et[c]? = some o→o.sc (H.length) = true→omap (nameL L Et.length H.length) o = omap (fun c => L.getD c 0) o∧(omap (nameL L Et.length H.length) o).sc H.length = true)
   (hscH : ∀ o ∈ Et,o.sc H.length = true)
   (hargs : vs = args.map (nmap fun c => L.getD c 0)) (hsa : args.all (sc Et.length) = true)
   (h : Call P f args Et fun v' F' => v' = v∧F' = Et)
   (hnm : ∀ o ∈ Et,o.nm (fun d => decide (d < Et.length) || decide (Et.length≤d)) = true)
   (hv : nm (fun d => decide (d < Et.length) || decide (Et.length≤d)) v = true)
   (hvs : sc H.length (nmap (nameL L Et.length H.length) v) = true) :
   Call P f vs H fun v' H2 => v' = nmap (nameL L Et.length H.length) v∧H2 = H := by
 have := (Call.frameG (P := P) (f := f) (H := H) (Et := Et) (Ft := Et) (N := []) (L := L) (args := args) (vs := vs) (v := v) hL rfl hnd hlt hobj hsc hargs hsa (h.mono fun v' F' hh => ⟨hh.1,by rw [hh.2,List.append_nil]⟩)
   (fun o ho => hnm o (by rwa [List.append_nil] at ho)) (fun o ho => by cases ho) hv
   (fun o ho => by
     rw [List.append_nil] at ho
     obtain ⟨c,hc⟩ := List.mem_iff_getElem?.1 ho
     exact (hτ c o hc (hscH o ho)).2) hvs).1
 refine this.mono fun v' H2 hh => ⟨hh.1,?_⟩
 rw [hh.2,List.map_nil,List.append_nil]
 refine setG_same _ _ _ _ fun c b e o h1 h2 h3 h4 => ?_
 rw [List.getElem?_map,h1,Option.map_some,Option.some.injEq] at h4
 subst h4
 rw [(hτ c e h1 (hscH e (List.mem_of_getElem? h1))).1]
 rcases hobj c e h1 with rfl | h5
 · cases h2
 · rw [natD_of_get h3] at h5; exact h5
end Go.Pier
namespace Go.Pier
open Go
variable {P : Program} {ρ : Ren} {H H' : Heap} {w : World}
variable {ct : Ct} {E : VEnv} {N base : Nat} {ρ0 : Ren} {H0 : Heap} {w0 : World} {F : Fr} {a : Act} {D : Dec} {ops : Array Oper} {o : Oper} {i : Nat} {ro : Option Nat}
abbrev Yt := Nat→List Value→Heap→Option (Option Prop × Value × Heap × List Nat)
def YtOk (P : Program) (yt : Yt) : Prop := ∀ b args H φ v H' l,yt b args H = some (φ,v,H',l)→Asks φ→Yield P b args H (fun v' H2 => v' = v∧H2 = H')∧Kept H H' l
variable {yt : Yt}
open Classical in
noncomputable def ctCallY (ct : Ct) (yt : Yt) : CallFn := fun k args H => match k with
 | .fn f => match ct f args H with
   | some (φ,v,H',l) => if Asks φ then some (v,H',l) else none
   | none => none
 | .round b => match yt b args H with
   | some (φ,v,H',l) => if Asks φ then some (v,H',l) else none
   | none => none
theorem ctCallY_ok (hct : CtOk P ct) (hy : YtOk P yt) : CallOk P (ctCallY ct yt) := by
 intro f args H v H' l h
 unfold ctCallY at h
 split at h
 · rename_i f
   split at h
   · rename_i φ v' H1 l' hc
     split at h
     · rename_i hφ
       cases h
       exact hct _ _ _ _ _ _ _ hc hφ
     · cases h
   · cases h
 · rename_i b
   split at h
   · rename_i φ v' H1 l' hc
     split at h
     · rename_i hφ
       cases h
       exact hy _ _ _ _ _ _ _ hc hφ
     · cases h
   · cases h
def sRunY (P : Program) (E : VEnv) (yt : Yt) (o : Oper) (tm : Array Value) (G : Heap) : Option (Option Prop × Value × Heap × List Nat) :=
 match E.orc (aeval tm) G o with
 | some (φ,v,F) => some (some φ,v.getD undef,F,evLog (aeval tm) o)
 | none => match symOp P (aeval tm) G o with
 | some (φ,v,F) => match apLen (aeval tm) o with
   | some (n,m,c) => some (some (andP φ (¬ n + m≤c)),v.getD undef,F,[])
   | none => some (φ,v.getD undef,F,evLog (aeval tm) o)
 | none => match evOp P (aeval tm) G o with
   | some (.enter f args,H1) => E.ct f args H1
   | some _ => none
   | none => match rowOf P (aeval tm) G o with
     | some _ => none
     | none => match yieldOf (aeval tm) o with
       | some (b,args) => yt b args G
       | none => none
theorem sRun_soundY (hE : VOk P E) {tm : Array Value} {G : Heap} {φ : Option Prop} {V : Value} {F : Heap} {l : List Nat} (hw : Region.wanted o (yielded ops tm) = true) (h : sRunY P E yt o tm G = some (φ,V,F,l)) (hφ : Asks φ) :
   runOp P (ctCallY E.ct yt) ops o tm G = some (V,F,l) := by
 unfold sRunY at h
 unfold runOp
 rw [if_pos hw]
 split at h
 · rename_i ψ v F' hs
   simp only [Option.some.injEq,Prod.mk.injEq] at h
   obtain ⟨rfl,rfl,rfl,rfl⟩ := h
   rw [hE.orc _ _ _ _ _ _ hs hφ]
   cases v <;> rfl
 split at h
 · rename_i ψ v F' hs
   split at h
   · rename_i n m c hl
     simp only [Option.some.injEq,Prod.mk.injEq] at h
     obtain ⟨rfl,rfl,rfl,rfl⟩ := h
     obtain ⟨h1,h2⟩ := andP_iff.1 hφ
     rw [symOp_sound hs h1]
     have := apLen_log hl h2
     cases v <;> simp only [outOf,this] <;> rfl
   · simp only [Option.some.injEq,Prod.mk.injEq] at h
     obtain ⟨rfl,rfl,rfl,rfl⟩ := h
     rw [symOp_sound hs hφ]
     cases v <;> rfl
 · split at h
   · rename_i f args H1 he
     rw [he]
     simp only [ctCallY,h,if_pos hφ]
   · cases h
   · rename_i he
     rw [he]
     split at h
     · cases h
     · rename_i hr
       rw [hr]
       split at h
       · rename_i b args hy
         simp only [hy,ctCallY,h,if_pos hφ]
       · cases h
section
variable (P) (E : VEnv) (yt : Yt)
def vdRunY (ops : Array Oper) (ms : List Nat) (i : Nat) (o : Oper) (D : Dec) (s : DSt) (K : Dec→DSt→Prop) : Prop :=
 match symRow P (aeval s.tm) (dSees ops ms i o s) o with
 | some (cs,off,k) => vRowK cs off k (dSees ops ms i o s) fun v H1 => match dAfter P ops ms i o s (v,H1,[]) with
   | some s' => K (dnew D o) s'
   | none => False
 | none => match sRunY P E yt o s.tm (dSees ops ms i o s) with
 | some (φ,r) => match dAfterS P E ops ms i o s r with
   | some (ψ,s') => match φ,ψ with
     | none,none => K (dnew D o) s'
     | some φ,none => Ob φ∧K (dnew D o) s'
     | none,some ψ => Ob ψ∧K (dnew D o) s'
     | some φ,some ψ => Ob φ∧Ob ψ∧K (dnew D o) s'
   | none => False
 | none => False
def vdNotY (ops : Array Oper) (ms : List Nat) (i : Nat) (o : Oper) (D : Dec) (s : DSt) (K : Dec→DSt→Prop) : Prop :=
 match dAfter P ops ms i o s (undef,dSees ops ms i o s,[]) with
 | some s' => K (dput D o.dst) s'
 | none => False
def vdStepY (ops : Array Oper) (ms : List Nat) (i : Nat) (o : Oper) (D : Dec) (s : DSt) (K : Dec→DSt→Prop) : Prop :=
 match o.guard with
 | none => vdRunY P E yt ops ms i o D s K
 | some (j,want) => match (ops[j]?).bind (·.dst) with
   | none => False
   | some d => match s.tm.getD d undef with
     | .bool b => match dget D d with
       | some b' => match b,b' with
         | true,true => match want with | true => vdRunY P E yt ops ms i o D s K | false => vdNotY P ops ms i o D s K
         | false,false => match want with | true => vdNotY P ops ms i o D s K | false => vdRunY P E yt ops ms i o D s K
         | _,_ => False
       | none => (b = want→vdRunY P E yt ops ms i o ((d,want) :: D) { s with tm := s.tm.setIfInBounds d (.bool want) } K)∧(b = (!want)→vdNotY P ops ms i o ((d,!want) :: D) { s with tm := s.tm.setIfInBounds d (.bool (!want)) } K)
     | .tuple _ => vdNotY P ops ms i o D s K
     | _ => False
def vdGoY (ops : Array Oper) (ms : List Nat) : Nat→List Oper→Dec→DSt→(Dec→DSt→Prop)→Prop
 | _,[],D,s,K => K D s
 | i,o :: r,D,s,K => vdStepY P E yt ops ms i o D s fun D s => vdGoY ops ms (i + 1) r D s K
def vDrawY (N : Nat) (ops : Array Oper) (D : Dec) (F : Fr) (H : Heap) (K : Dec→Fr→Heap→Prop) : Prop :=
 match staticOk ops (masks ops) && readsOk F N ops with
 | true => vdGoY P E yt ops (masks ops) 0 ops.toList D { sf := [],recs := [],hides := [],effs := [],Gs := [],G := H,tm := frT N F } fun D s => K D (drawF ops s.tm F) s.G
 | false => False
end
theorem vdRun_soundY (hE : VOk P E) {ms : List Nat} {s : DSt} {K : Dec→DSt→Prop} (hw : Region.wanted o (yielded ops s.tm) = true) (h : vdRunY P E yt ops ms i o D s K) : ∃ s' D',dstep P (ctCallY E.ct yt) ops ms i o s = some s'∧K D' s' := by
 unfold vdRunY at h
 split at h
 · rename_i cs off k hrow
   obtain ⟨v,H1,h1,h2,h3⟩ := symRow_sound hrow h
   split at h3 <;> try (exact h3.elim)
   rename_i s' hs
   refine ⟨s',_,?_,h3⟩
   rw [dstep_eq]
   have : runOp P (ctCallY E.ct yt) ops o s.tm (dSees ops ms i o s) = some (v,H1,[]) := by
     unfold runOp
     rw [if_pos hw,h2]
     simp only [h1]
   rw [this]
   exact hs
 split at h <;> try (exact h.elim)
 rename_i φ r hr
 obtain ⟨V,F,l⟩ := r
 split at h <;> try (exact h.elim)
 rename_i ψ s' hs
 obtain ⟨hφ,hψ,hk⟩ : Asks φ∧Asks ψ∧K (dnew D o) s' := by
   split at h
   · exact ⟨trivial,trivial,h⟩
   · exact ⟨h.1.out,trivial,h.2⟩
   · exact ⟨trivial,h.1.out,h.2⟩
   · exact ⟨h.1.out,h.2.1.out,h.2.2⟩
 have hs := dAfterS_sound hE hs hψ
 refine ⟨s',_,?_,hk⟩
 rw [dstep_eq,sRun_soundY hE hw hr hφ]
 exact hs
theorem vdNot_soundY {ms : List Nat} {s : DSt} {K : Dec→DSt→Prop} (hw : Region.wanted o (yielded ops s.tm) = false) (h : vdNotY P ops ms i o D s K) : ∃ s' D',dstep P (ctCallY E.ct yt) ops ms i o s = some s'∧K D' s' := by
 unfold vdNotY at h
 split at h <;> try (exact h.elim)
 rename_i s' hs
 refine ⟨s',_,?_,h⟩
 rw [dstep_eq]
 have : runOp P (ctCallY E.ct yt) ops o s.tm (dSees ops ms i o s) = some (undef,dSees ops ms i o s,[]) := by
   unfold runOp
   rw [if_neg (by rw [hw]; exact Bool.false_ne_true)]
 rw [this]
 exact hs
theorem vdStep_soundY (hE : VOk P E) {ms : List Nat} {s : DSt} {K : Dec→DSt→Prop} (h : vdStepY P E yt ops ms i o D s K) : ∃ s' D',dstep P (ctCallY E.ct yt) ops ms i o s = some s'∧K D' s' := by
 unfold vdStepY at h
 split at h
 · rename_i hg
   exact vdRun_soundY hE (by simp [Region.wanted,hg]) h
 · rename_i j want hg
   split at h <;> try (exact h.elim)
   rename_i d hd
   split at h
   · rename_i b hb
     have hy : yielded ops s.tm j = some b := by rw [yielded_t hd,hb]
     have hyes : b = want→Region.wanted o (yielded ops s.tm) = true := fun e => by simp [Region.wanted,hg,hy,e]
     have hno : b = (!want)→Region.wanted o (yielded ops s.tm) = false := fun e => by subst e; cases want <;> simp [Region.wanted,hg,hy]
     split at h
     · split at h
       · cases want with
         | true => exact vdRun_soundY hE (hyes rfl) h
         | false => exact vdNot_soundY (hno rfl) h
       · cases want with
         | true => exact vdNot_soundY (hno rfl) h
         | false => exact vdRun_soundY hE (hyes rfl) h
       · exact h.elim
     · by_cases e : b = want
       · have h1 := h.1 e
         rw [set_same (by rw [hb,e]) (by simp [undef])] at h1
         exact vdRun_soundY hE (hyes e) h1
       · have e' : b = !want := by cases b <;> cases want <;> simp_all
         have h1 := h.2 e'
         rw [set_same (by rw [hb,e']) (by simp [undef])] at h1
         exact vdNot_soundY (hno e') h1
   · rename_i vs hb
     have hy : yielded ops s.tm j = none := by rw [yielded_t hd,hb]
     exact vdNot_soundY (by simp [Region.wanted,hg,hy]) h
   · exact h.elim
theorem vdGo_soundY (hE : VOk P E) {ms : List Nat} {K : Dec→DSt→Prop} : ∀ (r : List Oper) (i : Nat) (D : Dec) (s : DSt),vdGoY P E yt ops ms i r D s K→∃ s' D',drun P (ctCallY E.ct yt) ops ms i r s = some s'∧K D' s'
 | [],_,D,s,h => ⟨s,D,rfl,h⟩
 | o :: r,i,D,s,h => by
   obtain ⟨s1,D1,h1,h2⟩ := vdStep_soundY hE (show vdStepY P E yt ops ms i o D s _ from h)
   obtain ⟨s2,D2,h3,h4⟩ := vdGo_soundY hE r (i + 1) D1 s1 h2
   exact ⟨s2,D2,by simp only [drun,h1,Option.bind_some]; exact h3,h4⟩
theorem vDraw_soundY (hE : VOk P E) (hy : YtOk P yt) (hm : P.follows .mixedOrders = true) {n0 id : Nat} {K : AExit→Dec→Fr→Heap→Prop} (h : vDrawY P E yt N ops D F H (K .normal)) : VW n0 N ro P (.region id ops true) H F (fun x F H => ∃ D,K x D F H) := by
 unfold vDrawY at h
 split at h <;> try (exact h.elim)
 rename_i hs
 simp only [Bool.and_eq_true] at hs
 obtain ⟨s',D',h1,h2⟩ := vdGo_soundY hE _ _ _ _ h
 refine VW.draw (ctCallY_ok hE.ct hy) hm (t' := s'.tm) (H' := s'.G) (l := (s'.effs.flatMap (·.T)).filter fun b => decide (b < H.length)) hs.2 ?_ ⟨D',h2⟩
 unfold evDraw
 rw [if_pos hs.1,h1]
 rfl
section
variable (P) (E : VEnv) (yt : Yt) (n0 N : Nat) (top : Bool)
def vcY : (Nat→Option LInv)→Code→Dec→Fr→Heap→KD→Prop
 | _,.skip,D,F,H,K => K .normal D F H
 | _,.label _,D,F,H,K => K .normal D F H
 | _,.exit id,D,F,H,K => K (.exit id) D F H
 | _,.ret,D,F,H,K => K .ret D F H
 | _,.region _ ops false,D,F,H,K => vSeq P E N ops ops.toList D F H (K .normal)
 | _,.region _ ops true,D,F,H,K => vDrawY P E yt N ops D F H (K .normal)
 | inv,.seq a b,D,F,H,K => vcY inv a D F H (thenD (fun D F H => vcY inv b D F H K) K)
 | inv,.cond o a b,D,F,H,K => condV F D o (fun D F => vcY inv a D F H K) (fun D F => vcY inv b D F H K)
 | inv,.block id c,D,F,H,K => match c with
   | .loop b => match inv id with
     | some I => enterS n0 I.σ0 F H 0 I.shapes∧allS (fun i s => ∀ x,Ob (s.ok x)→vcY (s.sub x) b [] (s.F x) (s.H x) (roundD n0 I i (s.μ x) (blockD id K))) 0 I.shapes
     | none => False
   | c => vcY inv c D F H (blockD id K)
 | inv,.scope c,D,F,H,K => vcY inv c D F H K
 | _,.rangeFunc g ps a b,D,F,H,K => match top with
   | true => vRange P E N g ps a b D F H K
   | false => False
 | _,_,_,_,_,_ => False
end
theorem vc_soundY (hct : VOk P E) (hy : YtOk P yt) (hm : P.follows .mixedOrders = true) {n0 : Nat} {ro : Option Nat} : ∀ {inv : Nat→Option LInv} (c : Code) (D : Dec) (F : Fr) (H : Heap) (K : KD),vcY P E yt n0 N (vTop ro) inv c D F H K→VW n0 N ro P c H F (fun x F H => ∃ D,K x D F H)
 | _,.skip,D,F,H,K,h => VW.skip ⟨D,h⟩
 | _,.label _,D,F,H,K,h => VW.label ⟨D,h⟩
 | _,.exit _,D,F,H,K,h => VW.exit ⟨D,h⟩
 | _,.ret,D,F,H,K,h => VW.ret ⟨D,h⟩
 | _,.region id ops false,D,F,H,K,h => fun base ρ0 H0 w0 a w hn hA => by
   refine wpIn_region ?_
   rw [List.range_eq_range',← Array.length_toList]
   exact vSeq_sound hct ops.toList 0 D F H a w rfl h hA fun D F H a w h1 h2 => ⟨.normal,F,H,rfl,⟨D,h1⟩,h2⟩
 | _,.region id ops true,D,F,H,K,h => vDraw_soundY hct hy hm h
 | _, .seq x y, D, F, H, K, h => VW.seq ((vc_soundY hct hy hm x D F H _ h).mono fun e F H ⟨D, h1⟩ => by
     cases e with
     | normal => exact vc_soundY hct hy hm y D F H K h1
     | exit id => exact ⟨D,h1⟩
     | ret => exact ⟨D,h1⟩)
 | _,.cond o x y,D,F,H,K,h => by
   simp only [vcY] at h
   unfold condV at h
   split at h <;> try (exact h.elim)
   rename_i k
   split at h <;> try (exact h.elim)
   rename_i b hb
   split at h
   · split at h
     · exact VW.cond (b := true) hb (vc_soundY hct hy hm x D F H K h)
     · exact VW.cond (b := false) hb (vc_soundY hct hy hm y D F H K h)
     · exact h.elim
   · refine VW.cond (b := b) hb ?_
     intro base ρ0 H0 w0 a w hn hA
     cases b with
     | true => exact vc_soundY hct hy hm x _ _ H K (h.1 rfl) base ρ0 H0 w0 a w hn (hA.learn hb)
     | false => exact vc_soundY hct hy hm y _ _ H K (h.2 rfl) base ρ0 H0 w0 a w hn (hA.learn hb)
 | inv,.block id c,D,F,H,K,h => by
   have hblk : ∀ {F : Fr} {H : Heap},VW n0 N ro P c H F (fun x F H => ∃ D,blockD id K x D F H)→VW n0 N ro P (.block id c) H F (fun x F H => ∃ D,K x D F H) := fun hv =>
     VW.block (hv.mono fun e F H ⟨D,h1⟩ => by
       cases e with
       | normal => exact ⟨D,h1⟩
       | ret => exact ⟨D,h1⟩
       | exit j =>
         simp only [blockD] at h1
         simp only [blockK]
         cases hj : Nat.beq j id with
         | true => rw [hj] at h1; exact ⟨D,h1⟩
         | false => rw [hj] at h1; exact ⟨D,h1⟩)
   refine hblk ?_
   match c,h with
   | .loop b,h =>
     simp only [vcY] at h
     split at h
     · rename_i I _
       obtain ⟨h0,h3⟩ := h
       obtain ⟨i0,s0,x0,h4,h1,h2⟩ := enterS_get h0
       intro base ρ0 H0 w0 a w hn hA
       refine VW.loopInv (I := fun m F H => ∃ (i : Nat) (s : LShape LInv) (x : s.X),I.shapes[i]? = some s∧s.ok x∧F = s.F x∧H = s.H x∧m = s.μ x) (m := s0.μ x0) (fun m F H ⟨i,s,x,k0,k1,k2,k3,k4⟩ => ?_) ⟨i0,s0,x0,h4,h1,rfl,rfl,rfl⟩ base ρ0 H0 w0 a w hn (hA.reach hn h2)
       subst k2; subst k3; subst k4
       intro base ρ0 H0 w0 a w hn hA
       refine wpIn_mono (vc_soundY hct hy hm b [] (s.F x) (s.H x) _ (allS_get h3 k0 x ⟨k1⟩) base ρ0 H0 w0 a w hn hA) ?_
       rintro e a w' ⟨ex,F',H',rfl,⟨D',q1⟩,q2⟩
       cases ex with
       | normal =>
         obtain ⟨i',s',y,τ,q3,q4,q5,q6⟩ := againS_get q1
         exact ⟨.normal,s'.F y,s'.H y,rfl,⟨_,q5,i',s',y,q3,q4,rfl,rfl,rfl⟩,q2.reach hn q6⟩
       | exit j => exact ⟨.exit j,F',H',rfl,⟨D',q1⟩,q2⟩
       | ret => exact ⟨.ret,F',H',rfl,⟨D',q1⟩,q2⟩
     · exact h.elim
   | .skip,h | .label _,h | .exit _,h | .ret,h | .region ..,h | .seq ..,h | .cond ..,h | .block ..,h | .scope _,h | .rangeFunc ..,h | .goto _,h | .refuse _,h =>
     exact vc_soundY (inv := inv) hct hy hm _ D F H (blockD id K) h
 | _,.scope c,D,F,H,K,h => VW.scope (vc_soundY hct hy hm c D F H K (by simpa only [vcY] using h))
 | _,.rangeFunc g ps a b,D,F,H,K,h => by
   simp only [vcY] at h
   cases ro with
   | some l => exact h.elim
   | none => exact vRange_sound hct h
 | _,.loop _,_,_,_,_,h | _,.goto _,_,_,_,_,h | _,.refuse _,_,_,_,_,h => by simp only [vcY] at h
def yBodyY (P : Program) (E : VEnv) (yt : Yt) (n0 N : Nat) (inv : Nat→Option LInv) (b : Nat) (body : Code) (Q : Value→Heap→Prop) : KD := fun x D F1 H1 =>
 match x with
 | .normal => match H1[b]? with
   | some (.loop st pend t p a c) => match st,pend with
     | .ready,none => vcY P E yt n0 N false inv body [] F1 (H1.set b (.loop .busy none t p a c)) fun x _ _ H3 => match H3[b]? with
       | some (.loop st pend t p a c) => match st,pend with
         | .busy,none => Q (.bool (isNormal x)) (H3.set b (roundEnd x t p a c))
         | _,_ => False
       | _ => False
     | _,_ => False
   | _ => False
 | _ => False
def ycInY (P : Program) (E : VEnv) (yt : Yt) (inv : Nat→Option LInv) : Yc := fun b args H => match H[b]? with
 | some (.loop st pend t ps assign body) => match st,pend with
   | .ready,none => match Nat.beq args.length ps.size && allLt t.size ps.toList with
     | true => some fun Q => vcY P E yt H.length t.size false inv assign [] (frPuts (frOf 0 t.toList) (ps.toList.zip args)) H (yBodyY P E yt H.length t.size inv b body Q)
     | false => none
   | _,_ => none
 | _ => none
theorem ycIn_okY {E : VEnv} (hE : VOk P E) (hy : YtOk P yt) (hm : P.follows .mixedOrders = true) {inv : Nat→Option LInv} : YcOk P (ycInY P E yt inv) := fun b args H T h Q hT => by
 unfold ycInY at h
 split at h <;> try (cases h; done)
 rename_i st pend t ps assign body hb
 split at h <;> try (cases h; done)
 split at h <;> cases h
 rename_i hc
 simp only [Bool.and_eq_true] at hc
 refine Yield.ofVW hb (Nat.eq_of_beq_eq_true hc.1) (allLt_ok hc.2) fun l => (vc_soundY hE hy hm (ro := some l) assign [] _ H _ hT).mono ?_
 rintro x F1 H1 ⟨D,hq⟩
 unfold yBodyY at hq
 split at hq <;> try (exact hq.elim)
 split at hq <;> try (exact hq.elim)
 rename_i st1 pend1 t1 p1 a1 c1 hb1
 split at hq <;> try (exact hq.elim)
 refine ⟨rfl,t1,p1,a1,c1,hb1,(vc_soundY hE hy hm (ro := some l) body [] _ _ _ hq).mono ?_⟩
 rintro x F3 H3 ⟨D,hq⟩
 split at hq <;> try (exact hq.elim)
 rename_i st3 pend3 t3 p3 a3 c3 hb3
 split at hq <;> try (exact hq.elim)
 exact ⟨t3,p3,a3,c3,hb3,by rw [← isNormal_eq]; exact hq⟩
theorem Yield.anew {b : Nat} {args : List Value} {R : Value→Heap→Prop} (h : Yield P b args H fun v1 H1 => ∃ σ v2 H2,Anew H.length σ H1 H2∧v1 = nmap σ v2∧sc H2.length v2 = true∧R v2 H2) : Yield P b args H R := fun ρ w RR hs => by
 obtain ⟨fn,tmps,assign,body,h1,h2⟩ := h ρ w RR hs
 refine ⟨fn,tmps,assign,body,h1,h2.mono ?_⟩
 rintro e w' ⟨ρ',v,H',rfl,⟨σ,v2,H2,hN,rfl,hv,hr⟩,R',X,s'⟩
 obtain ⟨ρ2,R2,X2,hag,_⟩ := R'.anew X hN
 exact ⟨ρ2,v2,H2,by rw [← ren_nmap,ren_agree hag hv],hr,R2,X2,hv⟩
end Go.Pier
