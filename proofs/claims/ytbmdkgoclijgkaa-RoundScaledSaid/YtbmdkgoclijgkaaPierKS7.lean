import Derived.Test.YtbmdkgoclijgkaaPierKS6
import Derived.Test.YtbmdkgoclijgkaaPierKS5
import Derived.KernelRfl
import Derived.Test.YtbmdkgoclijgkaaPierW
import Derived.Test.YtbmdkgoclijgkaaProg
set_option linter.unusedSimpArgs false
set_option linter.unusedVariables false
namespace Go.Pier.Rd
open Go Go.Pier Go.Proofs
def scL (k : Int) (l : List Int) : Nat→List Int
 | 0 => []
 | i + 1 => scL k l i ++ [k * pl l i,k * tw l i]
def cOf (t : Int) : Int := 1 + Int.tmod t 4
noncomputable def lenF (b : Int) (n : Nat) (l : List Int) : Int := bif (shL b n (lefts b n l) l).no then 0 else mxN (shL b n (lefts b n l) l).st 9
noncomputable def lerF (b : Int) (n : Nat) (l : List Int) : Int := bif (shL b n (lefts b n l) l).no then 12 else 0
noncomputable def loF (b : Int) (n : Nat) (l : List Int) (s : Int) : Int := bif (shLs 107 s (NS s) b n (lefts b n l) l).no then 0 else (shLs 107 s (NS s) b n (lefts b n l) l).st s.toNat
noncomputable def hiF (b : Int) (n : Nat) (l : List Int) (s : Int) : Int := bif (shLs 107 s (NS s) b n (lefts b n l) l).no then 0 else (shLs 108 s (NT s) b n (lefts b n l) l).st s.toNat
noncomputable def wnrF (b : Int) (n : Nat) (l : List Int) (s : Int) : Int := bif (shLs 107 s (NS s) b n (lefts b n l) l).no then 12 else 0
theorem scl_len {k : Int} {l : List Int} : ∀ i,(scL k l i).length = i * 2
 | 0 => rfl
 | i + 1 => by rw [scL,List.length_append,scl_len i]; simp only [List.length_cons,List.length_nil]; omega
theorem getD_pair {m : List Int} {x y : Int} {i : Nat} (h : m.length = i * 2) : (m ++ [x,y]).getD (i * 2) 0 = x∧(m ++ [x,y]).getD (i * 2 + 1) 0 = y := by
 refine ⟨?_,?_⟩
 · rw [List.getD_eq_getElem?_getD,List.getElem?_append_right (by omega),show i * 2 - m.length = 0 by omega]; rfl
 · rw [List.getD_eq_getElem?_getD,List.getElem?_append_right (by omega),show i * 2 + 1 - m.length = 1 by omega]; rfl
theorem scL_pl {k : Int} {l : List Int} : ∀ (n i : Nat),i < n→pl (scL k l n) i = k * pl l i∧tw (scL k l n) i = k * tw l i
 | 0,i,h => by omega
 | n + 1,i,h => by
   have hl := scl_len (k := k) (l := l) n
   by_cases e : i = n
   · subst e
     exact getD_pair hl
   · obtain ⟨h1,h2⟩ := scL_pl (k := k) (l := l) n i (by omega)
     refine ⟨?_,?_⟩
     · rw [← h1]; exact getD_app (by omega)
     · rw [← h2]; exact getD_app (by omega)
theorem mul_lt {k x y : Int} (hk : 1≤k) : k * x < k * y ↔ x < y := ⟨fun h => Int.lt_of_mul_lt_mul_left h (by omega),fun h => Int.mul_lt_mul_of_pos_left h (by omega)⟩
theorem mul_le {k x y : Int} (hk : 1≤k) : k * x≤k * y ↔ x≤y := ⟨fun h => Int.le_of_mul_le_mul_left h (by omega),fun h => Int.mul_le_mul_of_nonneg_left h (by omega)⟩
theorem dist_mul {k x y : Int} (hk : 1≤k) : dist (k * x) (k * y) = k * dist x y := by
 unfold dist
 rw [← Int.mul_sub,← Int.mul_sub]
 by_cases h : y - x > x - y
 · rw [if_pos h,if_pos ((mul_lt hk).2 h)]
 · rw [if_neg h,if_neg fun h2 => h ((mul_lt hk).1 h2)]
def mulS (k : Int) (st : Nat→Int) : Nat→Int := fun i => k * st i
theorem mulS_emp {k : Int} : mulS k empI = empI := funext fun i => Int.mul_zero k
section
variable {b k : Int} {n : Nat} {l : List Int} (hk : 1≤k)
theorem lf_mul (hk : 1≤k) : ∀ (x i : Nat),i + x≤n→lf (k * b) (scL k l n) x i = lf b l x i
 | 0,_,_ => rfl
 | x + 1,i,h => by
   rw [lf,lf,(scL_pl (k := k) (l := l) n i (by omega)).1,lf_mul hk x (i + 1) (by omega)]
   by_cases e : pl l i < b
   · rw [if_pos e,if_pos ((mul_lt hk).2 e)]
   · rw [if_neg e,if_neg fun h2 => e ((mul_lt hk).1 h2)]
theorem lefts_mul (hk : 1≤k) : lefts (k * b) n (scL k l n) = lefts b n l := lf_mul hk n 0 (by omega)
variable {m : List Int} (hm : ∀ j,j < m.length→0≤m.getD j 0∧m.getD j 0 < n)
include hm
theorem rAt_mul : ∀ x,x≤m.length→rAt (k * b) (scL k l n) m x = k * rAt b l m x
 | 0,_ => rfl
 | x + 1,h => by
   have := hm x (by omega)
   rw [rAt,rAt,(scL_pl n _ (by omega)).1]
theorem rSt_mul (hk : 1≤k) : ∀ x,x≤m.length→rSt (k * b) (scL k l n) m x = k * rSt b l m x
 | 0,_ => (Int.mul_zero k).symm
 | x + 1,h => by
   have := hm x (by omega)
   rw [rSt,rSt,rSt_mul hk x (by omega),rAt_mul hm x (by omega),(scL_pl n _ (by omega)).1,dist_mul hk,Int.mul_add]
theorem sf_mul (hk : 1≤k) (a : Nat) : ∀ x,x≤m.length→sf (k * b) (scL k l n) m x a = k * sf b l m x a
 | 0,_ => (Int.mul_zero k).symm
 | x + 1,h => by
   rw [sf,sf,sf_mul hk a x (by omega),rSt_mul hm hk (x + 1) h]
   cases Nat.beq a (m.getD x 0).toNat <;> rfl
theorem stp_mul (hk : 1≤k) : stp (k * b) (scL k l n) m = mulS k (stp b l m) := funext fun a => sf_mul hm hk a m.length (Nat.le_refl _)
end
theorem inTB_mul {k : Int} {n : Nat} {l : List Int} {x : Nat→Int} (hk : 1≤k) : inTB n (scL k l n) (mulS k x) = inTB n l x := by
 unfold inTB
 congr 1
 refine propext ⟨fun h i hi => ?_,fun h i hi => ?_⟩
 · have := h i hi
   rw [(scL_pl n i hi).2] at this
   exact (mul_le hk).1 this
 · rw [(scL_pl n i hi).2]
   exact (mul_le hk).2 (h i hi)
theorem foldR_mul {b b' k : Int} {l l' : List Int} {g g' : (Nat→Int)→Bool} {N N' : (Nat→Int)→Int} {A : List (List Int)} (hs : ∀ m ∈ A,stp b' l' m = mulS k (stp b l m)) (hg : ∀ m ∈ A,g' (mulS k (stp b l m)) = g (stp b l m))
   (hN : ∀ m ∈ A,∀ m' ∈ A,(N' (mulS k (stp b l m)) < N' (mulS k (stp b l m')) ↔ N (stp b l m) < N (stp b l m'))) : ∀ (r : List (List Int)) (s : LS),(∀ m ∈ r,m ∈ A)→(s.no = false→∃ m ∈ A,s.st = stp b l m) →
   foldR b' l' g' N' ⟨s.no,mulS k s.st⟩ r = ⟨(foldR b l g N s r).no,mulS k (foldR b l g N s r).st⟩
 | [],s,_,_ => rfl
 | m :: r,s,hr,h => by
   have hm := hr m List.mem_cons_self
   have key : stepL g' N' ⟨s.no,mulS k s.st⟩ (stp b' l' m) = ⟨(stepL g N s (stp b l m)).no,mulS k (stepL g N s (stp b l m)).st⟩∧((stepL g N s (stp b l m)).no = false→∃ m1 ∈ A,(stepL g N s (stp b l m)).st = stp b l m1) := by
     rw [hs m hm]
     cases e : g (stp b l m) with
     | false =>
       rw [stepL_no e,stepL_no (by rw [hg m hm,e])]
       exact ⟨rfl,h⟩
     | true =>
       have e' : g' (mulS k (stp b l m)) = true := by rw [hg m hm,e]
       by_cases hc : s.no = true∨N (stp b l m) < N s.st
       · rw [stepL_new e hc]
         have hc' : (⟨s.no,mulS k s.st⟩ : LS).no = true∨N' (mulS k (stp b l m)) < N' (⟨s.no,mulS k s.st⟩ : LS).st := by
           cases hno : s.no with
           | true => exact .inl rfl
           | false =>
             obtain ⟨m0,h0,h1⟩ := h hno
             rcases hc with hc | hc
             · rw [hno] at hc; cases hc
             · right
               show N' (mulS k (stp b l m)) < N' (mulS k s.st)
               rw [h1]
               exact (hN m hm m0 h0).2 (by rw [← h1]; exact hc)
         rw [stepL_new e' hc']
         exact ⟨rfl,fun _ => ⟨m,hm,rfl⟩⟩
       · have hno : s.no = false := by
           cases e : s.no with
           | true => exact absurd (.inl e) hc
           | false => rfl
         obtain ⟨m0,h0,h1⟩ := h hno
         rw [stepL_old hno (fun k => hc (.inr k)),stepL_old (s := ⟨s.no,mulS k s.st⟩) hno (fun k2 => hc (.inr ?_))]
         · exact ⟨rfl,h⟩
         · have k3 : N' (mulS k (stp b l m)) < N' (mulS k s.st) := k2
           rw [h1] at k3 ⊢
           exact (hN m hm m0 h0).1 k3
   show foldR b' l' g' N' (stepL g' N' ⟨s.no,mulS k s.st⟩ (stp b' l' m)) r = ⟨(foldR b l g N (stepL g N s (stp b l m)) r).no,_⟩
   rw [key.1]
   exact foldR_mul hs hg hN r (stepL g N s (stp b l m)) (fun m2 h2 => hr m2 (List.mem_cons_of_mem _ h2)) key.2
theorem mxN_mul {k : Int} {st : Nat→Int} (hk : 1≤k) : ∀ x,mxN (mulS k st) x = k * mxN st x
 | 0 => rfl
 | x + 1 => by
   rw [mxN,mxN,mxN_mul hk x]
   show (if k * st (x + 1) > k * mxN st x then k * st (x + 1) else _) = _
   by_cases e : st (x + 1) > mxN st x
   · rw [if_pos e,if_pos ((mul_lt hk).2 e)]
   · rw [if_neg e,if_neg fun h2 => e ((mul_lt hk).1 h2)]
def SmallS (st : Nat→Int) : Prop := ∀ i,0≤st i∧st i≤10000
theorem stp_small {b : Int} {n : Nat} {l m : List Int} (hn : n≤10) (hr : rngP b n l) (hw : Whole n m) : SmallS (stp b l m) := fun i => by
 have hl := whole_len hw
 have h1 := stp_le (b := b) (l := l) hw i
 have h2 := (rSt_bd hr (whole_mem hw) n (by omega)).2
 refine ⟨?_,by omega⟩
 rcases Nat.lt_or_ge i n with h | h
 · obtain ⟨j,k1,k2⟩ := whole_all hw h
   have := stp_at (b := b) (l := l) hw k1
   rw [k2,Int.toNat_natCast] at this
   rw [this]
   exact rSt_zero _
 · rw [stp,sf_out (whole_mem hw) h _ (Nat.le_refl _)]; exact Int.le_refl _
theorem ltN_mul {b k : Int} {n : Nat} {l : List Int} {x : Nat→Int} (hk : 1≤k∧k≤4) (hr : rngP b n l) (hx : SmallS x) (hn1 : 1≤n) : ∀ y,y≤n→ltN (scL k l n) (mulS k x) y = k * ltN l x y
 | 0,_ => by
   have h1 := hx 0
   have h2 := (hr.1 0 (by omega)).2
   rw [ltN,ltN,(scL_pl n 0 (by omega)).2]
   show IntKind.i64.wrap (k * x 0 - k * tw l 0) = _
   rw [← Int.mul_sub,wrap_in (x := x 0 - tw l 0) (by omega) (by omega)]
   obtain ⟨k1,k2⟩ := hk
   have : k = 1∨k = 2∨k = 3∨k = 4 := by omega
   rcases this with rfl | rfl | rfl | rfl <;> exact wrap_in (by omega) (by omega)
 | y + 1,hy => by
   have h1 := hx y
   have h2 := (hr.1 y (by omega)).2
   rw [ltN,ltN,(scL_pl n y (by omega)).2,ltN_mul hk hr hx hn1 y (by omega)]
   have e : IntKind.i64.wrap (mulS k x y - k * tw l y) = k * IntKind.i64.wrap (x y - tw l y) := by
     show IntKind.i64.wrap (k * x y - k * tw l y) = _
     rw [← Int.mul_sub,wrap_in (x := x y - tw l y) (by omega) (by omega)]
     obtain ⟨k1,k2⟩ := hk
     have : k = 1∨k = 2∨k = 3∨k = 4 := by omega
     rcases this with rfl | rfl | rfl | rfl <;> exact wrap_in (by omega) (by omega)
   rw [e]
   by_cases c : IntKind.i64.wrap (x y - tw l y) > ltN l x y
   · rw [if_pos c,if_pos ((mul_lt hk.1).2 c)]
   · rw [if_neg c,if_neg fun h => c ((mul_lt hk.1).1 h)]
theorem ltN_bd {b : Int} {n : Nat} {l : List Int} {x : Nat→Int} (hr : rngP b n l) (hx : SmallS x) (hn1 : 1≤n) : ∀ y,y≤n→-9000≤ltN l x y∧ltN l x y≤10000
 | 0,_ => by
   have h1 := hx 0
   have h2 := (hr.1 0 (by omega)).2
   rw [ltN,wrap_in (by omega) (by omega)]; omega
 | y + 1,hy => by
   have h1 := hx y
   have h2 := (hr.1 y (by omega)).2
   have := ltN_bd hr hx hn1 y (by omega)
   rw [ltN,wrap_in (by omega) (by omega)]
   split <;> omega
theorem NT_mul {k s : Int} {x : Nat→Int} (hk : 1≤k∧k≤4) (hx : SmallS x) : NT s (mulS k x) = k * NT s x := by
 have h1 := hx s.toNat
 unfold NT
 rw [wrap_in (x := 0 - x s.toNat) (by omega) (by omega)]
 show IntKind.i64.wrap (0 - k * x s.toNat) = _
 obtain ⟨k1,k2⟩ := hk
 have : k = 1∨k = 2∨k = 3∨k = 4 := by omega
 rcases this with rfl | rfl | rfl | rfl
 · rw [wrap_in (by omega) (by omega)]; omega
 · rw [wrap_in (by omega) (by omega)]; omega
 · rw [wrap_in (by omega) (by omega)]; omega
 · rw [wrap_in (by omega) (by omega)]; omega
section
variable {b k : Int} {n : Nat} {l : List Int} (hk : 1≤k∧k≤4) (hP : errP b n l = 0)
include hk hP
theorem fold_mul {g g' : (Nat→Int)→Bool} {N N' : (Nat→Int)→Int} (hg : ∀ x,g' (mulS k x) = g x) (hN : ∀ x,SmallS x→N' (mulS k x) = k * N x) :
   foldR (k * b) (scL k l n) g' N' ⟨true,empI⟩ (rds n n (lefts b n l) (lefts b n l) []) = ⟨(foldR b l g N ⟨true,empI⟩ (rds n n (lefts b n l) (lefts b n l) [])).no,mulS k (foldR b l g N ⟨true,empI⟩ (rds n n (lefts b n l) (lefts b n l) [])).st⟩ := by
 obtain ⟨⟨n1,n2⟩,hr,ho⟩ := errP_cases hP
 have hf := lefts_le (b := b) (n := n) (l := l)
 have := foldR_mul (b := b) (b' := k * b) (k := k) (l := l) (l' := scL k l n) (g := g) (g' := g') (N := N) (N' := N') (A := rds n n (lefts b n l) (lefts b n l) [])
   (fun m hm => stp_mul (whole_mem (rds_mem_whole hf m hm)) hk.1) (fun m _ => hg _)
   (fun m hm m' hm' => by
     rw [hN _ (stp_small n2 hr (rds_mem_whole hf m hm)),hN _ (stp_small n2 hr (rds_mem_whole hf m' hm'))]
     exact mul_lt hk.1)
   (rds n n (lefts b n l) (lefts b n l) []) ⟨true,empI⟩ (fun m hm => hm) (fun e => by cases e)
 rw [← this]
 show _ = foldR _ _ _ _ ⟨true,mulS k empI⟩ _
 rw [mulS_emp]
theorem shL_mul : shL (k * b) n (lefts (k * b) n (scL k l n)) (scL k l n) = ⟨(shL b n (lefts b n l) l).no,mulS k (shL b n (lefts b n l) l).st⟩ := by
 rw [lefts_mul hk.1]
 exact fold_mul hk hP (fun x => inTB_mul hk.1) fun x _ => mxN_mul hk.1 9
theorem len_mul : lenF (k * b) n (scL k l n) = k * lenF b n l∧lerF (k * b) n (scL k l n) = lerF b n l := by
 unfold lenF lerF
 rw [shL_mul hk hP]
 cases (shL b n (lefts b n l) l).no with
 | true => exact ⟨(Int.mul_zero k).symm,rfl⟩
 | false => exact ⟨mxN_mul hk.1 9,rfl⟩
theorem sLs_mul {s : Int} : shLs 107 s (NS s) (k * b) n (lefts (k * b) n (scL k l n)) (scL k l n) = ⟨(shLs 107 s (NS s) b n (lefts b n l) l).no,mulS k (shLs 107 s (NS s) b n (lefts b n l) l).st⟩ := by
 rw [lefts_mul hk.1]
 exact fold_mul hk hP (fun x => inTB_mul hk.1) fun x _ => rfl
theorem sLt_mul {s : Int} : shLs 108 s (NT s) (k * b) n (lefts (k * b) n (scL k l n)) (scL k l n) = ⟨(shLs 108 s (NT s) b n (lefts b n l) l).no,mulS k (shLs 108 s (NT s) b n (lefts b n l) l).st⟩ := by
 rw [lefts_mul hk.1]
 exact fold_mul hk hP (fun x => inTB_mul hk.1) fun x hx => NT_mul hk hx
theorem span_mul {s : Int} : loF (k * b) n (scL k l n) s = k * loF b n l s∧hiF (k * b) n (scL k l n) s = k * hiF b n l s∧wnrF (k * b) n (scL k l n) s = wnrF b n l s := by
 unfold loF hiF wnrF
 rw [sLs_mul hk hP,sLt_mul hk hP]
 cases (shLs 107 s (NS s) b n (lefts b n l) l).no with
 | true => exact ⟨(Int.mul_zero k).symm,(Int.mul_zero k).symm,rfl⟩
 | false => exact ⟨rfl,rfl,rfl⟩
end
theorem dlL_least {b : Int} {n f : Nat} {l : List Int} : LeastOf b l (inA n l) (ND n l) (rds n n f f []) (dlL b n f l) := foldR_from _
theorem dlL_from {b : Int} {n : Nat} {l : List Int} : ∃ m ∈ rds n n (lefts b n l) (lefts b n l) [],(dlL b n (lefts b n l) l).st = stp b l m := by
 obtain ⟨⟨m,h1,_,h3⟩,_⟩ := dlL_least.2 (dlL_no (b := b) (n := n) (f := lefts b n l) (l := l) lefts_le)
 exact ⟨m,h1,h3⟩
theorem dly_mul {b k : Int} {n : Nat} {l : List Int} (hk : 1≤k∧k≤4) (hP : errP b n l = 0) : dlyF (k * b) n (scL k l n) = k * dlyF b n l := by
 obtain ⟨⟨n1,n2⟩,hr,ho⟩ := errP_cases hP
 have e : dlL (k * b) n (lefts (k * b) n (scL k l n)) (scL k l n) = ⟨(dlL b n (lefts b n l) l).no,mulS k (dlL b n (lefts b n l) l).st⟩ := by
   rw [lefts_mul hk.1]
   exact fold_mul hk hP (fun x => rfl) fun x hx => ltN_mul hk hr hx n1 n (Nat.le_refl _)
 unfold dlyF
 rw [e]
 obtain ⟨m,h1,h2⟩ := dlL_from (b := b) (n := n) (l := l)
 have hx : SmallS (dlL b n (lefts b n l) l).st := by rw [h2]; exact stp_small n2 hr (rds_mem_whole lefts_le m h1)
 exact ltN_mul hk hr hx n1 n (Nat.le_refl _)
section
variable {b : Int} {n : Nat} {l : List Int} (hP : errP b n l = 0)
include hP
theorem dly_bd : -9000≤dlyF b n l∧dlyF b n l≤10000 := by
 obtain ⟨⟨n1,n2⟩,hr,ho⟩ := errP_cases hP
 obtain ⟨m,h1,h2⟩ := dlL_from (b := b) (n := n) (l := l)
 unfold dlyF
 rw [h2]
 exact ltN_bd hr (stp_small n2 hr (rds_mem_whole lefts_le m h1)) n1 n (Nat.le_refl _)
theorem in_bd {m : List Int} (hm : m ∈ rds n n (lefts b n l) (lefts b n l) []) (hg : inTB n l (stp b l m) = true) {i : Nat} (hi : i < n) : 0≤stp b l m i∧stp b l m i≤9000 := by
 obtain ⟨⟨n1,n2⟩,hr,ho⟩ := errP_cases hP
 have h1 := of_dB hg i hi
 have h2 := (hr.1 i hi).2
 have h3 := stp_small n2 hr (rds_mem_whole lefts_le m hm) i
 omega
theorem len_bd : 0≤lenF b n l∧lenF b n l≤9000 := by
 obtain ⟨⟨n1,n2⟩,hr,ho⟩ := errP_cases hP
 unfold lenF
 cases hno : (shL b n (lefts b n l) l).no with
 | true =>
   show (0 : Int)≤0∧(0 : Int)≤9000
   exact ⟨by decide,by decide⟩
 | false =>
   obtain ⟨⟨m,h1,h2,h3⟩,_⟩ := shL_least.2 hno
   have hw := rds_mem_whole lefts_le m h1
   rw [h3]
   have e : mxN (stp b l m) 9 = rSt b l m n := NL_is hw n1 n2
   show 0≤mxN (stp b l m) 9∧mxN (stp b l m) 9≤9000
   have hl := whole_len hw
   have q := whole_mem hw (n - 1) (by omega)
   have q2 := stp_at (b := b) (l := l) hw (i := n - 1) (by omega)
   rw [show n - 1 + 1 = n by omega] at q2
   rw [e,← q2]
   exact in_bd hP h1 h2 (by omega)
theorem span_bd {s : Int} (hs : 0≤s∧s < n) : (0≤loF b n l s∧loF b n l s≤9000)∧0≤hiF b n l s∧hiF b n l s≤9000 := by
 unfold loF hiF
 have e := least_same (shLs_least (g := 107) (s := s) (N := NS s) (b := b) (n := n) (f := lefts b n l) (l := l)) (shLs_least (g := 108) (s := s) (N := NT s))
 cases hno : (shLs 107 s (NS s) b n (lefts b n l) l).no with
 | true =>
   show ((0 : Int)≤0∧(0 : Int)≤9000)∧(0 : Int)≤0∧(0 : Int)≤9000
   exact ⟨⟨by decide,by decide⟩,by decide,by decide⟩
 | false =>
   rw [hno] at e
   obtain ⟨⟨m,h1,h2,h3⟩,_⟩ := (shLs_least (g := 107) (s := s) (N := NS s)).2 hno
   obtain ⟨⟨m',h1',h2',h3'⟩,_⟩ := (shLs_least (g := 108) (s := s) (N := NT s)).2 e.symm
   rw [h3,h3']
   exact ⟨in_bd hP h1 h2 (by omega),in_bd hP h1' h2' (by omega)⟩
end
end Go.Pier.Rd
set_option maxRecDepth 100000
namespace Go.Pier.Rd
open Go Go.Pier Go.Proofs
def rw2 (l : List Int) : AObj := .rw (l.map (.int .i64)) (some 2)
end Go.Pier.Rd
namespace Go.Pier.RoundK
open Go Go.Pier Go.Proofs
def vi (n : Int) : Value := .int .i64 n
noncomputable def t0 : Tbl := fun _ => none
theorem t0_ok : TblOk Try.prog t0 := tblOk_none
end Go.Pier.RoundK
