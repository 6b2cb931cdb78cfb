import Derived.Test.YtmlnodejjhohbaaPierKC3
import Derived.Test.YtmlnodejjhohbaaProg
import Derived.KernelRfl
set_option linter.unusedSimpArgs false
set_option linter.unusedVariables false
namespace Go.Pier.Dr
def xs (g : Nat→Bool) : Nat→Bool
 | 0 => false
 | n + 1 => xs g n ^^ g n
theorem xs_congr {g h : Nat→Bool} : ∀ n,(∀ k,k < n→g k = h k)→xs g n = xs h n
 | 0,_ => rfl
 | n + 1,e => by rw [xs,xs,xs_congr n fun k hk => e k (by omega),e n (by omega)]
theorem xs_xor {g h : Nat→Bool} : ∀ n,xs (fun k => g k ^^ h k) n = (xs g n ^^ xs h n)
 | 0 => rfl
 | n + 1 => by rw [xs,xs,xs,xs_xor n]; cases xs g n <;> cases xs h n <;> cases g n <;> cases h n <;> rfl
theorem xs_and {a : Bool} {g : Nat→Bool} : ∀ n,xs (fun k => a && g k) n = (a && xs g n)
 | 0 => by cases a <;> rfl
 | n + 1 => by rw [xs,xs,xs_and n]; cases a <;> cases xs g n <;> cases g n <;> rfl
theorem xs_false {g : Nat→Bool} : ∀ n,(∀ k,k < n→g k = false)→xs g n = false
 | 0,_ => rfl
 | n + 1,e => by rw [xs,xs_false n fun k hk => e k (by omega),e n (by omega)]; rfl
theorem xs_swap {f : Nat→Nat→Bool} {m : Nat} : ∀ n,xs (fun i => xs (fun j => f i j) m) n = xs (fun j => xs (fun i => f i j) n) m
 | 0 => (xs_false m fun _ _ => rfl).symm
 | n + 1 => by
   rw [xs,xs_swap n,← xs_xor]; rfl
theorem xs_head {g : Nat→Bool} : ∀ n,xs g (n + 1) = (g 0 ^^ xs (fun k => g (k + 1)) n)
 | 0 => by rw [xs,xs,xs]; cases g 0 <;> rfl
 | n + 1 => by rw [xs,xs_head n,xs,Bool.xor_assoc]
theorem xs_tail {g : Nat→Bool} {n : Nat} : ∀ d,(∀ k,n≤k→k < n + d→g k = false)→xs g (n + d) = xs g n
 | 0,_ => rfl
 | d + 1,e => by rw [show n + (d + 1) = (n + d) + 1 from rfl,xs,xs_tail d fun k h1 h2 => e k h1 (by omega),e (n + d) (by omega) (by omega),Bool.xor_false]
theorem xs_to {g : Nat→Bool} {n m : Nat} (h : n≤m) (e : ∀ k,n≤k→k < m→g k = false) : xs g m = xs g n := by
 obtain ⟨d,rfl⟩ : ∃ d,m = n + d := ⟨m - n,by omega⟩
 exact xs_tail d e
theorem xs_shift {b : Nat→Bool} {h : Nat→Bool} {sh : Nat} : ∀ m,xs (fun i => (if sh≤i then b (i - sh) else false) && h i) (sh + m) = xs (fun i => b i && h (sh + i)) m
 | 0 => xs_false _ fun k hk => by rw [if_neg (by omega)]; rfl
 | m + 1 => by
   rw [show sh + (m + 1) = (sh + m) + 1 from rfl,xs,xs_shift m,xs,if_pos (by omega),show sh + m - sh = m by omega]
def dis (c s : Nat→Bool) (L n : Nat) : Bool := xs (fun i => c i && s (n - i)) (L + 1)
structure Mk (s c : Nat→Bool) (L n : Nat) : Prop where
 one : c 0 = true
 deg : ∀ i,L < i→c i = false
 ok : ∀ k,L≤k→k < n→dis c s L k = false
theorem Mk.less {s c : Nat→Bool} {L n m : Nat} (h : Mk s c L n) (hm : m≤n) : Mk s c L m := ⟨h.one,h.deg,fun k h1 h2 => h.ok k h1 (by omega)⟩
theorem Mk.more {s c : Nat→Bool} {L n : Nat} (h : Mk s c L n) (hd : L≤n→dis c s L n = false) : Mk s c L (n + 1) :=
 ⟨h.one,h.deg,fun k h1 h2 => by
   by_cases e : k = n
   · subst e; exact hd h1
   · exact h.ok k h1 (by omega)⟩
theorem dis_to {c s : Nat→Bool} {L M n : Nat} (h : L≤M) (hd : ∀ i,L < i→c i = false) : dis c s M n = dis c s L n :=
 xs_to (by omega) fun k h1 _ => by rw [hd k (by omega)]; rfl
theorem dis_congr {c s t : Nat→Bool} {L n : Nat} (h : ∀ k,k≤n→s k = t k) : dis c s L n = dis c t L n :=
 xs_congr _ fun k _ => by rw [h _ (by omega)]
theorem Mk.congr {s t c : Nat→Bool} {L n : Nat} (h : Mk s c L n) (e : ∀ k,k < n→s k = t k) : Mk t c L n :=
 ⟨h.one,h.deg,fun k h1 h2 => by rw [← dis_congr (s := s) fun j hj => e j (by omega)]; exact h.ok k h1 h2⟩
theorem massey {s c d : Nat→Bool} {L M n : Nat} (hc : Mk s c L n) (hw : dis c s L n = true) (hd : Mk s d M (n + 1)) (h : L + M≤n) : False := by
 have h1 : xs (fun i => xs (fun j => c i && (d j && s (n - i - j))) (M + 1)) (L + 1) = false := xs_false _ fun i hi => by
   rw [xs_and]
   have := hd.ok (n - i) (by omega) (by omega)
   rw [dis] at this
   rw [this,Bool.and_false]
 have h2 : xs (fun j => xs (fun i => c i && (d j && s (n - i - j))) (L + 1)) (M + 1) = true := by
   have e : ∀ j,xs (fun i => c i && (d j && s (n - i - j))) (L + 1) = (d j && dis c s L (n - j)) := fun j => by
     rw [dis,← xs_and]
     exact xs_congr _ fun i _ => by
       rw [show n - i - j = n - j - i by omega]
       cases c i <;> cases d j <;> cases s (n - j - i) <;> rfl
   rw [xs_head,e 0,show n - 0 = n from rfl,hw,hd.one,xs_false M fun j hj => by rw [e,hc.ok (n - (j + 1)) (by omega) (by omega),Bool.and_false]]
   rfl
 rw [xs_swap,h2] at h1
 cases h1
structure St where
 L : Nat
 c : Nat→Bool
 b : Nat→Bool
 G : Nat
def tp1 : Nat→Bool := fun k => decide (k = 0)
def plusF (c b : Nat→Bool) (sh : Nat) : Nat→Bool := fun k => c k ^^ (if sh≤k then b (k - sh) else false)
def step (s : Nat→Bool) (t : St) (n : Nat) : St :=
 if dis t.c s t.L n = false then t
 else if t.L < n + 1 - t.L then ⟨n + 1 - t.L,plusF t.c t.b (n + 1 - t.G),t.c,n + 1⟩
 else ⟨t.L,plusF t.c t.b (n + 1 - t.G),t.b,t.G⟩
def bm (s : Nat→Bool) : Nat→St
 | 0 => ⟨0,tp1,tp1,0⟩
 | n + 1 => step s (bm s n) n
structure DInv (s : Nat→Bool) (n : Nat) (t : St) : Prop where
 few : t.L≤n
 made : Mk s t.c t.L n
 grew : t.G≤n
 le : t.L≤t.G
 one : t.b 0 = true
 deg : ∀ i,t.G - t.L < i→t.b i = false
 ok : ∀ k,t.G - t.L≤k→k + 1 < t.G→dis t.b s (t.G - t.L) k = false
 no : 0 < t.G→dis t.b s (t.G - t.L) (t.G - 1) = true
 min : ∀ d M,Mk s d M n→t.L≤M
theorem tp1_deg : ∀ i,0 < i→tp1 i = false := fun i h => by unfold tp1; exact decide_eq_false (by omega)
theorem plus_mk {s : Nat→Bool} {n : Nat} {t : St} (h : DInv s n t) (hw : dis t.c s t.L n = true) {M : Nat} (h1 : t.L≤M) (h2 : n + 1 - t.L≤M) : Mk s (plusF t.c t.b (n + 1 - t.G)) M (n + 1) := by
 have hle := h.le
 have hg := h.grew
 refine ⟨?_,fun i hi => ?_,fun k h3 h4 => ?_⟩
 · unfold plusF
   rw [h.made.one,if_neg (by omega)]; rfl
 · unfold plusF
   rw [h.made.deg i (by omega),if_pos (by omega),h.deg _ (by omega)]; rfl
 · have e : dis (plusF t.c t.b (n + 1 - t.G)) s M k = (dis t.c s M k ^^ xs (fun i => (if n + 1 - t.G ≤ i then t.b (i - (n + 1 - t.G)) else false) && s (k - i)) (M + 1)) := by
     unfold dis plusF
     rw [← xs_xor]
     exact xs_congr _ fun i _ => by
       cases t.c i <;> cases s (k - i) <;> cases (if n + 1 - t.G≤i then t.b (i - (n + 1 - t.G)) else false) <;> rfl
   rw [e,dis_to h1 h.made.deg,show M + 1 = (n + 1 - t.G) + (M + 1 - (n + 1 - t.G)) by omega,xs_shift]
   have e2 : xs (fun i => t.b i && s (k - (n + 1 - t.G + i))) (M + 1 - (n + 1 - t.G)) = dis t.b s (t.G - t.L) (k - (n + 1 - t.G)) := by
     unfold dis
     rw [xs_to (n := t.G - t.L + 1) (by omega) fun j hj _ => by rw [h.deg j (by omega)]; rfl]
     exact xs_congr _ fun i _ => by rw [show k - (n + 1 - t.G + i) = k - (n + 1 - t.G) - i by omega]
   rw [e2]
   by_cases hk : k = n
   · subst hk
     rw [hw,show k - (k + 1 - t.G) = t.G - 1 by omega,h.no (by omega)]; rfl
   · rw [h.made.ok k (by omega) (by omega),h.ok _ (by omega) (by omega)]; rfl
theorem step_inv {s : Nat→Bool} {n : Nat} {t : St} (h : DInv s n t) : DInv s (n + 1) (step s t n) := by
 have hle := h.le
 have hg := h.grew
 have hf := h.few
 unfold step
 split
 · rename_i e
   exact ⟨by omega,h.made.more fun _ => e,by omega,hle,h.one,h.deg,h.ok,h.no,fun d M hd => h.min d M (hd.less (by omega))⟩
 · rename_i e
   rw [Bool.not_eq_false] at e
   have hm : ∀ d M,Mk s d M (n + 1)→t.L≤M∧n + 1 - t.L≤M := fun d M hd => ⟨h.min d M (hd.less (by omega)),by
     by_cases h2 : n + 1 - t.L≤M
     · exact h2
     · exact (massey h.made e hd (by omega)).elim⟩
   split
   · rename_i e2
     have e3 : n + 1 - (n + 1 - t.L) = t.L := by omega
     refine ⟨by show n + 1 - t.L≤n + 1; omega,plus_mk h e (by show t.L≤n + 1 - t.L; omega) (Nat.le_refl _),Nat.le_refl _,by show n + 1 - t.L≤n + 1; omega,h.made.one,?_,?_,?_,fun d M hd => show n + 1 - t.L≤M from (hm d M hd).2⟩
     · show ∀ i,n + 1 - (n + 1 - t.L) < i→t.c i = false
       rw [e3]; exact h.made.deg
     · show ∀ k,n + 1 - (n + 1 - t.L)≤k→k + 1 < n + 1→dis t.c s (n + 1 - (n + 1 - t.L)) k = false
       rw [e3]; exact fun k h1 h2 => h.made.ok k h1 (by omega)
     · show 0 < n + 1→dis t.c s (n + 1 - (n + 1 - t.L)) n = true
       rw [e3]; exact fun _ => e
   · rename_i e2
     exact ⟨by show t.L≤n + 1; omega,plus_mk h e (Nat.le_refl _) (by show n + 1 - t.L≤t.L; omega),by show t.G≤n + 1; omega,hle,h.one,h.deg,h.ok,h.no,fun d M hd => show t.L≤M from (hm d M hd).1⟩
theorem bm_inv {s : Nat→Bool} : ∀ n,DInv s n (bm s n)
 | 0 => ⟨Nat.le_refl _,⟨rfl,tp1_deg,fun _ _ h => absurd h (Nat.not_lt_zero _)⟩,Nat.le_refl _,Nat.le_refl _,rfl,tp1_deg,fun _ _ h => absurd h (Nat.not_lt_zero _),fun h => absurd h (Nat.lt_irrefl 0),fun _ _ _ => Nat.zero_le _⟩
 | n + 1 => step_inv (bm_inv n)
theorem only {s c d : Nat→Bool} {n : Nat} (h2 : 2 * (bm s n).L≤n) (hc : Mk s c (bm s n).L n) (hd : Mk s d (bm s n).L n) : ∀ i,c i = d i := by
 let L := (bm s n).L
 have main : ∀ j,(∀ i,i < j→c i = d i)→j≤L→c j = d j := fun j hj hjL => by
   by_cases hne : c j = d j
   · exact hne
   exfalso
   have hj0 : 0 < j := by
     by_cases e : j = 0
     · subst e; rw [hc.one,hd.one] at hne; exact (hne rfl).elim
     · omega
   let e : Nat→Bool := fun i => c (i + j) ^^ d (i + j)
   have he : ∀ k,L≤k→k < n→dis e s (L - j) (k - j) = false := fun k h1 h3 => by
     have a := hc.ok k h1 h3
     have b := hd.ok k h1 h3
     have x : (dis c s L k ^^ dis d s L k) = dis e s (L - j) (k - j) := by
       unfold dis
       rw [← xs_xor,show L + 1 = j + (L - j + 1) by omega]
       have y : ∀ m,xs (fun i => (c i && s (k - i)) ^^ (d i && s (k - i))) (j + m) = xs (fun i => e i && s (k - j - i)) m := fun m => by
         induction m with
         | zero => exact xs_false _ fun i hi => by rw [hj i hi]; cases d i && s (k - i) <;> rfl
         | succ m ih =>
           rw [show j + (m + 1) = (j + m) + 1 from rfl,xs,ih,xs]
           congr 1
           show _ = ((c (m + j) ^^ d (m + j)) && s (k - j - m))
           rw [show k - (j + m) = k - j - m by omega,Nat.add_comm m j]
           cases c (j + m) <;> cases d (j + m) <;> cases s (k - j - m) <;> rfl
       exact y _
     have a' : dis c s L k = false := a
     have b' : dis d s L k = false := b
     rw [a',b'] at x
     exact x.symm
   have hmk : Mk s e (L - j) (n - j) := ⟨by
       show (c (0 + j) ^^ d (0 + j)) = true
       rw [Nat.zero_add]; cases h5 : c j <;> cases h6 : d j <;> simp_all,
     fun i hi => by
       show (c (i + j) ^^ d (i + j)) = false
       rw [hc.deg _ (by show L < i + j; omega),hd.deg _ (by show L < i + j; omega)]; rfl,
     fun k h1 h3 => by have := he (k + j) (by omega) (by omega); rwa [show k + j - j = k by omega] at this⟩
   have hall : ∀ x,n - j + x≤n→Mk s e (L - j) (n - j + x) := fun x => by
     induction x with
     | zero => exact fun _ => hmk
     | succ x ih =>
       intro hx
       have i1 := ih (by omega)
       refine i1.more fun h4 => ?_
       cases h5 : dis e s (L - j) (n - j + x) with
       | false => rfl
       | true => exact (massey i1 h5 (hc.less (by omega)) (by show L - j + L≤_; have : 2 * L≤n := h2; omega)).elim
   have := (bm_inv (s := s) n).min _ _ ((hall j (by omega)).less (m := n) (by omega))
   have : L≤L - j := this
   omega
 have all : ∀ j,∀ i,i < j→c i = d i := fun j => by
   induction j with
   | zero => exact fun i h => absurd h (Nat.not_lt_zero i)
   | succ j ih =>
     intro i hi
     by_cases e : i < j
     · exact ih i e
     · by_cases hL : i≤L
       · exact main i (fun i' h => ih i' (by omega)) hL
       · rw [hc.deg i (by show L < i; omega),hd.deg i (by show L < i; omega)]
 exact fun i => all (i + 1) i (by omega)
end Go.Pier.Dr
namespace Go.Pier.Dr
open Go Go.Pier Go.Proofs
theorem mixed : Try.prog.follows .mixedOrders = true := by kernel_rfl
end Go.Pier.Dr
