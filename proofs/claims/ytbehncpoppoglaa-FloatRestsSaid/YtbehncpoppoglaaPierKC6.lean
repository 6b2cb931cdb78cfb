import Derived.Test.YtbehncpoppoglaaPierKC4
import Derived.Test.YtbehncpoppoglaaPierFlwk
import Derived.KernelRfl
set_option linter.unusedSimpArgs false
set_option linter.unusedVariables false
set_option maxRecDepth 100000
namespace Go.Pier.Fl
open Go Go.Pier Go.Proofs
def worksS (r : List Arg) : Prop × Value := match r with | [] => (True,.bool true) | _ => (False,undef)
def isTrue (v : Value) (_ : Heap) : Prop := v = .bool true
theorem worksG_ok : ∀ args H φ v H' l,pureG [] worksS args H = some (φ,v,H',l)→Asks φ→Call Try.prog 19 args H (fun v' H2 => v' = v∧H2 = H')∧Kept H H' l :=
 closedG_ok (works_ok.call.mono fun v H h => h.1) rfl
end Go.Pier.Fl
namespace Go.Pier.Fl
open Go Go.Pier Go.Proofs
def msF (r : List Int) (f : Int) : Nat→Int
 | 0 => -1
 | i + 1 => if r.getD i 0 - f > msF r f i then r.getD i 0 - f else msF r f i
def enF (r : List Int) : Nat→Bool
 | 0 => false
 | i + 1 => enF r i || decide (r.getD i 0 < 0)
theorem add_coin {l : List Int} (hc : Coins l) {k : Nat} (hk : k < l.length) {y : Nat} (hy : y + (l.getD k 0).toNat≤9999) (h : canB l y = true) : canB l (y + (l.getD k 0).toNat) = true := by
 have hr := coin_rng hc hk
 obtain ⟨p,q⟩ := ((best_is hc y (by omega)).1 h).1
 refine ((best_is hc _ hy).2 (up (bF l y) k 1) ⟨fun j hj => ?_,?_⟩).1
 · have := p j hj
   unfold up
   split <;> omega
 · rw [dot_up,q,if_pos hk]; omega
theorem sub_coin {l : List Int} (hc : Coins l) {x : Nat} (hx : 0 < x) (hx9 : x≤9999) (h : canB l x = true) : ∃ k,k < l.length∧(l.getD k 0).toNat≤x∧canB l (x - (l.getD k 0).toNat) = true := by
 obtain ⟨p,q⟩ := ((best_is hc x hx9).1 h).1
 obtain ⟨k,hk,hp⟩ := dot_pos (l := l) l.length (fun j hj => ⟨by have := coin_rng hc hj; omega,p j hj⟩) (by rw [q]; omega)
 have hr := coin_rng hc hk
 have hz : isCh l (x - l.getD k 0) (up (bF l x) k (-1)) := ⟨fun j hj => by
   have := p j hj
   unfold up
   split
   · rename_i e
     rw [e]; omega
   · omega,by rw [dot_up,q,if_pos hk]; omega⟩
 have h0 := dot_nonneg (l := l) l.length (fun j hj => ⟨by have := coin_rng hc hj; omega,hz.1 j hj⟩)
 rw [hz.2] at h0
 refine ⟨k,hk,by omega,((best_is hc _ (by omega)).2 (up (bF l x) k (-1)) ?_).1⟩
 have e : ((x - (l.getD k 0).toNat : Nat) : Int) = x - l.getD k 0 := by omega
 rw [e]; exact hz
theorem chain {l : List Int} (hc : Coins l) : ∀ n z,z≤n→z≤9999→canB l z = true→∃ ss : List Nat,(z : Int) + lastF l≤ss.length * lastF l∧(∀ s ∈ ss,s≤z∧canB l s = true)∧ss.Pairwise (fun s t => t < s∧canB l (z - s + t) = true) := by
 intro n
 induction n with
 | zero =>
   intro z hn _ h
   obtain rfl : z = 0 := by omega
   exact ⟨[0],by simp,fun s hs => by rw [List.mem_singleton] at hs; subst hs; exact ⟨Nat.le_refl _,h⟩,List.pairwise_singleton _ _⟩
 | succ n ih =>
   intro z hn h9 h
   by_cases hz : z = 0
   · subst hz
     exact ⟨[0],by simp,fun s hs => by rw [List.mem_singleton] at hs; subst hs; exact ⟨Nat.le_refl _,h⟩,List.pairwise_singleton _ _⟩
   · obtain ⟨k,hk,h1,h2⟩ := sub_coin hc (by omega) h9 h
     have hr := coin_rng hc hk
     have hl := coin_last hc hk
     obtain ⟨ss,a1,a2,a3⟩ := ih (z - (l.getD k 0).toNat) (by omega) (by omega) h2
     refine ⟨z :: ss,?_,?_,List.pairwise_cons.2 ⟨fun t ht => ⟨by have := (a2 t ht).1; omega,?_⟩,a3.imp_of_mem fun {s t} hs ht ⟨b1,b2⟩ => ⟨b1,?_⟩⟩⟩
     · rw [List.length_cons,Int.natCast_add,Int.add_mul]; omega
     · intro s hs
       rcases List.mem_cons.1 hs with rfl | hs
       · exact ⟨Nat.le_refl _,h⟩
       · have := a2 s hs
         exact ⟨by omega,this.2⟩
     · rw [Nat.sub_self,Nat.zero_add]; exact (a2 t ht).2
     · have hs2 := (a2 s hs).1
       have := add_coin hc hk (y := z - (l.getD k 0).toNat - s + t) (by omega) b2
       rw [show z - s + t = z - (l.getD k 0).toNat - s + t + (l.getD k 0).toNat by omega]
       exact this
theorem len_leN {l : List Nat} : ∀ {k : List Nat},k.Nodup→(∀ x ∈ k,x ∈ l)→k.length≤l.length
 | [],_,_ => Nat.zero_le _
 | x :: k,hn,h => by
   obtain ⟨h1,h2⟩ := List.nodup_cons.1 hn
   have hx := h x List.mem_cons_self
   have := len_leN (l := l.erase x) (k := k) h2 fun y hy => (List.mem_erase_of_ne (fun (e : y = x) => h1 (e ▸ hy))).2 (h y (List.mem_cons_of_mem _ hy))
   rw [List.length_erase_of_mem hx] at this
   have : 0 < l.length := List.length_pos_of_mem hx
   rw [List.length_cons]
   omega
theorem least_top {l : List Int} (hc : Coins l) {z : Nat} (h9 : z≤9999) (h : canB l z = true) (hm : ∀ y,y < z→y % (fstF l).toNat = z % (fstF l).toNat→canB l y = false) : z≤topF l := by
 have hf := fst_rng hc
 have hl := last_rng hc
 obtain ⟨ss,a1,a2,a3⟩ := chain hc z z (Nat.le_refl _) h9 h
 have hnd : (ss.map (· % (fstF l).toNat)).Nodup := by
   rw [List.Nodup,List.pairwise_map]
   refine a3.imp_of_mem fun {s t} hs ht ⟨b1,b2⟩ e => ?_
   have hs2 := (a2 s hs).1
   have := hm (z - s + t) (by omega) (by
     conv => rhs; rw [show z = z - s + s by omega]
     rw [Nat.add_mod,← e,← Nat.add_mod])
   rw [b2] at this; cases this
 have hlen := len_leN (l := List.range (fstF l).toNat) hnd fun x hx => by
   obtain ⟨s,_,rfl⟩ := List.mem_map.1 hx
   exact List.mem_range.2 (Nat.mod_lt _ (by omega))
 rw [List.length_map,List.length_range] at hlen
 have h1 := Int.mul_le_mul_of_nonneg_right (show (ss.length : Int)≤fstF l by omega) (show 0≤lastF l by omega)
 rw [topF]; omega
theorem pay_least {l : List Int} (hc : Coins l) : ∀ n z,z≤n→z≤9999→canB l z = true→∃ y,y≤z∧y≤topF l∧y % (fstF l).toNat = z % (fstF l).toNat∧canB l y = true := by
 intro n
 induction n with
 | zero =>
   intro z hn h9 h
   exact ⟨z,Nat.le_refl _,by omega,rfl,h⟩
 | succ n ih =>
   intro z hn h9 h
   by_cases hx : ∃ y,y < z∧y % (fstF l).toNat = z % (fstF l).toNat∧canB l y = true
   · obtain ⟨y,h1,h2,h3⟩ := hx
     obtain ⟨x,k1,k2,k3,k4⟩ := ih y (by omega) (by omega) h3
     exact ⟨x,by omega,k2,by rw [k3,h2],k4⟩
   · refine ⟨z,Nat.le_refl _,least_top hc h9 h fun y h1 h2 => ?_,rfl,h⟩
     cases hy : canB l y with
     | false => rfl
     | true => exact absurd ⟨y,h1,h2,hy⟩ hx
theorem add_firsts {l : List Int} (hc : Coins l) {y : Nat} (h : canB l y = true) : ∀ n,y + (fstF l).toNat * n≤9999→canB l (y + (fstF l).toNat * n) = true
 | 0,_ => by rw [Nat.mul_zero,Nat.add_zero]; exact h
 | n + 1,hn => by
   rw [Nat.mul_succ] at hn ⊢
   have := add_coin hc hc.pos (y := y + (fstF l).toNat * n) (by show _ + (fstF l).toNat≤9999; omega) (add_firsts hc h n (by omega))
   rw [← Nat.add_assoc]; exact this
theorem tmodN {n : Nat} {f : Int} (hf : 1≤f) : ((n : Int).tmod f).toNat = n % f.toNat := by
 obtain ⟨F,rfl⟩ : ∃ F : Nat,f = F := ⟨f.toNat,by omega⟩
 rw [Int.tmod_eq_emod_of_nonneg (by omega),← Int.natCast_emod,Int.toNat_natCast,Int.toNat_natCast]
theorem rs_at {l : List Int} (hc : Coins l) {j : Nat} (hj : j < (fstF l).toNat) : ∀ n,((rsF l n).getD j 0 = -1∧∀ a,a < n→a % (fstF l).toNat = j→canB l a = false)∨∃ a : Nat,a < n∧(rsF l n).getD j 0 = a∧a % (fstF l).toNat = j∧canB l a = true∧∀ b,b < n→b % (fstF l).toNat = j→canB l b = true→a≤b := by
 have hf := fst_rng hc
 intro n
 induction n with
 | zero => exact .inl ⟨by rw [rsF,List.getD_eq_getElem?_getD,List.getElem?_replicate,if_pos hj]; rfl,fun a h => by omega⟩
 | succ n ih =>
   have hk : ((n : Int).tmod (fstF l)).toNat = n % (fstF l).toNat := tmodN hf.1
   have hlen := rs_len (l := l) n
   rw [rsF,hk]
   by_cases hb : canB l n = true∧(rsF l n).getD (n % (fstF l).toNat) 0 = -1
   · rw [show (canB l n && (rsF l n).getD (n % (fstF l).toNat) 0 == -1) = true by rw [hb.1,hb.2]; rfl]
     show (((rsF l n).set _ _).getD j 0 = -1∧_)∨∃ a : Nat,a < n + 1∧((rsF l n).set _ _).getD j 0 = a∧_
     by_cases e : n % (fstF l).toNat = j
     · refine .inr ⟨n,by omega,by rw [e,List.getD_eq_getElem?_getD,List.getElem?_set_self (by omega)]; rfl,e,hb.1,fun b h1 h2 h3 => ?_⟩
       rcases ih with ⟨_,i2⟩ | ⟨a,_,i2,_⟩
       · by_cases hbn : b = n
         · omega
         · have := i2 b (by omega) h2
           rw [h3] at this; cases this
       · have := hb.2
         rw [e,i2] at this; omega
     · rw [List.getD_eq_getElem?_getD,List.getElem?_set_ne e,← List.getD_eq_getElem?_getD]
       rcases ih with ⟨i1,i2⟩ | ⟨a,i1,i2,i3,i4,i5⟩
       · exact .inl ⟨i1, fun a h1 h2 => i2 a (by
           by_cases ha : a = n
           · subst ha; exact absurd h2 e
           · omega) h2⟩
       · exact .inr ⟨a, by omega, i2, i3, i4, fun b h1 h2 h3 => by
           by_cases hbn : b = n
           · omega
           · exact i5 b (by omega) h2 h3⟩
   · rw [show (canB l n && (rsF l n).getD (n % (fstF l).toNat) 0 == -1) = false by
       rw [Bool.eq_false_iff]
       intro h
       rw [Bool.and_eq_true,beq_iff_eq] at h
       exact hb h]
     show ((rsF l n).getD j 0 = -1∧_)∨∃ a : Nat,a < n + 1∧(rsF l n).getD j 0 = a∧_
     rcases ih with ⟨i1,i2⟩ | ⟨a,i1,i2,i3,i4,i5⟩
     · refine .inl ⟨i1,fun a h1 h2 => ?_⟩
       by_cases ha : a = n
       · subst ha
         cases hx : canB l a with
         | false => rfl
         | true => exact absurd ⟨hx,by rw [h2]; exact i1⟩ hb
       · exact i2 a (by omega) h2
     · exact .inr ⟨a, by omega, i2, i3, i4, fun b h1 h2 h3 => by
         by_cases hbn : b = n
         · omega
         · exact i5 b (by omega) h2 h3⟩
theorem res_yes {l : List Int} (hc : Coins l) {j : Nat} (hj : j < (fstF l).toNat) (h : 0≤(resF l).getD j 0) : ((resF l).getD j 0).toNat % (fstF l).toNat = j∧∀ x : Nat,x≤9999→x % (fstF l).toNat = j→canB l x = decide ((resF l).getD j 0≤x) := by
 rcases rs_at hc hj (topF l + 1) with ⟨h2,_⟩ | ⟨a,a1,a2,a3,a4,a5⟩
 · have e : (resF l).getD j 0 = -1 := h2
   omega
 · have e : (resF l).getD j 0 = a := a2
   rw [e]
   refine ⟨a3,fun x hx hr => ?_⟩
   by_cases hax : a≤x
   · rw [decide_eq_true (by omega)]
     have hd := Nat.div_add_mod x (fstF l).toNat
     have hd2 := Nat.div_add_mod a (fstF l).toNat
     have hle := Nat.div_le_div_right (c := (fstF l).toNat) hax
     have e2 : x = a + (fstF l).toNat * (x / (fstF l).toNat - a / (fstF l).toNat) := by
       rw [Nat.mul_sub]
       have := Nat.mul_le_mul_left (fstF l).toNat hle
       omega
     rw [e2]
     exact add_firsts hc a4 _ (by omega)
   · rw [decide_eq_false (by omega)]
     cases hb : canB l x with
     | false => rfl
     | true =>
       obtain ⟨y,k1,k2,k3,k4⟩ := pay_least hc x x (Nat.le_refl _) hx hb
       have := a5 y (by omega) (by rw [k3,hr]) k4
       omega
theorem tdiv_rng {v f : Int} (hv : -1≤v) (hv2 : v≤2501) (hf : 1≤f) : -1≤v.tdiv f∧v.tdiv f≤2501 := by
 by_cases h : 0≤v
 · have := div_bd h hf
   omega
 · obtain rfl : v = -1 := by omega
   rw [Int.neg_tdiv]
   have := div_bd (r := 1) (by omega) hf
   omega
theorem sm_rng {r : List Int} {f : Int} (hf : 1≤f) (h : ∀ j,j < r.length→-1≤r.getD j 0∧r.getD j 0≤2501) : ∀ i : Nat,i≤r.length→-(i : Int)≤smF r f i∧smF r f i≤2501 * i
 | 0,_ => by simp [smF]
 | i + 1,hi => by
   have h1 := sm_rng hf h i (by omega)
   have h2 := h i (by omega)
   have h3 := tdiv_rng h2.1 h2.2 hf
   rw [smF]
   omega
theorem sm_zero {r : List Int} {f : Int} : ∀ i,(∀ j,j < i→0≤r.getD j 0∧r.getD j 0 < f)→smF r f i = 0
 | 0,_ => rfl
 | i + 1,h => by
   have h1 := h i (by omega)
   rw [smF,sm_zero i fun j hj => h j (by omega),Int.tdiv_eq_zero_of_lt h1.1 h1.2]; rfl
theorem ms_mx {r : List Int} {f : Int} : ∀ i : Nat,msF r f (i + 1) = if mxF r i - f > -1 then mxF r i - f else -1
 | 0 => rfl
 | i + 1 => by
   rw [msF,ms_mx i,mxF]
   split <;> split <;> split <;> omega
theorem mx_ge {r : List Int} : ∀ i j : Nat,j≤i→r.getD j 0≤mxF r i
 | 0,j,h => by
   obtain rfl : j = 0 := by omega
   exact Int.le_refl _
 | i + 1,j,h => by
   rw [mxF]
   by_cases e : j = i + 1
   · subst e
     split <;> omega
   · have := mx_ge (r := r) i j (by omega)
     split <;> omega
theorem mx_at {r : List Int} : ∀ i : Nat,∃ j,j≤i∧mxF r i = r.getD j 0
 | 0 => ⟨0,Nat.le_refl _,rfl⟩
 | i + 1 => by
   obtain ⟨j,h1,h2⟩ := mx_at (r := r) i
   rw [mxF]
   split
   · exact ⟨i + 1,Nat.le_refl _,rfl⟩
   · exact ⟨j,by omega,h2⟩
theorem en_at {r : List Int} : ∀ i : Nat,enF r i = true→∃ j,j < i∧r.getD j 0 < 0
 | 0,h => by cases h
 | i + 1,h => by
   rw [enF,Bool.or_eq_true,decide_eq_true_eq] at h
   rcases h with h | h
   · obtain ⟨j,h1,h2⟩ := en_at i h
     exact ⟨j,by omega,h2⟩
   · exact ⟨i,by omega,h⟩
theorem en_no {r : List Int} : ∀ i : Nat,enF r i = false→∀ j,j < i→0≤r.getD j 0
 | 0,_,j,hj => by omega
 | i + 1,h,j,hj => by
   rw [enF,Bool.or_eq_false_iff,decide_eq_false_iff_not] at h
   by_cases e : j = i
   · subst e; omega
   · exact en_no i h.1 j (by omega)
theorem mod_gap {a q F : Nat} (h : q % F = a % F) (h2 : a < q) : a + F≤q := by
 have h3 := Nat.sub_mod_eq_zero_of_mod_eq h
 by_cases e : a + F≤q
 · exact e
 · rw [Nat.mod_eq_of_lt (by omega)] at h3; omega
theorem rd_facts {l : List Int} (hc : Coins l) {a : Nat} (ha : a≤300) :
   (enF (resF l) (resF l).length = true→gtE l = 4∧mnE l = 4) ∧
   (enF (resF l) (resF l).length = false→msF (resF l) (fstF l) (resF l).length < 0→gtE l = 5∧mnE l = 0∧mnV l = 0∧canB l a = true) ∧
   (enF (resF l) (resF l).length = false→¬ msF (resF l) (fstF l) (resF l).length < 0→gtE l = 0∧gtV l = msF (resF l) (fstF l) (resF l).length∧mnE l = 0∧mnV l = smF (resF l) (fstF l) (resF l).length∧(canB l a = false→(a : Int)≤gtV l)∧(canB l a = true→(a : Int) ≠ gtV l)) := by
 have hf := fst_rng hc
 have hlen : (resF l).length = (fstF l).toNat := res_len
 have h0 : ¬ errC l ≠ 0 := fun h => h (errC_ok.2 hc)
 have hb := fun j (hj : j < (resF l).length) => res_bd hc hj
 have hms := ms_mx (r := resF l) (f := fstF l) ((resF l).length - 1)
 rw [show (resF l).length - 1 + 1 = (resF l).length by omega] at hms
 have hj : a % (fstF l).toNat < (fstF l).toNat := Nat.mod_lt _ (by omega)
 have nc : enF (resF l) (resF l).length = false→(resF l).contains (-1) = false := fun h => by
   rw [Bool.eq_false_iff]
   intro h2
   rw [List.contains_iff_mem] at h2
   obtain ⟨j,h3,h4⟩ := List.getElem_of_mem h2
   have := en_no _ h j h3
   rw [List.getD_eq_getElem?_getD,List.getElem?_eq_getElem h3,h4] at this
   simp at this
 refine ⟨fun h => ?_,fun h h2 => ?_,fun h h2 => ?_⟩
 · obtain ⟨j,h1,h2⟩ := en_at _ h
   have hx : (resF l).contains (-1) = true := by
     cases hx : (resF l).contains (-1) with
     | true => rfl
     | false =>
       have := not_cont hx h1
       have := hb j h1
       omega
   exact ⟨by rw [gtE,if_neg h0,hx]; rfl,by rw [mnE,if_neg h0,hx]; rfl⟩
 · have hx := nc h
   have hm : mxF (resF l) ((resF l).length - 1) - fstF l < 0 := by
     rw [hms] at h2
     split at h2 <;> omega
   have hs : ∀ j,j < (resF l).length→0≤(resF l).getD j 0∧(resF l).getD j 0 < fstF l := fun j hj => ⟨en_no _ h j hj,by have := mx_ge (r := resF l) ((resF l).length - 1) j (by omega); omega⟩
   have e1 : mnE l = 0 := by rw [mnE,if_neg h0,hx]; rfl
   refine ⟨by rw [gtE,if_neg h0,hx]; show (if _ then (5 : Int) else 0) = 5; rw [if_pos hm],e1,by rw [mnV,if_pos e1,sm_zero _ hs],?_⟩
   have hr := hs _ (by rw [hlen]; exact hj)
   obtain ⟨k1,k2⟩ := res_yes hc hj hr.1
   rw [k2 a (by omega) rfl,decide_eq_true_eq]
   rw [Nat.mod_eq_of_lt (by omega)] at k1
   have := Nat.mod_le a (fstF l).toNat
   omega
 · have hx := nc h
   have hm : ¬ mxF (resF l) ((resF l).length - 1) - fstF l < 0 := fun h3 => by
     rw [hms] at h2
     split at h2 <;> omega
   have hg : mxF (resF l) ((resF l).length - 1) - fstF l = msF (resF l) (fstF l) (resF l).length := by rw [hms,if_pos (by omega)]
   have e0 : gtE l = 0 := by rw [gtE,if_neg h0,hx]; show (if _ then (5 : Int) else 0) = 0; rw [if_neg hm]
   have e1 : mnE l = 0 := by rw [mnE,if_neg h0,hx]; rfl
   have e2 : gtV l = mxF (resF l) ((resF l).length - 1) - fstF l := by rw [gtV,if_pos e0]
   have hr := en_no _ h _ (by rw [hlen]; exact hj)
   obtain ⟨k1,k2⟩ := res_yes hc hj hr
   have k3 := k2 a (by omega) rfl
   refine ⟨e0,by rw [e2,hg],e1,by rw [mnV,if_pos e1],fun h3 => ?_,fun h3 h4 => ?_⟩
   · rw [k3,decide_eq_false_iff_not] at h3
     have := mod_gap (F := (fstF l).toNat) (a := a) (q := ((resF l).getD (a % (fstF l).toNat) 0).toNat) k1 (by omega)
     have := mx_ge (r := resF l) ((resF l).length - 1) (a % (fstF l).toNat) (by omega)
     rw [e2]; omega
   · obtain ⟨j,j1,j2⟩ := mx_at (r := resF l) ((resF l).length - 1)
     have jr := en_no _ h j (by omega)
     obtain ⟨q1,q2⟩ := res_yes hc (j := j) (by omega) jr
     have e3 : ((resF l).getD j 0).toNat = a + (fstF l).toNat := by rw [e2,j2] at h4; omega
     rw [e3,Nat.add_mod_right] at q1
     have := q2 a (by omega) q1
     rw [h3] at this
     have := of_decide_eq_true this.symm
     omega
end Go.Pier.Fl
namespace Go.Pier.Fl
open Go Go.Pier Go.Proofs
def nxF (r l : List Int) (a : Nat) : Nat→Int
 | 0 => 0
 | i + 1 => if l.getD i 0≤a then (if r.getD ((a : Int) - l.getD i 0).toNat 0 > nxF r l a i then r.getD ((a : Int) - l.getD i 0).toNat 0 else nxF r l a i) else nxF r l a i
def cR (l : List Int) : Nat→List Int
 | 0 => [1]
 | a + 1 => cR l a ++ [nxF (cR l a) l (a + 1) l.length]
def wS (b m : Nat) : Value := .slice (some ⟨b,0,some 0⟩) m 0
noncomputable def roB : Code := Try.f82.body.getD .skip
def roJ (l : List Int) (c : Nat) (t5 : Value) (o : AObj) (a : Nat) : Nat→Option LInv := invOf 4 (LInv.one Nat (fun i => i≤l.length) (fun i => [(0,.slice (some ⟨0,0,none⟩) l.length c),(3,wS 1 (fstF l).toNat),(5,t5),(6,vi a),(7,vi (nxF (cR l (a - 1)) l a i)),(8,vi i)]) (fun _ => [ros l,rws (List.replicate (fstF l).toNat (-1)),o]) (fun i => l.length - i))
def ro0 (l : List Int) (c : Nat) : LInv := .mk [
     ⟨Unit,fun _ => True,fun _ => [(0,.slice (some ⟨0,0,none⟩) l.length c),(3,.slice none 0 0),(4,vi 0)],fun _ => [ros l],fun _ => 60,fun _ _ => none⟩,
     ⟨Nat,fun i => 0 < i∧i≤(fstF l).toNat,fun i => [(0,.slice (some ⟨0,0,none⟩) l.length c),(3,wS 1 i),(4,vi i)],fun i => [ros l,rws (List.replicate i (-1))],fun i => 52 - i,fun _ _ => none⟩]
   (fun _ b => b) (fun i _ => [nsub 1 (i + 2)])
def ro2 (l : List Int) (c : Nat) : LInv := .mk [
     ⟨Unit,fun _ => True,fun _ => [(0,.slice (some ⟨0,0,none⟩) l.length c),(3,wS 1 (fstF l).toNat),(5,.slice (some ⟨2,0,none⟩) 1 1),(6,vi 1)],fun _ => [ros l,rws (List.replicate (fstF l).toNat (-1)),.rw [vi 1] none],fun _ => 5001,fun _ => roJ l c (.slice (some ⟨2,0,none⟩) 1 1) (.rw [vi 1] none) 1⟩,
     ⟨Nat,fun a => 2≤a∧a≤5001,fun a => [(0,.slice (some ⟨0,0,none⟩) l.length c),(3,wS 1 (fstF l).toNat),(5,wS 2 a),(6,vi a)],fun a => [ros l,rws (List.replicate (fstF l).toNat (-1)),rws (cR l (a - 1))],fun a => 5002 - a,fun a => roJ l c (wS 2 a) (rws (cR l (a - 1))) a⟩]
   (fun _ b => b) (fun _ _ => [nsub 2 4])
def ro6 (l : List Int) (c n : Nat) : LInv := LInv.one Nat (fun b => b≤5001) (fun b => [(0,.slice (some ⟨0,0,none⟩) l.length c),(3,wS 1 (fstF l).toNat),(5,wS 2 5001),(9,vi b)]) (fun b => [ros l,rws (rsF l b),rws (cR l n)]) (fun b => 5001 - b)
def roI (l : List Int) (c n : Nat) : Nat→Option LInv := fun k => match Nat.beq k 0 with
 | true => some (ro0 l c)
 | false => match Nat.beq k 2 with
   | true => some (ro2 l c)
   | false => match Nat.beq k 6 with
     | true => some (ro6 l c n)
     | false => none
noncomputable def roV :=
fun (l:List Int) (c n m:Nat)↦((∃ (y:Unit),Ob True∧(Ob (AObj.ro (List.map (Value.int IntKind.i64) l)=AObj.ro (List.map (nmap1 fun (b:Nat)↦b) (List.map (Value.int IntKind.i64) l))∧AObj.sc 1 (AObj.ro (List.map (Value.int IntKind.i64) l))=true)∧True)∧Ob (Value.slice (some (ad0 0)) l.length c=Value.slice (some (ad0 0)) l.length c)∧Ob (Value.slice none 0 0=Value.slice none 0 0)∧Ob ((0:Int)=(0:Int))∧True)∨∃ (y:Nat),Ob (0<y∧y≤(fstF l).toNat)∧(Ob (AObj.ro (List.map (Value.int IntKind.i64) l)=AObj.ro (List.map (nmap1 fun (b:Nat)↦b) (List.map (Value.int IntKind.i64) l))∧AObj.sc 2 (AObj.ro (List.map (Value.int IntKind.i64) l))=true)∧False)∧Ob (Value.slice (some (ad0 0)) l.length c=Value.slice (some (ad0 0)) l.length c)∧Ob (Value.slice none 0 0=Value.slice (some ⟨1,0,some 0⟩) y 0)∧Ob ((0:Int)=(y:Int))∧True)∧(∀ (x:Unit),Ob True→Ob ((0:Int)≤(0:Int)∧(0:Int)<(l.length:Int)∧true=true)∧Ob (IntAt IntKind.i64 (List.map (Value.int IntKind.i64) l) 0)∧(decide ((0:Int)<getI (List.map (Value.int IntKind.i64) l) 0)=true→Ob (andP (some (0+1≤1∧true=true)) (1≤1099511627776∧2064≤281474976710656∧1=1∧0=0∧0<1))∧((∃ (y:Unit),Ob True∧Ob (60<60)∧(Ob (AObj.ro (List.map (Value.int IntKind.i64) l)=AObj.ro (List.map (nmap1 (nsub 1 2)) (List.map (Value.int IntKind.i64) l))∧AObj.sc 1 (AObj.ro (List.map (Value.int IntKind.i64) l))=true)∧True)∧Ob (Value.slice (some (ad0 0)) l.length c=Value.slice (some (ad0 0)) l.length c)∧Ob (Value.slice (some ⟨2,0,some 0⟩) 1 0=Value.slice none 0 0)∧Ob (IntKind.i64.wrap ((0:Int)+(1:Int))=(0:Int))∧True)∨∃ (y:Nat),Ob (0<y∧y≤(fstF l).toNat)∧Ob (52-y<60)∧(Ob (AObj.ro (List.map (Value.int IntKind.i64) l)=AObj.ro (List.map (nmap1 (nsub 1 2)) (List.map (Value.int IntKind.i64) l))∧AObj.sc 2 (AObj.ro (List.map (Value.int IntKind.i64) l))=true)∧Ob (AObj.rw [vi (-1:Int)] (some 1)=AObj.rw (List.map (nmap1 (nsub 1 2)) (List.map (Value.int IntKind.i64) (List.replicate y (-1:Int)))) (some 1)∧AObj.sc 2 (AObj.rw (List.map (Value.int IntKind.i64) (List.replicate y (-1:Int))) (some 1))=true)∧True)∧Ob (Value.slice (some (ad0 0)) l.length c=Value.slice (some (ad0 0)) l.length c)∧Ob (Value.slice (some ⟨2,0,some 0⟩) 1 0=Value.slice (some ⟨2,0,some 0⟩) y 0)∧Ob (IntKind.i64.wrap ((0:Int)+(1:Int))=(y:Int))∧True))∧(decide ((0:Int)<getI (List.map (Value.int IntKind.i64) l) 0)=false→((∃ (y:Unit),Ob True∧(Ob (AObj.ro (List.map (Value.int IntKind.i64) l)=AObj.ro (List.map (nmap1 fun (b:Nat)↦b) (List.map (Value.int IntKind.i64) l))∧AObj.sc 3 (AObj.ro (List.map (Value.int IntKind.i64) l))=true)∧Ob (AObj.rw [vi (1:Int)] none=AObj.rw (List.map (nmap1 fun (b:Nat)↦b) (List.map (Value.int IntKind.i64) (List.replicate (fstF l).toNat (-1:Int)))) (some 1)∧AObj.sc 3 (AObj.rw (List.map (Value.int IntKind.i64) (List.replicate (fstF l).toNat (-1:Int))) (some 1))=true)∧False)∧Ob (Value.slice (some (ad0 0)) l.length c=Value.slice (some (ad0 0)) l.length c)∧Ob (Value.slice none 0 0=Value.slice (some ⟨1,0,some 0⟩) (fstF l).toNat 0)∧Ob (Value.slice (some (ad0 1)) 1 1=Value.slice (some (ad0 2)) 1 1)∧Ob ((1:Int)=(1:Int))∧True)∨∃ (y:Nat),Ob (2≤y∧y≤5001)∧(Ob (AObj.ro (List.map (Value.int IntKind.i64) l)=AObj.ro (List.map (nmap1 fun (b:Nat)↦b) (List.map (Value.int IntKind.i64) l))∧AObj.sc 3 (AObj.ro (List.map (Value.int IntKind.i64) l))=true)∧Ob (AObj.rw [vi (1:Int)] none=AObj.rw (List.map (nmap1 fun (b:Nat)↦b) (List.map (Value.int IntKind.i64) (List.replicate (fstF l).toNat (-1:Int)))) (some 1)∧AObj.sc 3 (AObj.rw (List.map (Value.int IntKind.i64) (List.replicate (fstF l).toNat (-1:Int))) (some 1))=true)∧False)∧Ob (Value.slice (some (ad0 0)) l.length c=Value.slice (some (ad0 0)) l.length c)∧Ob (Value.slice none 0 0=Value.slice (some ⟨1,0,some 0⟩) (fstF l).toNat 0)∧Ob (Value.slice (some (ad0 1)) 1 1=Value.slice (some ⟨2,0,some 0⟩) y 0)∧Ob ((1:Int)=(y:Int))∧True)∧(∀ (x:Unit),Ob True→(true=true→(∃ (y:Nat),Ob (y≤l.length)∧(Ob (AObj.ro (List.map (Value.int IntKind.i64) l)=AObj.ro (List.map (nmap1 fun (b:Nat)↦b) (List.map (Value.int IntKind.i64) l))∧AObj.sc 3 (AObj.ro (List.map (Value.int IntKind.i64) l))=true)∧Ob (AObj.rw (List.map (Value.int IntKind.i64) (List.replicate (fstF l).toNat (-1:Int))) (some 1)=AObj.rw (List.map (nmap1 fun (b:Nat)↦b) (List.map (Value.int IntKind.i64) (List.replicate (fstF l).toNat (-1:Int)))) (some 1)∧AObj.sc 3 (AObj.rw (List.map (Value.int IntKind.i64) (List.replicate (fstF l).toNat (-1:Int))) (some 1))=true)∧Ob (AObj.rw [vi (1:Int)] none=AObj.rw [vi (1:Int)] none∧true=true)∧True)∧Ob (Value.slice (some (ad0 0)) l.length c=Value.slice (some (ad0 0)) l.length c)∧Ob (Value.slice (some ⟨1,0,some 0⟩) (fstF l).toNat 0=Value.slice (some ⟨1,0,some 0⟩) (fstF l).toNat 0)∧Ob (Value.slice (some (ad0 2)) 1 1=Value.slice (some (ad0 2)) 1 1)∧Ob ((1:Int)=(↑(1:Nat):Int))∧Ob ((0:Int)=nxF [(1:Int)] l 1 y)∧Ob ((0:Int)=(y:Int))∧True)∧∀ (x:Nat),Ob (x≤l.length)→(decide ((x:Int)<(l.length:Int))=true→Ob ((0:Int)≤(x:Int)∧(x:Int)<(l.length:Int)∧true=true)∧Ob (IntAt IntKind.i64 (List.map (Value.int IntKind.i64) l) (0+(x:Int).toNat * 1))∧(decide (getI (List.map (Value.int IntKind.i64) l) (0+(x:Int).toNat * 1)≤(↑(1:Nat):Int))=true→Ob ((0:Int)≤(x:Int)∧(x:Int)<(l.length:Int)∧true=true)∧Ob (IntAt IntKind.i64 (List.map (Value.int IntKind.i64) l) (0+(x:Int).toNat * 1))∧Ob ((0:Int)≤IntKind.i64.wrap ((↑(1:Nat):Int)-getI (List.map (Value.int IntKind.i64) l) (0+(x:Int).toNat * 1))∧IntKind.i64.wrap ((↑(1:Nat):Int)-getI (List.map (Value.int IntKind.i64) l) (0+(x:Int).toNat * 1))<(↑(1:Nat):Int)∧true=true)∧Ob (IntAt IntKind.i64 [vi (1:Int)] (0+(IntKind.i64.wrap ((↑(1:Nat):Int)-getI (List.map (Value.int IntKind.i64) l) (0+(x:Int).toNat * 1))).toNat * 1))∧∃ (y:Nat),Ob (y≤l.length)∧Ob (l.length-y<l.length-x)∧(Ob (AObj.ro (List.map (Value.int IntKind.i64) l)=AObj.ro (List.map (nmap1 fun (b:Nat)↦b) (List.map (Value.int IntKind.i64) l))∧AObj.sc 3 (AObj.ro (List.map (Value.int IntKind.i64) l))=true)∧Ob (AObj.rw (List.map (Value.int IntKind.i64) (List.replicate (fstF l).toNat (-1:Int))) (some 1)=AObj.rw (List.map (nmap1 fun (b:Nat)↦b) (List.map (Value.int IntKind.i64) (List.replicate (fstF l).toNat (-1:Int)))) (some 1)∧AObj.sc 3 (AObj.rw (List.map (Value.int IntKind.i64) (List.replicate (fstF l).toNat (-1:Int))) (some 1))=true)∧Ob (AObj.rw [vi (1:Int)] none=AObj.rw [vi (1:Int)] none∧true=true)∧True)∧Ob (Value.slice (some (ad0 0)) l.length c=Value.slice (some (ad0 0)) l.length c)∧Ob (Value.slice (some ⟨1,0,some 0⟩) (fstF l).toNat 0=Value.slice (some ⟨1,0,some 0⟩) (fstF l).toNat 0)∧Ob (Value.slice (some (ad0 2)) 1 1=Value.slice (some (ad0 2)) 1 1)∧Ob ((↑(1:Nat):Int)=(↑(1:Nat):Int))∧Ob ((if getI [vi (1:Int)] (0+(IntKind.i64.wrap ((↑(1:Nat):Int)-getI (List.map (Value.int IntKind.i64) l) (0+(x:Int).toNat * 1))).toNat * 1) > nxF [(1:Int)] l 1 x then getI [vi (1:Int)] (0+(IntKind.i64.wrap ((↑(1:Nat):Int)-getI (List.map (Value.int IntKind.i64) l) (0+(x:Int).toNat * 1))).toNat * 1) else nxF [(1:Int)] l 1 x)=nxF [(1:Int)] l 1 y)∧Ob (IntKind.i64.wrap ((x:Int)+(1:Int))=(y:Int))∧True)∧(decide (getI (List.map (Value.int IntKind.i64) l) (0+(x:Int).toNat * 1)≤(↑(1:Nat):Int))=false→∃ (y:Nat),Ob (y≤l.length)∧Ob (l.length-y<l.length-x)∧(Ob (AObj.ro (List.map (Value.int IntKind.i64) l)=AObj.ro (List.map (nmap1 fun (b:Nat)↦b) (List.map (Value.int IntKind.i64) l))∧AObj.sc 3 (AObj.ro (List.map (Value.int IntKind.i64) l))=true)∧Ob (AObj.rw (List.map (Value.int IntKind.i64) (List.replicate (fstF l).toNat (-1:Int))) (some 1)=AObj.rw (List.map (nmap1 fun (b:Nat)↦b) (List.map (Value.int IntKind.i64) (List.replicate (fstF l).toNat (-1:Int)))) (some 1)∧AObj.sc 3 (AObj.rw (List.map (Value.int IntKind.i64) (List.replicate (fstF l).toNat (-1:Int))) (some 1))=true)∧Ob (AObj.rw [vi (1:Int)] none=AObj.rw [vi (1:Int)] none∧true=true)∧True)∧Ob (Value.slice (some (ad0 0)) l.length c=Value.slice (some (ad0 0)) l.length c)∧Ob (Value.slice (some ⟨1,0,some 0⟩) (fstF l).toNat 0=Value.slice (some ⟨1,0,some 0⟩) (fstF l).toNat 0)∧Ob (Value.slice (some (ad0 2)) 1 1=Value.slice (some (ad0 2)) 1 1)∧Ob ((↑(1:Nat):Int)=(↑(1:Nat):Int))∧Ob (nxF [(1:Int)] l 1 x=nxF [(1:Int)] l 1 y)∧Ob (IntKind.i64.wrap ((x:Int)+(1:Int))=(y:Int))∧True))∧(decide ((x:Int)<(l.length:Int))=false→Ob (andP (some (0+1≤1∧true=true)) (2≤1099511627776∧2080≤281474976710656∧1=1∧1<2∧1≤1))∧((∃ (y:Unit),Ob True∧Ob (5001<5001)∧(Ob (AObj.ro (List.map (Value.int IntKind.i64) l)=AObj.ro (List.map (nmap1 (nsub 2 4)) (List.map (Value.int IntKind.i64) l))∧AObj.sc 3 (AObj.ro (List.map (Value.int IntKind.i64) l))=true)∧Ob (AObj.rw (List.map (Value.int IntKind.i64) (List.replicate (fstF l).toNat (-1:Int))) (some 1)=AObj.rw (List.map (nmap1 (nsub 2 4)) (List.map (Value.int IntKind.i64) (List.replicate (fstF l).toNat (-1:Int)))) (some 1)∧AObj.sc 3 (AObj.rw (List.map (Value.int IntKind.i64) (List.replicate (fstF l).toNat (-1:Int))) (some 1))=true)∧Ob (AObj.rw [vi (1:Int),vi (nxF [(1:Int)] l 1 x)] (some 1)=AObj.rw [vi (1:Int)] none∧true=true)∧True)∧Ob (Value.slice (some (ad0 0)) l.length c=Value.slice (some (ad0 0)) l.length c)∧Ob (Value.slice (some ⟨1,0,some 0⟩) (fstF l).toNat 0=Value.slice (some ⟨1,0,some 0⟩) (fstF l).toNat 0)∧Ob (Value.slice (some ⟨4,0,some 0⟩) 2 0=Value.slice (some (ad0 4)) 1 1)∧Ob (IntKind.i64.wrap ((↑(1:Nat):Int)+(1:Int))=(1:Int))∧True)∨∃ (y:Nat),Ob (2≤y∧y≤5001)∧Ob (5002-y<5001)∧(Ob (AObj.ro (List.map (Value.int IntKind.i64) l)=AObj.ro (List.map (nmap1 (nsub 2 4)) (List.map (Value.int IntKind.i64) l))∧AObj.sc 3 (AObj.ro (List.map (Value.int IntKind.i64) l))=true)∧Ob (AObj.rw (List.map (Value.int IntKind.i64) (List.replicate (fstF l).toNat (-1:Int))) (some 1)=AObj.rw (List.map (nmap1 (nsub 2 4)) (List.map (Value.int IntKind.i64) (List.replicate (fstF l).toNat (-1:Int)))) (some 1)∧AObj.sc 3 (AObj.rw (List.map (Value.int IntKind.i64) (List.replicate (fstF l).toNat (-1:Int))) (some 1))=true)∧Ob (AObj.rw [vi (1:Int),vi (nxF [(1:Int)] l 1 x)] (some 1)=AObj.rw (List.map (nmap1 (nsub 2 4)) (List.map (Value.int IntKind.i64) (cR l (y-1)))) (some 1)∧AObj.sc 3 (AObj.rw (List.map (Value.int IntKind.i64) (cR l (y-1))) (some 1))=true)∧True)∧Ob (Value.slice (some (ad0 0)) l.length c=Value.slice (some (ad0 0)) l.length c)∧Ob (Value.slice (some ⟨1,0,some 0⟩) (fstF l).toNat 0=Value.slice (some ⟨1,0,some 0⟩) (fstF l).toNat 0)∧Ob (Value.slice (some ⟨4,0,some 0⟩) 2 0=Value.slice (some ⟨4,0,some 0⟩) y 0)∧Ob (IntKind.i64.wrap ((↑(1:Nat):Int)+(1:Int))=(y:Int))∧True)))∧(true=false→(∃ (y:Nat),Ob (y≤5001)∧(Ob (AObj.ro (List.map (Value.int IntKind.i64) l)=AObj.ro (List.map (nmap1 fun (b:Nat)↦b) (List.map (Value.int IntKind.i64) l))∧AObj.sc 3 (AObj.ro (List.map (Value.int IntKind.i64) l))=true)∧Ob (AObj.rw (List.map (Value.int IntKind.i64) (List.replicate (fstF l).toNat (-1:Int))) (some 1)=AObj.rw (List.map (nmap1 fun (b:Nat)↦b) (List.map (Value.int IntKind.i64) (rsF l y))) (some 1)∧AObj.sc 3 (AObj.rw (List.map (Value.int IntKind.i64) (rsF l y)) (some 1))=true)∧Ob (AObj.rw [vi (1:Int)] none=AObj.rw (List.map (nmap1 fun (b:Nat)↦b) (List.map (Value.int IntKind.i64) (cR l n))) (some 1)∧AObj.sc 3 (AObj.rw (List.map (Value.int IntKind.i64) (cR l n)) (some 1))=true)∧True)∧Ob (Value.slice (some (ad0 0)) l.length c=Value.slice (some (ad0 0)) l.length c)∧Ob (Value.slice (some ⟨1,0,some 0⟩) (fstF l).toNat 0=Value.slice (some ⟨1,0,some 0⟩) (fstF l).toNat 0)∧Ob (Value.slice (some (ad0 2)) 1 1=Value.slice (some ⟨2,0,some 0⟩) 5001 0)∧Ob ((0:Int)=(y:Int))∧True)∧∀ (x:Nat),Ob (x≤5001)→(decide ((x:Int)≤(5000:Int))=true→Ob ((0:Int)≤(x:Int)∧(x:Int)<(↑(5001:Nat):Int)∧true=true)∧Ob (IntAt IntKind.i64 (List.map (Value.int IntKind.i64) (cR l n)) (0+(x:Int).toNat * 1))∧((getI (List.map (Value.int IntKind.i64) (cR l n)) (0+(x:Int).toNat * 1)==(1:Int))=true→Ob ((0:Int)≤(0:Int)∧(0:Int)<(l.length:Int)∧true=true)∧Ob (IntAt IntKind.i64 (List.map (Value.int IntKind.i64) l) 0)∧Ob (getI (List.map (Value.int IntKind.i64) l) 0≠(0:Int))∧Ob ((0:Int)≤(x:Int).tmod (getI (List.map (Value.int IntKind.i64) l) 0)∧(x:Int).tmod (getI (List.map (Value.int IntKind.i64) l) 0)<(↑(fstF l).toNat:Int)∧true=true)∧Ob (IntAt IntKind.i64 (List.map (Value.int IntKind.i64) (rsF l x)) (0+((x:Int).tmod (getI (List.map (Value.int IntKind.i64) l) 0)).toNat * 1))∧(decide (getI (List.map (Value.int IntKind.i64) (rsF l x)) (0+((x:Int).tmod (getI (List.map (Value.int IntKind.i64) l) 0)).toNat * 1)<(0:Int))=true→Ob ((0:Int)≤(0:Int)∧(0:Int)<(l.length:Int)∧true=true)∧Ob (IntAt IntKind.i64 (List.map (Value.int IntKind.i64) l) 0)∧Ob (getI (List.map (Value.int IntKind.i64) l) 0≠(0:Int))∧Ob ((0:Int)≤(x:Int).tmod (getI (List.map (Value.int IntKind.i64) l) 0)∧(x:Int).tmod (getI (List.map (Value.int IntKind.i64) l) 0)<(↑(fstF l).toNat:Int)∧true=true)∧Ob (0+((x:Int).tmod (getI (List.map (Value.int IntKind.i64) l) 0)).toNat * 1+1≤(List.map (Value.int IntKind.i64) (rsF l x)).length)∧∃ (y:Nat),Ob (y≤5001)∧Ob (5001-y<5001-x)∧(Ob (AObj.ro (List.map (Value.int IntKind.i64) l)=AObj.ro (List.map (nmap1 fun (b:Nat)↦b) (List.map (Value.int IntKind.i64) l))∧AObj.sc 3 (AObj.ro (List.map (Value.int IntKind.i64) l))=true)∧Ob (AObj.rw (putL (List.map (Value.int IntKind.i64) (rsF l x)) (0+((x:Int).tmod (getI (List.map (Value.int IntKind.i64) l) 0)).toNat * 1) [vi (x:Int)]) (some 1)=AObj.rw (List.map (nmap1 fun (b:Nat)↦b) (List.map (Value.int IntKind.i64) (rsF l y))) (some 1)∧AObj.sc 3 (AObj.rw (List.map (Value.int IntKind.i64) (rsF l y)) (some 1))=true)∧Ob (AObj.rw (List.map (Value.int IntKind.i64) (cR l n)) (some 1)=AObj.rw (List.map (nmap1 fun (b:Nat)↦b) (List.map (Value.int IntKind.i64) (cR l n))) (some 1)∧AObj.sc 3 (AObj.rw (List.map (Value.int IntKind.i64) (cR l n)) (some 1))=true)∧True)∧Ob (Value.slice (some (ad0 0)) l.length c=Value.slice (some (ad0 0)) l.length c)∧Ob (Value.slice (some ⟨1,0,some 0⟩) (fstF l).toNat 0=Value.slice (some ⟨1,0,some 0⟩) (fstF l).toNat 0)∧Ob (Value.slice (some ⟨2,0,some 0⟩) 5001 0=Value.slice (some ⟨2,0,some 0⟩) 5001 0)∧Ob (IntKind.i64.wrap ((x:Int)+(1:Int))=(y:Int))∧True)∧(decide (getI (List.map (Value.int IntKind.i64) (rsF l x)) (0+((x:Int).tmod (getI (List.map (Value.int IntKind.i64) l) 0)).toNat * 1)<(0:Int))=false→∃ (y:Nat),Ob (y≤5001)∧Ob (5001-y<5001-x)∧(Ob (AObj.ro (List.map (Value.int IntKind.i64) l)=AObj.ro (List.map (nmap1 fun (b:Nat)↦b) (List.map (Value.int IntKind.i64) l))∧AObj.sc 3 (AObj.ro (List.map (Value.int IntKind.i64) l))=true)∧Ob (AObj.rw (List.map (Value.int IntKind.i64) (rsF l x)) (some 1)=AObj.rw (List.map (nmap1 fun (b:Nat)↦b) (List.map (Value.int IntKind.i64) (rsF l y))) (some 1)∧AObj.sc 3 (AObj.rw (List.map (Value.int IntKind.i64) (rsF l y)) (some 1))=true)∧Ob (AObj.rw (List.map (Value.int IntKind.i64) (cR l n)) (some 1)=AObj.rw (List.map (nmap1 fun (b:Nat)↦b) (List.map (Value.int IntKind.i64) (cR l n))) (some 1)∧AObj.sc 3 (AObj.rw (List.map (Value.int IntKind.i64) (cR l n)) (some 1))=true)∧True)∧Ob (Value.slice (some (ad0 0)) l.length c=Value.slice (some (ad0 0)) l.length c)∧Ob (Value.slice (some ⟨1,0,some 0⟩) (fstF l).toNat 0=Value.slice (some ⟨1,0,some 0⟩) (fstF l).toNat 0)∧Ob (Value.slice (some ⟨2,0,some 0⟩) 5001 0=Value.slice (some ⟨2,0,some 0⟩) 5001 0)∧Ob (IntKind.i64.wrap ((x:Int)+(1:Int))=(y:Int))∧True))∧((getI (List.map (Value.int IntKind.i64) (cR l n)) (0+(x:Int).toNat * 1)==(1:Int))=false→∃ (y:Nat),Ob (y≤5001)∧Ob (5001-y<5001-x)∧(Ob (AObj.ro (List.map (Value.int IntKind.i64) l)=AObj.ro (List.map (nmap1 fun (b:Nat)↦b) (List.map (Value.int IntKind.i64) l))∧AObj.sc 3 (AObj.ro (List.map (Value.int IntKind.i64) l))=true)∧Ob (AObj.rw (List.map (Value.int IntKind.i64) (rsF l x)) (some 1)=AObj.rw (List.map (nmap1 fun (b:Nat)↦b) (List.map (Value.int IntKind.i64) (rsF l y))) (some 1)∧AObj.sc 3 (AObj.rw (List.map (Value.int IntKind.i64) (rsF l y)) (some 1))=true)∧Ob (AObj.rw (List.map (Value.int IntKind.i64) (cR l n)) (some 1)=AObj.rw (List.map (nmap1 fun (b:Nat)↦b) (List.map (Value.int IntKind.i64) (cR l n))) (some 1)∧AObj.sc 3 (AObj.rw (List.map (Value.int IntKind.i64) (cR l n)) (some 1))=true)∧True)∧Ob (Value.slice (some (ad0 0)) l.length c=Value.slice (some (ad0 0)) l.length c)∧Ob (Value.slice (some ⟨1,0,some 0⟩) (fstF l).toNat 0=Value.slice (some ⟨1,0,some 0⟩) (fstF l).toNat 0)∧Ob (Value.slice (some ⟨2,0,some 0⟩) 5001 0=Value.slice (some ⟨2,0,some 0⟩) 5001 0)∧Ob (IntKind.i64.wrap ((x:Int)+(1:Int))=(y:Int))∧True))∧(decide ((x:Int)≤(5000:Int))=false→(Ob (AObj.ro (List.map (Value.int IntKind.i64) l)=AObj.ro (List.map (nmap1 (nsub 1 1)) (List.map (Value.int IntKind.i64) l))∧AObj.sc 2 (AObj.ro (List.map (Value.int IntKind.i64) l))=true)∧Ob (AObj.rw (List.map (Value.int IntKind.i64) (rsF l x)) (some 1)=AObj.rw (List.map (nmap1 (nsub 1 1)) (List.map (Value.int IntKind.i64) (rsF l m))) (some 1)∧AObj.sc 2 (AObj.rw (List.map (Value.int IntKind.i64) (rsF l m)) (some 1))=true)∧True)∧Ob (Value.slice (some ⟨1,0,some 0⟩) (fstF l).toNat 0=Value.slice (some ⟨1,0,some 0⟩) (fstF l).toNat 0)∧True)))∧∀ (x:Nat),Ob (2≤x∧x≤5001)→(decide ((x:Int)≤(5000:Int))=true→(∃ (y:Nat),Ob (y≤l.length)∧(Ob (AObj.ro (List.map (Value.int IntKind.i64) l)=AObj.ro (List.map (nmap1 fun (b:Nat)↦b) (List.map (Value.int IntKind.i64) l))∧AObj.sc 3 (AObj.ro (List.map (Value.int IntKind.i64) l))=true)∧Ob (AObj.rw (List.map (Value.int IntKind.i64) (List.replicate (fstF l).toNat (-1:Int))) (some 1)=AObj.rw (List.map (nmap1 fun (b:Nat)↦b) (List.map (Value.int IntKind.i64) (List.replicate (fstF l).toNat (-1:Int)))) (some 1)∧AObj.sc 3 (AObj.rw (List.map (Value.int IntKind.i64) (List.replicate (fstF l).toNat (-1:Int))) (some 1))=true)∧Ob (AObj.rw (List.map (Value.int IntKind.i64) (cR l (x-1))) (some 1)=AObj.rw (List.map (nmap1 fun (b:Nat)↦b) (List.map (Value.int IntKind.i64) (cR l (x-1)))) (some 1)∧AObj.sc 3 (AObj.rw (List.map (Value.int IntKind.i64) (cR l (x-1))) (some 1))=true)∧True)∧Ob (Value.slice (some (ad0 0)) l.length c=Value.slice (some (ad0 0)) l.length c)∧Ob (Value.slice (some ⟨1,0,some 0⟩) (fstF l).toNat 0=Value.slice (some ⟨1,0,some 0⟩) (fstF l).toNat 0)∧Ob (Value.slice (some ⟨2,0,some 0⟩) x 0=Value.slice (some ⟨2,0,some 0⟩) x 0)∧Ob ((x:Int)=(x:Int))∧Ob ((0:Int)=nxF (cR l (x-1)) l x y)∧Ob ((0:Int)=(y:Int))∧True)∧∀ (x_1:Nat),Ob (x_1≤l.length)→(decide ((x_1:Int)<(l.length:Int))=true→Ob ((0:Int)≤(x_1:Int)∧(x_1:Int)<(l.length:Int)∧true=true)∧Ob (IntAt IntKind.i64 (List.map (Value.int IntKind.i64) l) (0+(x_1:Int).toNat * 1))∧(decide (getI (List.map (Value.int IntKind.i64) l) (0+(x_1:Int).toNat * 1)≤(x:Int))=true→Ob ((0:Int)≤(x_1:Int)∧(x_1:Int)<(l.length:Int)∧true=true)∧Ob (IntAt IntKind.i64 (List.map (Value.int IntKind.i64) l) (0+(x_1:Int).toNat * 1))∧Ob ((0:Int)≤IntKind.i64.wrap ((x:Int)-getI (List.map (Value.int IntKind.i64) l) (0+(x_1:Int).toNat * 1))∧IntKind.i64.wrap ((x:Int)-getI (List.map (Value.int IntKind.i64) l) (0+(x_1:Int).toNat * 1))<(x:Int)∧true=true)∧Ob (IntAt IntKind.i64 (List.map (Value.int IntKind.i64) (cR l (x-1))) (0+(IntKind.i64.wrap ((x:Int)-getI (List.map (Value.int IntKind.i64) l) (0+(x_1:Int).toNat * 1))).toNat * 1))∧∃ (y:Nat),Ob (y≤l.length)∧Ob (l.length-y<l.length-x_1)∧(Ob (AObj.ro (List.map (Value.int IntKind.i64) l)=AObj.ro (List.map (nmap1 fun (b:Nat)↦b) (List.map (Value.int IntKind.i64) l))∧AObj.sc 3 (AObj.ro (List.map (Value.int IntKind.i64) l))=true)∧Ob (AObj.rw (List.map (Value.int IntKind.i64) (List.replicate (fstF l).toNat (-1:Int))) (some 1)=AObj.rw (List.map (nmap1 fun (b:Nat)↦b) (List.map (Value.int IntKind.i64) (List.replicate (fstF l).toNat (-1:Int)))) (some 1)∧AObj.sc 3 (AObj.rw (List.map (Value.int IntKind.i64) (List.replicate (fstF l).toNat (-1:Int))) (some 1))=true)∧Ob (AObj.rw (List.map (Value.int IntKind.i64) (cR l (x-1))) (some 1)=AObj.rw (List.map (nmap1 fun (b:Nat)↦b) (List.map (Value.int IntKind.i64) (cR l (x-1)))) (some 1)∧AObj.sc 3 (AObj.rw (List.map (Value.int IntKind.i64) (cR l (x-1))) (some 1))=true)∧True)∧Ob (Value.slice (some (ad0 0)) l.length c=Value.slice (some (ad0 0)) l.length c)∧Ob (Value.slice (some ⟨1,0,some 0⟩) (fstF l).toNat 0=Value.slice (some ⟨1,0,some 0⟩) (fstF l).toNat 0)∧Ob (Value.slice (some ⟨2,0,some 0⟩) x 0=Value.slice (some ⟨2,0,some 0⟩) x 0)∧Ob ((x:Int)=(x:Int))∧Ob ((if getI (List.map (Value.int IntKind.i64) (cR l (x-1))) (0+(IntKind.i64.wrap ((x:Int)-getI (List.map (Value.int IntKind.i64) l) (0+(x_1:Int).toNat * 1))).toNat * 1) > nxF (cR l (x-1)) l x x_1 then getI (List.map (Value.int IntKind.i64) (cR l (x-1))) (0+(IntKind.i64.wrap ((x:Int)-getI (List.map (Value.int IntKind.i64) l) (0+(x_1:Int).toNat * 1))).toNat * 1) else nxF (cR l (x-1)) l x x_1)=nxF (cR l (x-1)) l x y)∧Ob (IntKind.i64.wrap ((x_1:Int)+(1:Int))=(y:Int))∧True)∧(decide (getI (List.map (Value.int IntKind.i64) l) (0+(x_1:Int).toNat * 1)≤(x:Int))=false→∃ (y:Nat),Ob (y≤l.length)∧Ob (l.length-y<l.length-x_1)∧(Ob (AObj.ro (List.map (Value.int IntKind.i64) l)=AObj.ro (List.map (nmap1 fun (b:Nat)↦b) (List.map (Value.int IntKind.i64) l))∧AObj.sc 3 (AObj.ro (List.map (Value.int IntKind.i64) l))=true)∧Ob (AObj.rw (List.map (Value.int IntKind.i64) (List.replicate (fstF l).toNat (-1:Int))) (some 1)=AObj.rw (List.map (nmap1 fun (b:Nat)↦b) (List.map (Value.int IntKind.i64) (List.replicate (fstF l).toNat (-1:Int)))) (some 1)∧AObj.sc 3 (AObj.rw (List.map (Value.int IntKind.i64) (List.replicate (fstF l).toNat (-1:Int))) (some 1))=true)∧Ob (AObj.rw (List.map (Value.int IntKind.i64) (cR l (x-1))) (some 1)=AObj.rw (List.map (nmap1 fun (b:Nat)↦b) (List.map (Value.int IntKind.i64) (cR l (x-1)))) (some 1)∧AObj.sc 3 (AObj.rw (List.map (Value.int IntKind.i64) (cR l (x-1))) (some 1))=true)∧True)∧Ob (Value.slice (some (ad0 0)) l.length c=Value.slice (some (ad0 0)) l.length c)∧Ob (Value.slice (some ⟨1,0,some 0⟩) (fstF l).toNat 0=Value.slice (some ⟨1,0,some 0⟩) (fstF l).toNat 0)∧Ob (Value.slice (some ⟨2,0,some 0⟩) x 0=Value.slice (some ⟨2,0,some 0⟩) x 0)∧Ob ((x:Int)=(x:Int))∧Ob (nxF (cR l (x-1)) l x x_1=nxF (cR l (x-1)) l x y)∧Ob (IntKind.i64.wrap ((x_1:Int)+(1:Int))=(y:Int))∧True))∧(decide ((x_1:Int)<(l.length:Int))=false→Ob (andP (some (0+1≤1∧true=true)) (x+1≤1099511627776∧(2 * (x+1)+256) * 8≤281474976710656∧1=1∧(List.map (Value.int IntKind.i64) (cR l (x-1))).length=x * 1))∧((∃ (y:Unit),Ob True∧Ob (5001<5002-x)∧(Ob (AObj.ro (List.map (Value.int IntKind.i64) l)=AObj.ro (List.map (nmap1 (nsub 2 4)) (List.map (Value.int IntKind.i64) l))∧AObj.sc 3 (AObj.ro (List.map (Value.int IntKind.i64) l))=true)∧Ob (AObj.rw (List.map (Value.int IntKind.i64) (List.replicate (fstF l).toNat (-1:Int))) (some 1)=AObj.rw (List.map (nmap1 (nsub 2 4)) (List.map (Value.int IntKind.i64) (List.replicate (fstF l).toNat (-1:Int)))) (some 1)∧AObj.sc 3 (AObj.rw (List.map (Value.int IntKind.i64) (List.replicate (fstF l).toNat (-1:Int))) (some 1))=true)∧Ob (AObj.rw (List.map (Value.int IntKind.i64) (cR l (x-1))++[vi (nxF (cR l (x-1)) l x x_1)]) (some 1)=AObj.rw [vi (1:Int)] none∧true=true)∧True)∧Ob (Value.slice (some (ad0 0)) l.length c=Value.slice (some (ad0 0)) l.length c)∧Ob (Value.slice (some ⟨1,0,some 0⟩) (fstF l).toNat 0=Value.slice (some ⟨1,0,some 0⟩) (fstF l).toNat 0)∧Ob (Value.slice (some ⟨4,0,some 0⟩) (x+1) 0=Value.slice (some (ad0 4)) 1 1)∧Ob (IntKind.i64.wrap ((x:Int)+(1:Int))=(1:Int))∧True)∨∃ (y:Nat),Ob (2≤y∧y≤5001)∧Ob (5002-y<5002-x)∧(Ob (AObj.ro (List.map (Value.int IntKind.i64) l)=AObj.ro (List.map (nmap1 (nsub 2 4)) (List.map (Value.int IntKind.i64) l))∧AObj.sc 3 (AObj.ro (List.map (Value.int IntKind.i64) l))=true)∧Ob (AObj.rw (List.map (Value.int IntKind.i64) (List.replicate (fstF l).toNat (-1:Int))) (some 1)=AObj.rw (List.map (nmap1 (nsub 2 4)) (List.map (Value.int IntKind.i64) (List.replicate (fstF l).toNat (-1:Int)))) (some 1)∧AObj.sc 3 (AObj.rw (List.map (Value.int IntKind.i64) (List.replicate (fstF l).toNat (-1:Int))) (some 1))=true)∧Ob (AObj.rw (List.map (Value.int IntKind.i64) (cR l (x-1))++[vi (nxF (cR l (x-1)) l x x_1)]) (some 1)=AObj.rw (List.map (nmap1 (nsub 2 4)) (List.map (Value.int IntKind.i64) (cR l (y-1)))) (some 1)∧AObj.sc 3 (AObj.rw (List.map (Value.int IntKind.i64) (cR l (y-1))) (some 1))=true)∧True)∧Ob (Value.slice (some (ad0 0)) l.length c=Value.slice (some (ad0 0)) l.length c)∧Ob (Value.slice (some ⟨1,0,some 0⟩) (fstF l).toNat 0=Value.slice (some ⟨1,0,some 0⟩) (fstF l).toNat 0)∧Ob (Value.slice (some ⟨4,0,some 0⟩) (x+1) 0=Value.slice (some ⟨4,0,some 0⟩) y 0)∧Ob (IntKind.i64.wrap ((x:Int)+(1:Int))=(y:Int))∧True)))∧(decide ((x:Int)≤(5000:Int))=false→(∃ (y:Nat),Ob (y≤5001)∧(Ob (AObj.ro (List.map (Value.int IntKind.i64) l)=AObj.ro (List.map (nmap1 fun (b:Nat)↦b) (List.map (Value.int IntKind.i64) l))∧AObj.sc 3 (AObj.ro (List.map (Value.int IntKind.i64) l))=true)∧Ob (AObj.rw (List.map (Value.int IntKind.i64) (List.replicate (fstF l).toNat (-1:Int))) (some 1)=AObj.rw (List.map (nmap1 fun (b:Nat)↦b) (List.map (Value.int IntKind.i64) (rsF l y))) (some 1)∧AObj.sc 3 (AObj.rw (List.map (Value.int IntKind.i64) (rsF l y)) (some 1))=true)∧Ob (AObj.rw (List.map (Value.int IntKind.i64) (cR l (x-1))) (some 1)=AObj.rw (List.map (nmap1 fun (b:Nat)↦b) (List.map (Value.int IntKind.i64) (cR l n))) (some 1)∧AObj.sc 3 (AObj.rw (List.map (Value.int IntKind.i64) (cR l n)) (some 1))=true)∧True)∧Ob (Value.slice (some (ad0 0)) l.length c=Value.slice (some (ad0 0)) l.length c)∧Ob (Value.slice (some ⟨1,0,some 0⟩) (fstF l).toNat 0=Value.slice (some ⟨1,0,some 0⟩) (fstF l).toNat 0)∧Ob (Value.slice (some ⟨2,0,some 0⟩) x 0=Value.slice (some ⟨2,0,some 0⟩) 5001 0)∧Ob ((0:Int)=(y:Int))∧True)∧∀ (x:Nat),Ob (x≤5001)→(decide ((x:Int)≤(5000:Int))=true→Ob ((0:Int)≤(x:Int)∧(x:Int)<(↑(5001:Nat):Int)∧true=true)∧Ob (IntAt IntKind.i64 (List.map (Value.int IntKind.i64) (cR l n)) (0+(x:Int).toNat * 1))∧((getI (List.map (Value.int IntKind.i64) (cR l n)) (0+(x:Int).toNat * 1)==(1:Int))=true→Ob ((0:Int)≤(0:Int)∧(0:Int)<(l.length:Int)∧true=true)∧Ob (IntAt IntKind.i64 (List.map (Value.int IntKind.i64) l) 0)∧Ob (getI (List.map (Value.int IntKind.i64) l) 0≠(0:Int))∧Ob ((0:Int)≤(x:Int).tmod (getI (List.map (Value.int IntKind.i64) l) 0)∧(x:Int).tmod (getI (List.map (Value.int IntKind.i64) l) 0)<(↑(fstF l).toNat:Int)∧true=true)∧Ob (IntAt IntKind.i64 (List.map (Value.int IntKind.i64) (rsF l x)) (0+((x:Int).tmod (getI (List.map (Value.int IntKind.i64) l) 0)).toNat * 1))∧(decide (getI (List.map (Value.int IntKind.i64) (rsF l x)) (0+((x:Int).tmod (getI (List.map (Value.int IntKind.i64) l) 0)).toNat * 1)<(0:Int))=true→Ob ((0:Int)≤(0:Int)∧(0:Int)<(l.length:Int)∧true=true)∧Ob (IntAt IntKind.i64 (List.map (Value.int IntKind.i64) l) 0)∧Ob (getI (List.map (Value.int IntKind.i64) l) 0≠(0:Int))∧Ob ((0:Int)≤(x:Int).tmod (getI (List.map (Value.int IntKind.i64) l) 0)∧(x:Int).tmod (getI (List.map (Value.int IntKind.i64) l) 0)<(↑(fstF l).toNat:Int)∧true=true)∧Ob (0+((x:Int).tmod (getI (List.map (Value.int IntKind.i64) l) 0)).toNat * 1+1≤(List.map (Value.int IntKind.i64) (rsF l x)).length)∧∃ (y:Nat),Ob (y≤5001)∧Ob (5001-y<5001-x)∧(Ob (AObj.ro (List.map (Value.int IntKind.i64) l)=AObj.ro (List.map (nmap1 fun (b:Nat)↦b) (List.map (Value.int IntKind.i64) l))∧AObj.sc 3 (AObj.ro (List.map (Value.int IntKind.i64) l))=true)∧Ob (AObj.rw (putL (List.map (Value.int IntKind.i64) (rsF l x)) (0+((x:Int).tmod (getI (List.map (Value.int IntKind.i64) l) 0)).toNat * 1) [vi (x:Int)]) (some 1)=AObj.rw (List.map (nmap1 fun (b:Nat)↦b) (List.map (Value.int IntKind.i64) (rsF l y))) (some 1)∧AObj.sc 3 (AObj.rw (List.map (Value.int IntKind.i64) (rsF l y)) (some 1))=true)∧Ob (AObj.rw (List.map (Value.int IntKind.i64) (cR l n)) (some 1)=AObj.rw (List.map (nmap1 fun (b:Nat)↦b) (List.map (Value.int IntKind.i64) (cR l n))) (some 1)∧AObj.sc 3 (AObj.rw (List.map (Value.int IntKind.i64) (cR l n)) (some 1))=true)∧True)∧Ob (Value.slice (some (ad0 0)) l.length c=Value.slice (some (ad0 0)) l.length c)∧Ob (Value.slice (some ⟨1,0,some 0⟩) (fstF l).toNat 0=Value.slice (some ⟨1,0,some 0⟩) (fstF l).toNat 0)∧Ob (Value.slice (some ⟨2,0,some 0⟩) 5001 0=Value.slice (some ⟨2,0,some 0⟩) 5001 0)∧Ob (IntKind.i64.wrap ((x:Int)+(1:Int))=(y:Int))∧True)∧(decide (getI (List.map (Value.int IntKind.i64) (rsF l x)) (0+((x:Int).tmod (getI (List.map (Value.int IntKind.i64) l) 0)).toNat * 1)<(0:Int))=false→∃ (y:Nat),Ob (y≤5001)∧Ob (5001-y<5001-x)∧(Ob (AObj.ro (List.map (Value.int IntKind.i64) l)=AObj.ro (List.map (nmap1 fun (b:Nat)↦b) (List.map (Value.int IntKind.i64) l))∧AObj.sc 3 (AObj.ro (List.map (Value.int IntKind.i64) l))=true)∧Ob (AObj.rw (List.map (Value.int IntKind.i64) (rsF l x)) (some 1)=AObj.rw (List.map (nmap1 fun (b:Nat)↦b) (List.map (Value.int IntKind.i64) (rsF l y))) (some 1)∧AObj.sc 3 (AObj.rw (List.map (Value.int IntKind.i64) (rsF l y)) (some 1))=true)∧Ob (AObj.rw (List.map (Value.int IntKind.i64) (cR l n)) (some 1)=AObj.rw (List.map (nmap1 fun (b:Nat)↦b) (List.map (Value.int IntKind.i64) (cR l n))) (some 1)∧AObj.sc 3 (AObj.rw (List.map (Value.int IntKind.i64) (cR l n)) (some 1))=true)∧True)∧Ob (Value.slice (some (ad0 0)) l.length c=Value.slice (some (ad0 0)) l.length c)∧Ob (Value.slice (some ⟨1,0,some 0⟩) (fstF l).toNat 0=Value.slice (some ⟨1,0,some 0⟩) (fstF l).toNat 0)∧Ob (Value.slice (some ⟨2,0,some 0⟩) 5001 0=Value.slice (some ⟨2,0,some 0⟩) 5001 0)∧Ob (IntKind.i64.wrap ((x:Int)+(1:Int))=(y:Int))∧True))∧((getI (List.map (Value.int IntKind.i64) (cR l n)) (0+(x:Int).toNat * 1)==(1:Int))=false→∃ (y:Nat),Ob (y≤5001)∧Ob (5001-y<5001-x)∧(Ob (AObj.ro (List.map (Value.int IntKind.i64) l)=AObj.ro (List.map (nmap1 fun (b:Nat)↦b) (List.map (Value.int IntKind.i64) l))∧AObj.sc 3 (AObj.ro (List.map (Value.int IntKind.i64) l))=true)∧Ob (AObj.rw (List.map (Value.int IntKind.i64) (rsF l x)) (some 1)=AObj.rw (List.map (nmap1 fun (b:Nat)↦b) (List.map (Value.int IntKind.i64) (rsF l y))) (some 1)∧AObj.sc 3 (AObj.rw (List.map (Value.int IntKind.i64) (rsF l y)) (some 1))=true)∧Ob (AObj.rw (List.map (Value.int IntKind.i64) (cR l n)) (some 1)=AObj.rw (List.map (nmap1 fun (b:Nat)↦b) (List.map (Value.int IntKind.i64) (cR l n))) (some 1)∧AObj.sc 3 (AObj.rw (List.map (Value.int IntKind.i64) (cR l n)) (some 1))=true)∧True)∧Ob (Value.slice (some (ad0 0)) l.length c=Value.slice (some (ad0 0)) l.length c)∧Ob (Value.slice (some ⟨1,0,some 0⟩) (fstF l).toNat 0=Value.slice (some ⟨1,0,some 0⟩) (fstF l).toNat 0)∧Ob (Value.slice (some ⟨2,0,some 0⟩) 5001 0=Value.slice (some ⟨2,0,some 0⟩) 5001 0)∧Ob (IntKind.i64.wrap ((x:Int)+(1:Int))=(y:Int))∧True))∧(decide ((x:Int)≤(5000:Int))=false→(Ob (AObj.ro (List.map (Value.int IntKind.i64) l)=AObj.ro (List.map (nmap1 (nsub 1 1)) (List.map (Value.int IntKind.i64) l))∧AObj.sc 2 (AObj.ro (List.map (Value.int IntKind.i64) l))=true)∧Ob (AObj.rw (List.map (Value.int IntKind.i64) (rsF l x)) (some 1)=AObj.rw (List.map (nmap1 (nsub 1 1)) (List.map (Value.int IntKind.i64) (rsF l m))) (some 1)∧AObj.sc 2 (AObj.rw (List.map (Value.int IntKind.i64) (rsF l m)) (some 1))=true)∧True)∧Ob (Value.slice (some ⟨1,0,some 0⟩) (fstF l).toNat 0=Value.slice (some ⟨1,0,some 0⟩) (fstF l).toNat 0)∧True))))∧∀ (x:Nat),Ob (0<x∧x≤(fstF l).toNat)→Ob ((0:Int)≤(0:Int)∧(0:Int)<(l.length:Int)∧true=true)∧Ob (IntAt IntKind.i64 (List.map (Value.int IntKind.i64) l) 0)∧(decide ((x:Int)<getI (List.map (Value.int IntKind.i64) l) 0)=true→Ob (andP (some (0+1≤1∧true=true)) (x+1≤1099511627776∧(2 * (x+1)+256) * 8≤281474976710656∧1=1∧(List.map (Value.int IntKind.i64) (List.replicate x (-1:Int))).length=x * 1))∧((∃ (y:Unit),Ob True∧Ob (60<52-x)∧(Ob (AObj.ro (List.map (Value.int IntKind.i64) l)=AObj.ro (List.map (nmap1 (nsub 1 3)) (List.map (Value.int IntKind.i64) l))∧AObj.sc 1 (AObj.ro (List.map (Value.int IntKind.i64) l))=true)∧True)∧Ob (Value.slice (some (ad0 0)) l.length c=Value.slice (some (ad0 0)) l.length c)∧Ob (Value.slice (some ⟨3,0,some 0⟩) (x+1) 0=Value.slice none 0 0)∧Ob (IntKind.i64.wrap ((x:Int)+(1:Int))=(0:Int))∧True)∨∃ (y:Nat),Ob (0<y∧y≤(fstF l).toNat)∧Ob (52-y<52-x)∧(Ob (AObj.ro (List.map (Value.int IntKind.i64) l)=AObj.ro (List.map (nmap1 (nsub 1 3)) (List.map (Value.int IntKind.i64) l))∧AObj.sc 2 (AObj.ro (List.map (Value.int IntKind.i64) l))=true)∧Ob (AObj.rw (List.map (Value.int IntKind.i64) (List.replicate x (-1:Int))++[vi (-1:Int)]) (some 1)=AObj.rw (List.map (nmap1 (nsub 1 3)) (List.map (Value.int IntKind.i64) (List.replicate y (-1:Int)))) (some 1)∧AObj.sc 2 (AObj.rw (List.map (Value.int IntKind.i64) (List.replicate y (-1:Int))) (some 1))=true)∧True)∧Ob (Value.slice (some (ad0 0)) l.length c=Value.slice (some (ad0 0)) l.length c)∧Ob (Value.slice (some ⟨3,0,some 0⟩) (x+1) 0=Value.slice (some ⟨3,0,some 0⟩) y 0)∧Ob (IntKind.i64.wrap ((x:Int)+(1:Int))=(y:Int))∧True))∧(decide ((x:Int)<getI (List.map (Value.int IntKind.i64) l) 0)=false→((∃ (y:Unit),Ob True∧(Ob (AObj.ro (List.map (Value.int IntKind.i64) l)=AObj.ro (List.map (nmap1 fun (b:Nat)↦b) (List.map (Value.int IntKind.i64) l))∧AObj.sc 3 (AObj.ro (List.map (Value.int IntKind.i64) l))=true)∧Ob (AObj.rw (List.map (Value.int IntKind.i64) (List.replicate x (-1:Int))) (some 1)=AObj.rw (List.map (nmap1 fun (b:Nat)↦b) (List.map (Value.int IntKind.i64) (List.replicate (fstF l).toNat (-1:Int)))) (some 1)∧AObj.sc 3 (AObj.rw (List.map (Value.int IntKind.i64) (List.replicate (fstF l).toNat (-1:Int))) (some 1))=true)∧Ob (AObj.rw [vi (1:Int)] none=AObj.rw [vi (1:Int)] none∧true=true)∧True)∧Ob (Value.slice (some (ad0 0)) l.length c=Value.slice (some (ad0 0)) l.length c)∧Ob (Value.slice (some ⟨1,0,some 0⟩) x 0=Value.slice (some ⟨1,0,some 0⟩) (fstF l).toNat 0)∧Ob (Value.slice (some (ad0 2)) 1 1=Value.slice (some (ad0 2)) 1 1)∧Ob ((1:Int)=(1:Int))∧True)∨∃ (y:Nat),Ob (2≤y∧y≤5001)∧(Ob (AObj.ro (List.map (Value.int IntKind.i64) l)=AObj.ro (List.map (nmap1 fun (b:Nat)↦b) (List.map (Value.int IntKind.i64) l))∧AObj.sc 3 (AObj.ro (List.map (Value.int IntKind.i64) l))=true)∧Ob (AObj.rw (List.map (Value.int IntKind.i64) (List.replicate x (-1:Int))) (some 1)=AObj.rw (List.map (nmap1 fun (b:Nat)↦b) (List.map (Value.int IntKind.i64) (List.replicate (fstF l).toNat (-1:Int)))) (some 1)∧AObj.sc 3 (AObj.rw (List.map (Value.int IntKind.i64) (List.replicate (fstF l).toNat (-1:Int))) (some 1))=true)∧Ob (AObj.rw [vi (1:Int)] none=AObj.rw (List.map (nmap1 fun (b:Nat)↦b) (List.map (Value.int IntKind.i64) (cR l (y-1)))) (some 1)∧AObj.sc 3 (AObj.rw (List.map (Value.int IntKind.i64) (cR l (y-1))) (some 1))=true)∧True)∧Ob (Value.slice (some (ad0 0)) l.length c=Value.slice (some (ad0 0)) l.length c)∧Ob (Value.slice (some ⟨1,0,some 0⟩) x 0=Value.slice (some ⟨1,0,some 0⟩) (fstF l).toNat 0)∧Ob (Value.slice (some (ad0 2)) 1 1=Value.slice (some ⟨2,0,some 0⟩) y 0)∧Ob ((1:Int)=(y:Int))∧True)∧(∀ (x:Unit),Ob True→(true=true→(∃ (y:Nat),Ob (y≤l.length)∧(Ob (AObj.ro (List.map (Value.int IntKind.i64) l)=AObj.ro (List.map (nmap1 fun (b:Nat)↦b) (List.map (Value.int IntKind.i64) l))∧AObj.sc 3 (AObj.ro (List.map (Value.int IntKind.i64) l))=true)∧Ob (AObj.rw (List.map (Value.int IntKind.i64) (List.replicate (fstF l).toNat (-1:Int))) (some 1)=AObj.rw (List.map (nmap1 fun (b:Nat)↦b) (List.map (Value.int IntKind.i64) (List.replicate (fstF l).toNat (-1:Int)))) (some 1)∧AObj.sc 3 (AObj.rw (List.map (Value.int IntKind.i64) (List.replicate (fstF l).toNat (-1:Int))) (some 1))=true)∧Ob (AObj.rw [vi (1:Int)] none=AObj.rw [vi (1:Int)] none∧true=true)∧True)∧Ob (Value.slice (some (ad0 0)) l.length c=Value.slice (some (ad0 0)) l.length c)∧Ob (Value.slice (some ⟨1,0,some 0⟩) (fstF l).toNat 0=Value.slice (some ⟨1,0,some 0⟩) (fstF l).toNat 0)∧Ob (Value.slice (some (ad0 2)) 1 1=Value.slice (some (ad0 2)) 1 1)∧Ob ((1:Int)=(↑(1:Nat):Int))∧Ob ((0:Int)=nxF [(1:Int)] l 1 y)∧Ob ((0:Int)=(y:Int))∧True)∧∀ (x:Nat),Ob (x≤l.length)→(decide ((x:Int)<(l.length:Int))=true→Ob ((0:Int)≤(x:Int)∧(x:Int)<(l.length:Int)∧true=true)∧Ob (IntAt IntKind.i64 (List.map (Value.int IntKind.i64) l) (0+(x:Int).toNat * 1))∧(decide (getI (List.map (Value.int IntKind.i64) l) (0+(x:Int).toNat * 1)≤(↑(1:Nat):Int))=true→Ob ((0:Int)≤(x:Int)∧(x:Int)<(l.length:Int)∧true=true)∧Ob (IntAt IntKind.i64 (List.map (Value.int IntKind.i64) l) (0+(x:Int).toNat * 1))∧Ob ((0:Int)≤IntKind.i64.wrap ((↑(1:Nat):Int)-getI (List.map (Value.int IntKind.i64) l) (0+(x:Int).toNat * 1))∧IntKind.i64.wrap ((↑(1:Nat):Int)-getI (List.map (Value.int IntKind.i64) l) (0+(x:Int).toNat * 1))<(↑(1:Nat):Int)∧true=true)∧Ob (IntAt IntKind.i64 [vi (1:Int)] (0+(IntKind.i64.wrap ((↑(1:Nat):Int)-getI (List.map (Value.int IntKind.i64) l) (0+(x:Int).toNat * 1))).toNat * 1))∧∃ (y:Nat),Ob (y≤l.length)∧Ob (l.length-y<l.length-x)∧(Ob (AObj.ro (List.map (Value.int IntKind.i64) l)=AObj.ro (List.map (nmap1 fun (b:Nat)↦b) (List.map (Value.int IntKind.i64) l))∧AObj.sc 3 (AObj.ro (List.map (Value.int IntKind.i64) l))=true)∧Ob (AObj.rw (List.map (Value.int IntKind.i64) (List.replicate (fstF l).toNat (-1:Int))) (some 1)=AObj.rw (List.map (nmap1 fun (b:Nat)↦b) (List.map (Value.int IntKind.i64) (List.replicate (fstF l).toNat (-1:Int)))) (some 1)∧AObj.sc 3 (AObj.rw (List.map (Value.int IntKind.i64) (List.replicate (fstF l).toNat (-1:Int))) (some 1))=true)∧Ob (AObj.rw [vi (1:Int)] none=AObj.rw [vi (1:Int)] none∧true=true)∧True)∧Ob (Value.slice (some (ad0 0)) l.length c=Value.slice (some (ad0 0)) l.length c)∧Ob (Value.slice (some ⟨1,0,some 0⟩) (fstF l).toNat 0=Value.slice (some ⟨1,0,some 0⟩) (fstF l).toNat 0)∧Ob (Value.slice (some (ad0 2)) 1 1=Value.slice (some (ad0 2)) 1 1)∧Ob ((↑(1:Nat):Int)=(↑(1:Nat):Int))∧Ob ((if getI [vi (1:Int)] (0+(IntKind.i64.wrap ((↑(1:Nat):Int)-getI (List.map (Value.int IntKind.i64) l) (0+(x:Int).toNat * 1))).toNat * 1) > nxF [(1:Int)] l 1 x then getI [vi (1:Int)] (0+(IntKind.i64.wrap ((↑(1:Nat):Int)-getI (List.map (Value.int IntKind.i64) l) (0+(x:Int).toNat * 1))).toNat * 1) else nxF [(1:Int)] l 1 x)=nxF [(1:Int)] l 1 y)∧Ob (IntKind.i64.wrap ((x:Int)+(1:Int))=(y:Int))∧True)∧(decide (getI (List.map (Value.int IntKind.i64) l) (0+(x:Int).toNat * 1)≤(↑(1:Nat):Int))=false→∃ (y:Nat),Ob (y≤l.length)∧Ob (l.length-y<l.length-x)∧(Ob (AObj.ro (List.map (Value.int IntKind.i64) l)=AObj.ro (List.map (nmap1 fun (b:Nat)↦b) (List.map (Value.int IntKind.i64) l))∧AObj.sc 3 (AObj.ro (List.map (Value.int IntKind.i64) l))=true)∧Ob (AObj.rw (List.map (Value.int IntKind.i64) (List.replicate (fstF l).toNat (-1:Int))) (some 1)=AObj.rw (List.map (nmap1 fun (b:Nat)↦b) (List.map (Value.int IntKind.i64) (List.replicate (fstF l).toNat (-1:Int)))) (some 1)∧AObj.sc 3 (AObj.rw (List.map (Value.int IntKind.i64) (List.replicate (fstF l).toNat (-1:Int))) (some 1))=true)∧Ob (AObj.rw [vi (1:Int)] none=AObj.rw [vi (1:Int)] none∧true=true)∧True)∧Ob (Value.slice (some (ad0 0)) l.length c=Value.slice (some (ad0 0)) l.length c)∧Ob (Value.slice (some ⟨1,0,some 0⟩) (fstF l).toNat 0=Value.slice (some ⟨1,0,some 0⟩) (fstF l).toNat 0)∧Ob (Value.slice (some (ad0 2)) 1 1=Value.slice (some (ad0 2)) 1 1)∧Ob ((↑(1:Nat):Int)=(↑(1:Nat):Int))∧Ob (nxF [(1:Int)] l 1 x=nxF [(1:Int)] l 1 y)∧Ob (IntKind.i64.wrap ((x:Int)+(1:Int))=(y:Int))∧True))∧(decide ((x:Int)<(l.length:Int))=false→Ob (andP (some (0+1≤1∧true=true)) (2≤1099511627776∧2080≤281474976710656∧1=1∧1<2∧1≤1))∧((∃ (y:Unit),Ob True∧Ob (5001<5001)∧(Ob (AObj.ro (List.map (Value.int IntKind.i64) l)=AObj.ro (List.map (nmap1 (nsub 2 4)) (List.map (Value.int IntKind.i64) l))∧AObj.sc 3 (AObj.ro (List.map (Value.int IntKind.i64) l))=true)∧Ob (AObj.rw (List.map (Value.int IntKind.i64) (List.replicate (fstF l).toNat (-1:Int))) (some 1)=AObj.rw (List.map (nmap1 (nsub 2 4)) (List.map (Value.int IntKind.i64) (List.replicate (fstF l).toNat (-1:Int)))) (some 1)∧AObj.sc 3 (AObj.rw (List.map (Value.int IntKind.i64) (List.replicate (fstF l).toNat (-1:Int))) (some 1))=true)∧Ob (AObj.rw [vi (1:Int),vi (nxF [(1:Int)] l 1 x)] (some 1)=AObj.rw [vi (1:Int)] none∧true=true)∧True)∧Ob (Value.slice (some (ad0 0)) l.length c=Value.slice (some (ad0 0)) l.length c)∧Ob (Value.slice (some ⟨1,0,some 0⟩) (fstF l).toNat 0=Value.slice (some ⟨1,0,some 0⟩) (fstF l).toNat 0)∧Ob (Value.slice (some ⟨4,0,some 0⟩) 2 0=Value.slice (some (ad0 4)) 1 1)∧Ob (IntKind.i64.wrap ((↑(1:Nat):Int)+(1:Int))=(1:Int))∧True)∨∃ (y:Nat),Ob (2≤y∧y≤5001)∧Ob (5002-y<5001)∧(Ob (AObj.ro (List.map (Value.int IntKind.i64) l)=AObj.ro (List.map (nmap1 (nsub 2 4)) (List.map (Value.int IntKind.i64) l))∧AObj.sc 3 (AObj.ro (List.map (Value.int IntKind.i64) l))=true)∧Ob (AObj.rw (List.map (Value.int IntKind.i64) (List.replicate (fstF l).toNat (-1:Int))) (some 1)=AObj.rw (List.map (nmap1 (nsub 2 4)) (List.map (Value.int IntKind.i64) (List.replicate (fstF l).toNat (-1:Int)))) (some 1)∧AObj.sc 3 (AObj.rw (List.map (Value.int IntKind.i64) (List.replicate (fstF l).toNat (-1:Int))) (some 1))=true)∧Ob (AObj.rw [vi (1:Int),vi (nxF [(1:Int)] l 1 x)] (some 1)=AObj.rw (List.map (nmap1 (nsub 2 4)) (List.map (Value.int IntKind.i64) (cR l (y-1)))) (some 1)∧AObj.sc 3 (AObj.rw (List.map (Value.int IntKind.i64) (cR l (y-1))) (some 1))=true)∧True)∧Ob (Value.slice (some (ad0 0)) l.length c=Value.slice (some (ad0 0)) l.length c)∧Ob (Value.slice (some ⟨1,0,some 0⟩) (fstF l).toNat 0=Value.slice (some ⟨1,0,some 0⟩) (fstF l).toNat 0)∧Ob (Value.slice (some ⟨4,0,some 0⟩) 2 0=Value.slice (some ⟨4,0,some 0⟩) y 0)∧Ob (IntKind.i64.wrap ((↑(1:Nat):Int)+(1:Int))=(y:Int))∧True)))∧(true=false→(∃ (y:Nat),Ob (y≤5001)∧(Ob (AObj.ro (List.map (Value.int IntKind.i64) l)=AObj.ro (List.map (nmap1 fun (b:Nat)↦b) (List.map (Value.int IntKind.i64) l))∧AObj.sc 3 (AObj.ro (List.map (Value.int IntKind.i64) l))=true)∧Ob (AObj.rw (List.map (Value.int IntKind.i64) (List.replicate (fstF l).toNat (-1:Int))) (some 1)=AObj.rw (List.map (nmap1 fun (b:Nat)↦b) (List.map (Value.int IntKind.i64) (rsF l y))) (some 1)∧AObj.sc 3 (AObj.rw (List.map (Value.int IntKind.i64) (rsF l y)) (some 1))=true)∧Ob (AObj.rw [vi (1:Int)] none=AObj.rw (List.map (nmap1 fun (b:Nat)↦b) (List.map (Value.int IntKind.i64) (cR l n))) (some 1)∧AObj.sc 3 (AObj.rw (List.map (Value.int IntKind.i64) (cR l n)) (some 1))=true)∧True)∧Ob (Value.slice (some (ad0 0)) l.length c=Value.slice (some (ad0 0)) l.length c)∧Ob (Value.slice (some ⟨1,0,some 0⟩) (fstF l).toNat 0=Value.slice (some ⟨1,0,some 0⟩) (fstF l).toNat 0)∧Ob (Value.slice (some (ad0 2)) 1 1=Value.slice (some ⟨2,0,some 0⟩) 5001 0)∧Ob ((0:Int)=(y:Int))∧True)∧∀ (x:Nat),Ob (x≤5001)→(decide ((x:Int)≤(5000:Int))=true→Ob ((0:Int)≤(x:Int)∧(x:Int)<(↑(5001:Nat):Int)∧true=true)∧Ob (IntAt IntKind.i64 (List.map (Value.int IntKind.i64) (cR l n)) (0+(x:Int).toNat * 1))∧((getI (List.map (Value.int IntKind.i64) (cR l n)) (0+(x:Int).toNat * 1)==(1:Int))=true→Ob ((0:Int)≤(0:Int)∧(0:Int)<(l.length:Int)∧true=true)∧Ob (IntAt IntKind.i64 (List.map (Value.int IntKind.i64) l) 0)∧Ob (getI (List.map (Value.int IntKind.i64) l) 0≠(0:Int))∧Ob ((0:Int)≤(x:Int).tmod (getI (List.map (Value.int IntKind.i64) l) 0)∧(x:Int).tmod (getI (List.map (Value.int IntKind.i64) l) 0)<(↑(fstF l).toNat:Int)∧true=true)∧Ob (IntAt IntKind.i64 (List.map (Value.int IntKind.i64) (rsF l x)) (0+((x:Int).tmod (getI (List.map (Value.int IntKind.i64) l) 0)).toNat * 1))∧(decide (getI (List.map (Value.int IntKind.i64) (rsF l x)) (0+((x:Int).tmod (getI (List.map (Value.int IntKind.i64) l) 0)).toNat * 1)<(0:Int))=true→Ob ((0:Int)≤(0:Int)∧(0:Int)<(l.length:Int)∧true=true)∧Ob (IntAt IntKind.i64 (List.map (Value.int IntKind.i64) l) 0)∧Ob (getI (List.map (Value.int IntKind.i64) l) 0≠(0:Int))∧Ob ((0:Int)≤(x:Int).tmod (getI (List.map (Value.int IntKind.i64) l) 0)∧(x:Int).tmod (getI (List.map (Value.int IntKind.i64) l) 0)<(↑(fstF l).toNat:Int)∧true=true)∧Ob (0+((x:Int).tmod (getI (List.map (Value.int IntKind.i64) l) 0)).toNat * 1+1≤(List.map (Value.int IntKind.i64) (rsF l x)).length)∧∃ (y:Nat),Ob (y≤5001)∧Ob (5001-y<5001-x)∧(Ob (AObj.ro (List.map (Value.int IntKind.i64) l)=AObj.ro (List.map (nmap1 fun (b:Nat)↦b) (List.map (Value.int IntKind.i64) l))∧AObj.sc 3 (AObj.ro (List.map (Value.int IntKind.i64) l))=true)∧Ob (AObj.rw (putL (List.map (Value.int IntKind.i64) (rsF l x)) (0+((x:Int).tmod (getI (List.map (Value.int IntKind.i64) l) 0)).toNat * 1) [vi (x:Int)]) (some 1)=AObj.rw (List.map (nmap1 fun (b:Nat)↦b) (List.map (Value.int IntKind.i64) (rsF l y))) (some 1)∧AObj.sc 3 (AObj.rw (List.map (Value.int IntKind.i64) (rsF l y)) (some 1))=true)∧Ob (AObj.rw (List.map (Value.int IntKind.i64) (cR l n)) (some 1)=AObj.rw (List.map (nmap1 fun (b:Nat)↦b) (List.map (Value.int IntKind.i64) (cR l n))) (some 1)∧AObj.sc 3 (AObj.rw (List.map (Value.int IntKind.i64) (cR l n)) (some 1))=true)∧True)∧Ob (Value.slice (some (ad0 0)) l.length c=Value.slice (some (ad0 0)) l.length c)∧Ob (Value.slice (some ⟨1,0,some 0⟩) (fstF l).toNat 0=Value.slice (some ⟨1,0,some 0⟩) (fstF l).toNat 0)∧Ob (Value.slice (some ⟨2,0,some 0⟩) 5001 0=Value.slice (some ⟨2,0,some 0⟩) 5001 0)∧Ob (IntKind.i64.wrap ((x:Int)+(1:Int))=(y:Int))∧True)∧(decide (getI (List.map (Value.int IntKind.i64) (rsF l x)) (0+((x:Int).tmod (getI (List.map (Value.int IntKind.i64) l) 0)).toNat * 1)<(0:Int))=false→∃ (y:Nat),Ob (y≤5001)∧Ob (5001-y<5001-x)∧(Ob (AObj.ro (List.map (Value.int IntKind.i64) l)=AObj.ro (List.map (nmap1 fun (b:Nat)↦b) (List.map (Value.int IntKind.i64) l))∧AObj.sc 3 (AObj.ro (List.map (Value.int IntKind.i64) l))=true)∧Ob (AObj.rw (List.map (Value.int IntKind.i64) (rsF l x)) (some 1)=AObj.rw (List.map (nmap1 fun (b:Nat)↦b) (List.map (Value.int IntKind.i64) (rsF l y))) (some 1)∧AObj.sc 3 (AObj.rw (List.map (Value.int IntKind.i64) (rsF l y)) (some 1))=true)∧Ob (AObj.rw (List.map (Value.int IntKind.i64) (cR l n)) (some 1)=AObj.rw (List.map (nmap1 fun (b:Nat)↦b) (List.map (Value.int IntKind.i64) (cR l n))) (some 1)∧AObj.sc 3 (AObj.rw (List.map (Value.int IntKind.i64) (cR l n)) (some 1))=true)∧True)∧Ob (Value.slice (some (ad0 0)) l.length c=Value.slice (some (ad0 0)) l.length c)∧Ob (Value.slice (some ⟨1,0,some 0⟩) (fstF l).toNat 0=Value.slice (some ⟨1,0,some 0⟩) (fstF l).toNat 0)∧Ob (Value.slice (some ⟨2,0,some 0⟩) 5001 0=Value.slice (some ⟨2,0,some 0⟩) 5001 0)∧Ob (IntKind.i64.wrap ((x:Int)+(1:Int))=(y:Int))∧True))∧((getI (List.map (Value.int IntKind.i64) (cR l n)) (0+(x:Int).toNat * 1)==(1:Int))=false→∃ (y:Nat),Ob (y≤5001)∧Ob (5001-y<5001-x)∧(Ob (AObj.ro (List.map (Value.int IntKind.i64) l)=AObj.ro (List.map (nmap1 fun (b:Nat)↦b) (List.map (Value.int IntKind.i64) l))∧AObj.sc 3 (AObj.ro (List.map (Value.int IntKind.i64) l))=true)∧Ob (AObj.rw (List.map (Value.int IntKind.i64) (rsF l x)) (some 1)=AObj.rw (List.map (nmap1 fun (b:Nat)↦b) (List.map (Value.int IntKind.i64) (rsF l y))) (some 1)∧AObj.sc 3 (AObj.rw (List.map (Value.int IntKind.i64) (rsF l y)) (some 1))=true)∧Ob (AObj.rw (List.map (Value.int IntKind.i64) (cR l n)) (some 1)=AObj.rw (List.map (nmap1 fun (b:Nat)↦b) (List.map (Value.int IntKind.i64) (cR l n))) (some 1)∧AObj.sc 3 (AObj.rw (List.map (Value.int IntKind.i64) (cR l n)) (some 1))=true)∧True)∧Ob (Value.slice (some (ad0 0)) l.length c=Value.slice (some (ad0 0)) l.length c)∧Ob (Value.slice (some ⟨1,0,some 0⟩) (fstF l).toNat 0=Value.slice (some ⟨1,0,some 0⟩) (fstF l).toNat 0)∧Ob (Value.slice (some ⟨2,0,some 0⟩) 5001 0=Value.slice (some ⟨2,0,some 0⟩) 5001 0)∧Ob (IntKind.i64.wrap ((x:Int)+(1:Int))=(y:Int))∧True))∧(decide ((x:Int)≤(5000:Int))=false→(Ob (AObj.ro (List.map (Value.int IntKind.i64) l)=AObj.ro (List.map (nmap1 (nsub 1 1)) (List.map (Value.int IntKind.i64) l))∧AObj.sc 2 (AObj.ro (List.map (Value.int IntKind.i64) l))=true)∧Ob (AObj.rw (List.map (Value.int IntKind.i64) (rsF l x)) (some 1)=AObj.rw (List.map (nmap1 (nsub 1 1)) (List.map (Value.int IntKind.i64) (rsF l m))) (some 1)∧AObj.sc 2 (AObj.rw (List.map (Value.int IntKind.i64) (rsF l m)) (some 1))=true)∧True)∧Ob (Value.slice (some ⟨1,0,some 0⟩) (fstF l).toNat 0=Value.slice (some ⟨1,0,some 0⟩) (fstF l).toNat 0)∧True)))∧∀ (x:Nat),Ob (2≤x∧x≤5001)→(decide ((x:Int)≤(5000:Int))=true→(∃ (y:Nat),Ob (y≤l.length)∧(Ob (AObj.ro (List.map (Value.int IntKind.i64) l)=AObj.ro (List.map (nmap1 fun (b:Nat)↦b) (List.map (Value.int IntKind.i64) l))∧AObj.sc 3 (AObj.ro (List.map (Value.int IntKind.i64) l))=true)∧Ob (AObj.rw (List.map (Value.int IntKind.i64) (List.replicate (fstF l).toNat (-1:Int))) (some 1)=AObj.rw (List.map (nmap1 fun (b:Nat)↦b) (List.map (Value.int IntKind.i64) (List.replicate (fstF l).toNat (-1:Int)))) (some 1)∧AObj.sc 3 (AObj.rw (List.map (Value.int IntKind.i64) (List.replicate (fstF l).toNat (-1:Int))) (some 1))=true)∧Ob (AObj.rw (List.map (Value.int IntKind.i64) (cR l (x-1))) (some 1)=AObj.rw (List.map (nmap1 fun (b:Nat)↦b) (List.map (Value.int IntKind.i64) (cR l (x-1)))) (some 1)∧AObj.sc 3 (AObj.rw (List.map (Value.int IntKind.i64) (cR l (x-1))) (some 1))=true)∧True)∧Ob (Value.slice (some (ad0 0)) l.length c=Value.slice (some (ad0 0)) l.length c)∧Ob (Value.slice (some ⟨1,0,some 0⟩) (fstF l).toNat 0=Value.slice (some ⟨1,0,some 0⟩) (fstF l).toNat 0)∧Ob (Value.slice (some ⟨2,0,some 0⟩) x 0=Value.slice (some ⟨2,0,some 0⟩) x 0)∧Ob ((x:Int)=(x:Int))∧Ob ((0:Int)=nxF (cR l (x-1)) l x y)∧Ob ((0:Int)=(y:Int))∧True)∧∀ (x_1:Nat),Ob (x_1≤l.length)→(decide ((x_1:Int)<(l.length:Int))=true→Ob ((0:Int)≤(x_1:Int)∧(x_1:Int)<(l.length:Int)∧true=true)∧Ob (IntAt IntKind.i64 (List.map (Value.int IntKind.i64) l) (0+(x_1:Int).toNat * 1))∧(decide (getI (List.map (Value.int IntKind.i64) l) (0+(x_1:Int).toNat * 1)≤(x:Int))=true→Ob ((0:Int)≤(x_1:Int)∧(x_1:Int)<(l.length:Int)∧true=true)∧Ob (IntAt IntKind.i64 (List.map (Value.int IntKind.i64) l) (0+(x_1:Int).toNat * 1))∧Ob ((0:Int)≤IntKind.i64.wrap ((x:Int)-getI (List.map (Value.int IntKind.i64) l) (0+(x_1:Int).toNat * 1))∧IntKind.i64.wrap ((x:Int)-getI (List.map (Value.int IntKind.i64) l) (0+(x_1:Int).toNat * 1))<(x:Int)∧true=true)∧Ob (IntAt IntKind.i64 (List.map (Value.int IntKind.i64) (cR l (x-1))) (0+(IntKind.i64.wrap ((x:Int)-getI (List.map (Value.int IntKind.i64) l) (0+(x_1:Int).toNat * 1))).toNat * 1))∧∃ (y:Nat),Ob (y≤l.length)∧Ob (l.length-y<l.length-x_1)∧(Ob (AObj.ro (List.map (Value.int IntKind.i64) l)=AObj.ro (List.map (nmap1 fun (b:Nat)↦b) (List.map (Value.int IntKind.i64) l))∧AObj.sc 3 (AObj.ro (List.map (Value.int IntKind.i64) l))=true)∧Ob (AObj.rw (List.map (Value.int IntKind.i64) (List.replicate (fstF l).toNat (-1:Int))) (some 1)=AObj.rw (List.map (nmap1 fun (b:Nat)↦b) (List.map (Value.int IntKind.i64) (List.replicate (fstF l).toNat (-1:Int)))) (some 1)∧AObj.sc 3 (AObj.rw (List.map (Value.int IntKind.i64) (List.replicate (fstF l).toNat (-1:Int))) (some 1))=true)∧Ob (AObj.rw (List.map (Value.int IntKind.i64) (cR l (x-1))) (some 1)=AObj.rw (List.map (nmap1 fun (b:Nat)↦b) (List.map (Value.int IntKind.i64) (cR l (x-1)))) (some 1)∧AObj.sc 3 (AObj.rw (List.map (Value.int IntKind.i64) (cR l (x-1))) (some 1))=true)∧True)∧Ob (Value.slice (some (ad0 0)) l.length c=Value.slice (some (ad0 0)) l.length c)∧Ob (Value.slice (some ⟨1,0,some 0⟩) (fstF l).toNat 0=Value.slice (some ⟨1,0,some 0⟩) (fstF l).toNat 0)∧Ob (Value.slice (some ⟨2,0,some 0⟩) x 0=Value.slice (some ⟨2,0,some 0⟩) x 0)∧Ob ((x:Int)=(x:Int))∧Ob ((if getI (List.map (Value.int IntKind.i64) (cR l (x-1))) (0+(IntKind.i64.wrap ((x:Int)-getI (List.map (Value.int IntKind.i64) l) (0+(x_1:Int).toNat * 1))).toNat * 1) > nxF (cR l (x-1)) l x x_1 then getI (List.map (Value.int IntKind.i64) (cR l (x-1))) (0+(IntKind.i64.wrap ((x:Int)-getI (List.map (Value.int IntKind.i64) l) (0+(x_1:Int).toNat * 1))).toNat * 1) else nxF (cR l (x-1)) l x x_1)=nxF (cR l (x-1)) l x y)∧Ob (IntKind.i64.wrap ((x_1:Int)+(1:Int))=(y:Int))∧True)∧(decide (getI (List.map (Value.int IntKind.i64) l) (0+(x_1:Int).toNat * 1)≤(x:Int))=false→∃ (y:Nat),Ob (y≤l.length)∧Ob (l.length-y<l.length-x_1)∧(Ob (AObj.ro (List.map (Value.int IntKind.i64) l)=AObj.ro (List.map (nmap1 fun (b:Nat)↦b) (List.map (Value.int IntKind.i64) l))∧AObj.sc 3 (AObj.ro (List.map (Value.int IntKind.i64) l))=true)∧Ob (AObj.rw (List.map (Value.int IntKind.i64) (List.replicate (fstF l).toNat (-1:Int))) (some 1)=AObj.rw (List.map (nmap1 fun (b:Nat)↦b) (List.map (Value.int IntKind.i64) (List.replicate (fstF l).toNat (-1:Int)))) (some 1)∧AObj.sc 3 (AObj.rw (List.map (Value.int IntKind.i64) (List.replicate (fstF l).toNat (-1:Int))) (some 1))=true)∧Ob (AObj.rw (List.map (Value.int IntKind.i64) (cR l (x-1))) (some 1)=AObj.rw (List.map (nmap1 fun (b:Nat)↦b) (List.map (Value.int IntKind.i64) (cR l (x-1)))) (some 1)∧AObj.sc 3 (AObj.rw (List.map (Value.int IntKind.i64) (cR l (x-1))) (some 1))=true)∧True)∧Ob (Value.slice (some (ad0 0)) l.length c=Value.slice (some (ad0 0)) l.length c)∧Ob (Value.slice (some ⟨1,0,some 0⟩) (fstF l).toNat 0=Value.slice (some ⟨1,0,some 0⟩) (fstF l).toNat 0)∧Ob (Value.slice (some ⟨2,0,some 0⟩) x 0=Value.slice (some ⟨2,0,some 0⟩) x 0)∧Ob ((x:Int)=(x:Int))∧Ob (nxF (cR l (x-1)) l x x_1=nxF (cR l (x-1)) l x y)∧Ob (IntKind.i64.wrap ((x_1:Int)+(1:Int))=(y:Int))∧True))∧(decide ((x_1:Int)<(l.length:Int))=false→Ob (andP (some (0+1≤1∧true=true)) (x+1≤1099511627776∧(2 * (x+1)+256) * 8≤281474976710656∧1=1∧(List.map (Value.int IntKind.i64) (cR l (x-1))).length=x * 1))∧((∃ (y:Unit),Ob True∧Ob (5001<5002-x)∧(Ob (AObj.ro (List.map (Value.int IntKind.i64) l)=AObj.ro (List.map (nmap1 (nsub 2 4)) (List.map (Value.int IntKind.i64) l))∧AObj.sc 3 (AObj.ro (List.map (Value.int IntKind.i64) l))=true)∧Ob (AObj.rw (List.map (Value.int IntKind.i64) (List.replicate (fstF l).toNat (-1:Int))) (some 1)=AObj.rw (List.map (nmap1 (nsub 2 4)) (List.map (Value.int IntKind.i64) (List.replicate (fstF l).toNat (-1:Int)))) (some 1)∧AObj.sc 3 (AObj.rw (List.map (Value.int IntKind.i64) (List.replicate (fstF l).toNat (-1:Int))) (some 1))=true)∧Ob (AObj.rw (List.map (Value.int IntKind.i64) (cR l (x-1))++[vi (nxF (cR l (x-1)) l x x_1)]) (some 1)=AObj.rw [vi (1:Int)] none∧true=true)∧True)∧Ob (Value.slice (some (ad0 0)) l.length c=Value.slice (some (ad0 0)) l.length c)∧Ob (Value.slice (some ⟨1,0,some 0⟩) (fstF l).toNat 0=Value.slice (some ⟨1,0,some 0⟩) (fstF l).toNat 0)∧Ob (Value.slice (some ⟨4,0,some 0⟩) (x+1) 0=Value.slice (some (ad0 4)) 1 1)∧Ob (IntKind.i64.wrap ((x:Int)+(1:Int))=(1:Int))∧True)∨∃ (y:Nat),Ob (2≤y∧y≤5001)∧Ob (5002-y<5002-x)∧(Ob (AObj.ro (List.map (Value.int IntKind.i64) l)=AObj.ro (List.map (nmap1 (nsub 2 4)) (List.map (Value.int IntKind.i64) l))∧AObj.sc 3 (AObj.ro (List.map (Value.int IntKind.i64) l))=true)∧Ob (AObj.rw (List.map (Value.int IntKind.i64) (List.replicate (fstF l).toNat (-1:Int))) (some 1)=AObj.rw (List.map (nmap1 (nsub 2 4)) (List.map (Value.int IntKind.i64) (List.replicate (fstF l).toNat (-1:Int)))) (some 1)∧AObj.sc 3 (AObj.rw (List.map (Value.int IntKind.i64) (List.replicate (fstF l).toNat (-1:Int))) (some 1))=true)∧Ob (AObj.rw (List.map (Value.int IntKind.i64) (cR l (x-1))++[vi (nxF (cR l (x-1)) l x x_1)]) (some 1)=AObj.rw (List.map (nmap1 (nsub 2 4)) (List.map (Value.int IntKind.i64) (cR l (y-1)))) (some 1)∧AObj.sc 3 (AObj.rw (List.map (Value.int IntKind.i64) (cR l (y-1))) (some 1))=true)∧True)∧Ob (Value.slice (some (ad0 0)) l.length c=Value.slice (some (ad0 0)) l.length c)∧Ob (Value.slice (some ⟨1,0,some 0⟩) (fstF l).toNat 0=Value.slice (some ⟨1,0,some 0⟩) (fstF l).toNat 0)∧Ob (Value.slice (some ⟨4,0,some 0⟩) (x+1) 0=Value.slice (some ⟨4,0,some 0⟩) y 0)∧Ob (IntKind.i64.wrap ((x:Int)+(1:Int))=(y:Int))∧True)))∧(decide ((x:Int)≤(5000:Int))=false→(∃ (y:Nat),Ob (y≤5001)∧(Ob (AObj.ro (List.map (Value.int IntKind.i64) l)=AObj.ro (List.map (nmap1 fun (b:Nat)↦b) (List.map (Value.int IntKind.i64) l))∧AObj.sc 3 (AObj.ro (List.map (Value.int IntKind.i64) l))=true)∧Ob (AObj.rw (List.map (Value.int IntKind.i64) (List.replicate (fstF l).toNat (-1:Int))) (some 1)=AObj.rw (List.map (nmap1 fun (b:Nat)↦b) (List.map (Value.int IntKind.i64) (rsF l y))) (some 1)∧AObj.sc 3 (AObj.rw (List.map (Value.int IntKind.i64) (rsF l y)) (some 1))=true)∧Ob (AObj.rw (List.map (Value.int IntKind.i64) (cR l (x-1))) (some 1)=AObj.rw (List.map (nmap1 fun (b:Nat)↦b) (List.map (Value.int IntKind.i64) (cR l n))) (some 1)∧AObj.sc 3 (AObj.rw (List.map (Value.int IntKind.i64) (cR l n)) (some 1))=true)∧True)∧Ob (Value.slice (some (ad0 0)) l.length c=Value.slice (some (ad0 0)) l.length c)∧Ob (Value.slice (some ⟨1,0,some 0⟩) (fstF l).toNat 0=Value.slice (some ⟨1,0,some 0⟩) (fstF l).toNat 0)∧Ob (Value.slice (some ⟨2,0,some 0⟩) x 0=Value.slice (some ⟨2,0,some 0⟩) 5001 0)∧Ob ((0:Int)=(y:Int))∧True)∧∀ (x:Nat),Ob (x≤5001)→(decide ((x:Int)≤(5000:Int))=true→Ob ((0:Int)≤(x:Int)∧(x:Int)<(↑(5001:Nat):Int)∧true=true)∧Ob (IntAt IntKind.i64 (List.map (Value.int IntKind.i64) (cR l n)) (0+(x:Int).toNat * 1))∧((getI (List.map (Value.int IntKind.i64) (cR l n)) (0+(x:Int).toNat * 1)==(1:Int))=true→Ob ((0:Int)≤(0:Int)∧(0:Int)<(l.length:Int)∧true=true)∧Ob (IntAt IntKind.i64 (List.map (Value.int IntKind.i64) l) 0)∧Ob (getI (List.map (Value.int IntKind.i64) l) 0≠(0:Int))∧Ob ((0:Int)≤(x:Int).tmod (getI (List.map (Value.int IntKind.i64) l) 0)∧(x:Int).tmod (getI (List.map (Value.int IntKind.i64) l) 0)<(↑(fstF l).toNat:Int)∧true=true)∧Ob (IntAt IntKind.i64 (List.map (Value.int IntKind.i64) (rsF l x)) (0+((x:Int).tmod (getI (List.map (Value.int IntKind.i64) l) 0)).toNat * 1))∧(decide (getI (List.map (Value.int IntKind.i64) (rsF l x)) (0+((x:Int).tmod (getI (List.map (Value.int IntKind.i64) l) 0)).toNat * 1)<(0:Int))=true→Ob ((0:Int)≤(0:Int)∧(0:Int)<(l.length:Int)∧true=true)∧Ob (IntAt IntKind.i64 (List.map (Value.int IntKind.i64) l) 0)∧Ob (getI (List.map (Value.int IntKind.i64) l) 0≠(0:Int))∧Ob ((0:Int)≤(x:Int).tmod (getI (List.map (Value.int IntKind.i64) l) 0)∧(x:Int).tmod (getI (List.map (Value.int IntKind.i64) l) 0)<(↑(fstF l).toNat:Int)∧true=true)∧Ob (0+((x:Int).tmod (getI (List.map (Value.int IntKind.i64) l) 0)).toNat * 1+1≤(List.map (Value.int IntKind.i64) (rsF l x)).length)∧∃ (y:Nat),Ob (y≤5001)∧Ob (5001-y<5001-x)∧(Ob (AObj.ro (List.map (Value.int IntKind.i64) l)=AObj.ro (List.map (nmap1 fun (b:Nat)↦b) (List.map (Value.int IntKind.i64) l))∧AObj.sc 3 (AObj.ro (List.map (Value.int IntKind.i64) l))=true)∧Ob (AObj.rw (putL (List.map (Value.int IntKind.i64) (rsF l x)) (0+((x:Int).tmod (getI (List.map (Value.int IntKind.i64) l) 0)).toNat * 1) [vi (x:Int)]) (some 1)=AObj.rw (List.map (nmap1 fun (b:Nat)↦b) (List.map (Value.int IntKind.i64) (rsF l y))) (some 1)∧AObj.sc 3 (AObj.rw (List.map (Value.int IntKind.i64) (rsF l y)) (some 1))=true)∧Ob (AObj.rw (List.map (Value.int IntKind.i64) (cR l n)) (some 1)=AObj.rw (List.map (nmap1 fun (b:Nat)↦b) (List.map (Value.int IntKind.i64) (cR l n))) (some 1)∧AObj.sc 3 (AObj.rw (List.map (Value.int IntKind.i64) (cR l n)) (some 1))=true)∧True)∧Ob (Value.slice (some (ad0 0)) l.length c=Value.slice (some (ad0 0)) l.length c)∧Ob (Value.slice (some ⟨1,0,some 0⟩) (fstF l).toNat 0=Value.slice (some ⟨1,0,some 0⟩) (fstF l).toNat 0)∧Ob (Value.slice (some ⟨2,0,some 0⟩) 5001 0=Value.slice (some ⟨2,0,some 0⟩) 5001 0)∧Ob (IntKind.i64.wrap ((x:Int)+(1:Int))=(y:Int))∧True)∧(decide (getI (List.map (Value.int IntKind.i64) (rsF l x)) (0+((x:Int).tmod (getI (List.map (Value.int IntKind.i64) l) 0)).toNat * 1)<(0:Int))=false→∃ (y:Nat),Ob (y≤5001)∧Ob (5001-y<5001-x)∧(Ob (AObj.ro (List.map (Value.int IntKind.i64) l)=AObj.ro (List.map (nmap1 fun (b:Nat)↦b) (List.map (Value.int IntKind.i64) l))∧AObj.sc 3 (AObj.ro (List.map (Value.int IntKind.i64) l))=true)∧Ob (AObj.rw (List.map (Value.int IntKind.i64) (rsF l x)) (some 1)=AObj.rw (List.map (nmap1 fun (b:Nat)↦b) (List.map (Value.int IntKind.i64) (rsF l y))) (some 1)∧AObj.sc 3 (AObj.rw (List.map (Value.int IntKind.i64) (rsF l y)) (some 1))=true)∧Ob (AObj.rw (List.map (Value.int IntKind.i64) (cR l n)) (some 1)=AObj.rw (List.map (nmap1 fun (b:Nat)↦b) (List.map (Value.int IntKind.i64) (cR l n))) (some 1)∧AObj.sc 3 (AObj.rw (List.map (Value.int IntKind.i64) (cR l n)) (some 1))=true)∧True)∧Ob (Value.slice (some (ad0 0)) l.length c=Value.slice (some (ad0 0)) l.length c)∧Ob (Value.slice (some ⟨1,0,some 0⟩) (fstF l).toNat 0=Value.slice (some ⟨1,0,some 0⟩) (fstF l).toNat 0)∧Ob (Value.slice (some ⟨2,0,some 0⟩) 5001 0=Value.slice (some ⟨2,0,some 0⟩) 5001 0)∧Ob (IntKind.i64.wrap ((x:Int)+(1:Int))=(y:Int))∧True))∧((getI (List.map (Value.int IntKind.i64) (cR l n)) (0+(x:Int).toNat * 1)==(1:Int))=false→∃ (y:Nat),Ob (y≤5001)∧Ob (5001-y<5001-x)∧(Ob (AObj.ro (List.map (Value.int IntKind.i64) l)=AObj.ro (List.map (nmap1 fun (b:Nat)↦b) (List.map (Value.int IntKind.i64) l))∧AObj.sc 3 (AObj.ro (List.map (Value.int IntKind.i64) l))=true)∧Ob (AObj.rw (List.map (Value.int IntKind.i64) (rsF l x)) (some 1)=AObj.rw (List.map (nmap1 fun (b:Nat)↦b) (List.map (Value.int IntKind.i64) (rsF l y))) (some 1)∧AObj.sc 3 (AObj.rw (List.map (Value.int IntKind.i64) (rsF l y)) (some 1))=true)∧Ob (AObj.rw (List.map (Value.int IntKind.i64) (cR l n)) (some 1)=AObj.rw (List.map (nmap1 fun (b:Nat)↦b) (List.map (Value.int IntKind.i64) (cR l n))) (some 1)∧AObj.sc 3 (AObj.rw (List.map (Value.int IntKind.i64) (cR l n)) (some 1))=true)∧True)∧Ob (Value.slice (some (ad0 0)) l.length c=Value.slice (some (ad0 0)) l.length c)∧Ob (Value.slice (some ⟨1,0,some 0⟩) (fstF l).toNat 0=Value.slice (some ⟨1,0,some 0⟩) (fstF l).toNat 0)∧Ob (Value.slice (some ⟨2,0,some 0⟩) 5001 0=Value.slice (some ⟨2,0,some 0⟩) 5001 0)∧Ob (IntKind.i64.wrap ((x:Int)+(1:Int))=(y:Int))∧True))∧(decide ((x:Int)≤(5000:Int))=false→(Ob (AObj.ro (List.map (Value.int IntKind.i64) l)=AObj.ro (List.map (nmap1 (nsub 1 1)) (List.map (Value.int IntKind.i64) l))∧AObj.sc 2 (AObj.ro (List.map (Value.int IntKind.i64) l))=true)∧Ob (AObj.rw (List.map (Value.int IntKind.i64) (rsF l x)) (some 1)=AObj.rw (List.map (nmap1 (nsub 1 1)) (List.map (Value.int IntKind.i64) (rsF l m))) (some 1)∧AObj.sc 2 (AObj.rw (List.map (Value.int IntKind.i64) (rsF l m)) (some 1))=true)∧True)∧Ob (Value.slice (some ⟨1,0,some 0⟩) (fstF l).toNat 0=Value.slice (some ⟨1,0,some 0⟩) (fstF l).toNat 0)∧True)))
theorem roV_eq : roV = fun (l : List Int) (c n m : Nat) => vc Try.prog {} 1 81 true (roI l c n) roB [] (argFr 0 [.slice (some ⟨0,0,none⟩) l.length c]) [ros l] (retR Try.prog Try.f82 1 (nsub 1 1) (wS 1 (fstF l).toNat) [ros l,rws (rsF l m)]) := by kernel_rfl
theorem cR_len {l : List Int} : ∀ a,(cR l a).length = a + 1
 | 0 => rfl
 | a + 1 => by rw [cR,List.length_append,cR_len a]; rfl
theorem nx_val {l r : List Int} (hc : Coins l) {a : Nat} (h : ∀ b,b < a→r.getD b 0 = if canB l b = true then 1 else 0) : ∀ i,i≤l.length→(nxF r l a i = 1∧∃ k,k < i∧(l.getD k 0).toNat≤a∧canB l (a - (l.getD k 0).toNat) = true)∨(nxF r l a i = 0∧∀ k,k < i→(l.getD k 0).toNat≤a→canB l (a - (l.getD k 0).toNat) = false)
 | 0,_ => .inr ⟨rfl,fun k hk => by omega⟩
 | i + 1,hi => by
   have cr := coin_rng hc (j := i) (by omega)
   have ih := nx_val hc h i (by omega)
   rw [nxF]
   by_cases h1 : l.getD i 0≤a
   · have e : ((a : Int) - l.getD i 0).toNat = a - (l.getD i 0).toNat := by omega
     rw [if_pos h1,e,h _ (by omega)]
     cases hb : canB l (a - (l.getD i 0).toNat) with
     | true =>
       rw [if_pos rfl]
       refine .inl ⟨?_,i,by omega,by omega,hb⟩
       rcases ih with ih | ih <;> rw [ih.1] <;> decide
     | false =>
       rw [if_neg Bool.false_ne_true]
       rcases ih with ⟨i1,k,k1,k2⟩ | ⟨i1,i2⟩
       · exact .inl ⟨by rw [i1]; decide,k,by omega,k2⟩
       · exact .inr ⟨by rw [i1]; decide, fun k hk hk2 => by
           by_cases hki : k = i
           · subst hki; exact hb
           · exact i2 k (by omega) hk2⟩
   · rw [if_neg h1]
     rcases ih with ⟨i1,k,k1,k2⟩ | ⟨i1,i2⟩
     · exact .inl ⟨i1,k,by omega,k2⟩
     · exact .inr ⟨i1, fun k hk hk2 => by
         by_cases hki : k = i
         · subst hki; omega
         · exact i2 k (by omega) hk2⟩
theorem nx_can {l r : List Int} (hc : Coins l) {a : Nat} (ha : 0 < a) (ha9 : a≤9999) (h : ∀ b,b < a→r.getD b 0 = if canB l b = true then 1 else 0) : nxF r l a l.length = if canB l a = true then 1 else 0 := by
 rcases nx_val hc h l.length (Nat.le_refl _) with ⟨i1,k,k1,k2,k3⟩ | ⟨i1,i2⟩
 · have := add_coin hc k1 (y := a - (l.getD k 0).toNat) (by omega) k3
   rw [show a - (l.getD k 0).toNat + (l.getD k 0).toNat = a by omega] at this
   rw [i1,if_pos this]
 · cases hb : canB l a with
   | false => rw [i1,if_neg Bool.false_ne_true]
   | true =>
     obtain ⟨k,k1,k2,k3⟩ := sub_coin hc ha ha9 hb
     rw [i2 k k1 k2] at k3; cases k3
theorem cR_get {l : List Int} (hc : Coins l) : ∀ a,a≤9999→∀ b,b < a + 1→(cR l a).getD b 0 = if canB l b = true then 1 else 0
 | 0,_,b,hb => by
   obtain rfl : b = 0 := by omega
   rfl
 | a + 1,ha,b,hb => by
   rw [cR,List.getD_eq_getElem?_getD]
   by_cases e : b < a + 1
   · rw [List.getElem?_append_left (by rw [cR_len]; omega),← List.getD_eq_getElem?_getD]
     exact cR_get hc a (by omega) b e
   · obtain rfl : b = a + 1 := by omega
     rw [List.getElem?_append_right (by rw [cR_len]; omega),cR_len,Nat.sub_self]
     exact nx_can hc (by omega) ha fun b hb => cR_get hc a (by omega) b hb
theorem roV_ok (l : List Int) (c n m : Nat) (hc : Coins l) (hn : n = 5000) (hm : m = 5001) : roV l c n m := by
 unfold roV
 simp only [SS,reduceCtorEq,Arg.list,Arg.num,Arg.flag,intOf,andP,Nat.reduceLeDiff,Nat.reduceAdd,Nat.reduceMul,Nat.reduceLT,nm_sl,wS,putL_int,List.length_replicate]
 have hf := fst_rng hc
 have hp := hc.pos
 have hfew := hc.few
 have cr : ∀ j,j < l.length→1≤l.getD j 0∧l.getD j 0≤50 := fun j hj => coin_rng hc hj
 have fold : l.getD 0 0 = fstF l := rfl
 rw [fold]
 refine ⟨⟨by omega,hp,fun _ => ⟨1,by omega,by omega,rfl,rfl,by rw [wrap_in (by omega) (by omega)]; rfl⟩,fun h => h (by omega)⟩,fun x hx => ⟨by omega,hp,fun h => ⟨by omega,x + 1,by omega,by omega,by rw [List.replicate_succ'],rfl,wrap_succ (n := 100) (by omega) (by omega)⟩,fun h => ?_⟩⟩
 have ex : x = (fstF l).toNat := by omega
 refine ⟨⟨by rw [ex],ex⟩,⟨⟨0,by omega,rfl,rfl,rfl⟩,fun x hx => ⟨fun h => ⟨by omega,by omega,fun h2 => ?_,fun h2 => ⟨x + 1,by omega,by omega,by rw [nxF,if_neg h2],wrap_succ (n := 100) (by omega) (by omega)⟩⟩,fun h => ⟨2,by omega,by omega,?_,rfl,by rw [wrap_in (by omega) (by omega)]; rfl⟩⟩⟩,fun x hx => ⟨fun h5 => ⟨⟨0,by omega,rfl,rfl⟩,fun i hi => ⟨fun h => ⟨by omega,by omega,fun h2 => ?_,fun h2 => ⟨i + 1,by omega,by omega,by rw [nxF,if_neg h2],wrap_succ (n := 100) (by omega) (by omega)⟩⟩,fun h => ⟨by rw [cR_len]; omega,x + 1,by omega,by omega,?_,rfl,wrap_succ (n := 9999) (by omega) (by omega)⟩⟩⟩,fun h5 => ⟨⟨0,by omega,⟨rfl,by rw [show x - 1 = n by omega]⟩,by omega,rfl⟩,fun x hx => ⟨fun h => ?_,fun h => by rw [show x = m by omega]⟩⟩⟩⟩
 · have c1 := cr x (by omega)
   have e : l.getD x 0 = 1 := by omega
   have w0 : IntKind.i64.wrap (((1 : Nat) : Int) - l.getD x 0) = 0 := by rw [e,wrap_in (by omega) (by omega)]; rfl
   rw [w0]
   exact ⟨by omega,by omega,by omega,rfl,x + 1,by omega,by omega,by rw [nxF,if_pos h2,e]; rfl,wrap_succ (n := 100) (by omega) (by omega)⟩
 · rw [show x = l.length by omega]; rfl
 · have c1 := cr i (by omega)
   have w0 : IntKind.i64.wrap ((x : Int) - l.getD i 0) = (x : Int) - l.getD i 0 := wrap_in (by omega) (by omega)
   rw [w0]
   exact ⟨by omega,by omega,by omega,by rw [cR_len]; omega,i + 1,by omega,by omega,by rw [nxF,if_pos h2],wrap_succ (n := 100) (by omega) (by omega)⟩
 · obtain ⟨a,rfl⟩ : ∃ a,x = a + 1 := ⟨x - 1,by omega⟩
   simp only [Nat.add_sub_cancel]
   rw [show i = l.length by omega]; rfl
 · have cx := cR_get hc n (by omega) x (by omega)
   have td := div_bd (r := (x : Int)) (by omega) hf.1
   have rl := rs_len (l := l) x
   have ws : IntKind.i64.wrap ((x : Int) + 1) = ((x + 1 : Nat) : Int) := wrap_succ (n := 9999) (by omega) (by omega)
   have kj : ((x : Int).tmod (fstF l)).toNat < (rsF l x).length := by omega
   refine ⟨by omega,by rw [cR_len]; omega,fun h1 => ⟨by omega,hp,by omega,by omega,kj,fun h2 => ⟨by omega,hp,by omega,by omega,kj,x + 1,by omega,by omega,?_,ws⟩,fun h2 => ⟨x + 1,by omega,by omega,?_,ws⟩⟩,fun h1 => ⟨x + 1,by omega,by omega,?_,ws⟩⟩
   · have hb : canB l x = true := by
       cases hb : canB l x with
       | true => rfl
       | false => rw [hb,if_neg Bool.false_ne_true,h1] at cx; omega
     have := (rs_bd (l := l) x _ (ints_mem kj)).1
     rw [rsF,hb,show (rsF l x).getD ((x : Int).tmod (fstF l)).toNat 0 = -1 by omega]; rfl
   · rw [rsF,show ((rsF l x).getD ((x : Int).tmod (fstF l)).toNat 0 == -1) = false by rw [beq_eq_false_iff_ne]; omega,Bool.and_false]; rfl
   · have hb : canB l x = false := by
       cases hb : canB l x with
       | false => rfl
       | true => rw [hb,if_pos rfl] at cx; exact absurd cx h1
     rw [rsF,hb]; rfl
theorem rs_more {l : List Int} (hc : Coins l) : ∀ n,n≤7000→rsF l (topF l + 1 + n) = resF l
 | 0,_ => rfl
 | n + 1,hn => by
   have ih := rs_more hc n (by omega)
   have hf := fst_rng hc
   have tp := top_le hc
   have hk := tmodN (n := topF l + 1 + n) hf.1
   have hj : (topF l + 1 + n) % (fstF l).toNat < (fstF l).toNat := Nat.mod_lt _ (by omega)
   rw [← Nat.add_assoc,rsF,hk,ih]
   cases hb : canB l (topF l + 1 + n) with
   | false => rfl
   | true =>
     obtain ⟨y,k1,k2,k3,k4⟩ := pay_least hc _ _ (Nat.le_refl _) (by omega) hb
     rcases rs_at hc hj (topF l + 1) with ⟨_,h2⟩ | ⟨a,_,h2,_⟩
     · rw [h2 y (by omega) k3] at k4; cases k4
     · have e : (resF l).getD ((topF l + 1 + n) % (fstF l).toNat) 0 = a := h2
       rw [show ((resF l).getD ((topF l + 1 + n) % (fstF l).toNat) 0 == -1) = false by rw [beq_eq_false_iff_ne]; omega]; rfl
theorem rs_res {l : List Int} (hc : Coins l) : rsF l 5001 = resF l := by
 have tp := top_le hc
 have := rs_more hc (5000 - topF l) (by omega)
 rw [show topF l + 1 + (5000 - topF l) = 5001 by omega] at this
 exact this
theorem ro_call (l : List Int) (c : Nat) (hc : Coins l) : Call Try.prog 82 [.slice (some ⟨0,0,none⟩) l.length c] [ros l] fun v H' => v = wS 1 (resF l).length∧H' = [ros l] ++ [rws (resF l)] := by
 have := Call.ofVcR (E := {}) (H := [ros l]) (args := [.slice (some ⟨0,0,none⟩) l.length c]) (σ := nsub 1 1) (v2 := wS 1 (fstF l).toNat) (H2 := [ros l,rws (rsF l 5001)]) E0_ok mixed (c := roB) (inv := roI l c 5000) Try.func82 (by kernel_rfl) (cast (congrFun (congrFun (congrFun (congrFun roV_eq l) c) 5000) 5001) (roV_ok l c 5000 5001 hc rfl rfl))
 rw [res_len,← rs_res hc]
 exact this
end Go.Pier.Fl
namespace Go.Pier.Fl
open Go Go.Pier Go.Proofs
def roS (r : List Arg3) : Option Born := match r with
 | [.one (.view cs n r)] => some ⟨okV (.view cs n r),fun b => wS b (resF (intsOf cs)).length,[rws (resF (intsOf cs))]⟩
 | _ => none
noncomputable def roT : Ct := (Ct.none.add 23 (pureG [.ints .i64] ciS)).add 82 (born3 [.one (.rows [.i .i64] false)] roS)
noncomputable def roE : VEnv := { ct := roT }
def edS (r : List Arg) : Prop × Value := match r with
 | [.ints _ l] => (l.length≤1000000,vi (mnE l))
 | [_] => (True,vi 6)
 | _ => (False,undef)
noncomputable def rgE : VEnv := { ct := roT.add 85 (pureG [.ints .i64] edS) }
noncomputable def edB : Code := Try.f85.body.getD .skip
noncomputable def rgB : Code := Try.f42.body.getD .skip
noncomputable def rmB : Code := Try.f44.body.getD .skip
def edI (l : List Int) : Nat→Option LInv := invOf 0 (LInv.one Nat (fun i => i≤(resF l).length∧∀ j,j < i→0≤(resF l).getD j 0) (fun i => [(3,wS 1 (resF l).length),(4,vi i)]) (fun _ => [ros l,rws (resF l)]) (fun i => (resF l).length - i))
def rgI (l : List Int) (c : Nat) : Nat→Option LInv := invOf 0 (LInv.one Nat (fun i => i≤(resF l).length) (fun i => [(0,.slice (some ⟨0,0,none⟩) l.length c),(4,wS 1 (resF l).length),(5,vi (msF (resF l) (fstF l) i)),(6,vi i)]) (fun _ => [ros l,rws (resF l)]) (fun i => (resF l).length - i))
def rmI (l : List Int) (c : Nat) : Nat→Option LInv := invOf 0 (LInv.one Nat (fun i => i≤(resF l).length) (fun i => [(0,.slice (some ⟨0,0,none⟩) l.length c),(4,wS 1 (resF l).length),(5,vi (smF (resF l) (fstF l) i)),(6,vi i)]) (fun _ => [ros l,rws (resF l)]) (fun i => (resF l).length - i))
noncomputable def edV :=
fun (l:List Int) (c:Nat)↦Ob ((List.take l.length (List.drop 0 (List.map (Value.int IntKind.i64) l))=List.map (Value.int IntKind.i64) (List.take l.length (List.drop 0 (intsOf (List.map (Value.int IntKind.i64) l))))∧0+l.length≤(List.map (Value.int IntKind.i64) l).length∧true=true)∧(List.take l.length (List.drop 0 (intsOf (List.map (Value.int IntKind.i64) l)))).length≤1000000)∧((errC (List.take l.length (List.drop 0 (intsOf (List.map (Value.int IntKind.i64) l)))) !=(0:Int))=true→Ob ((List.take l.length (List.drop 0 (List.map (Value.int IntKind.i64) l))=List.map (Value.int IntKind.i64) (List.take l.length (List.drop 0 (intsOf (List.map (Value.int IntKind.i64) l))))∧0+l.length≤(List.map (Value.int IntKind.i64) l).length∧true=true)∧(List.take l.length (List.drop 0 (intsOf (List.map (Value.int IntKind.i64) l)))).length≤1000000)∧True∧Ob (vi (errC (List.take l.length (List.drop 0 (intsOf (List.map (Value.int IntKind.i64) l)))))=vi (mnE l)))∧((errC (List.take l.length (List.drop 0 (intsOf (List.map (Value.int IntKind.i64) l)))) !=(0:Int))=false→Ob ((true=true∧Flat (List.map (Value.int IntKind.i64) l))∧okV (Leaf.view (List.map (Value.int IntKind.i64) l) l.length false))∧(∃ (y:Nat),Ob (y≤(resF l).length∧∀ (j:Nat),j<y→(0:Int)≤(resF l).getD j (0:Int))∧(Ob (AObj.ro (List.map (Value.int IntKind.i64) l)=AObj.ro (List.map (nmap1 fun (b:Nat)↦b) (List.map (Value.int IntKind.i64) l))∧AObj.sc 2 (AObj.ro (List.map (Value.int IntKind.i64) l))=true)∧Ob (AObj.rw (List.map (Value.int IntKind.i64) (resF (intsOf (List.map (Value.int IntKind.i64) l)))) (some 1)=AObj.rw (List.map (nmap1 fun (b:Nat)↦b) (List.map (Value.int IntKind.i64) (resF l))) (some 1)∧AObj.sc 2 (AObj.rw (List.map (Value.int IntKind.i64) (resF l)) (some 1))=true)∧True)∧Ob (Value.slice (some ⟨1,0,some 0⟩) (resF (intsOf (List.map (Value.int IntKind.i64) l))).length 0=Value.slice (some ⟨1,0,some 0⟩) (resF l).length 0)∧Ob ((0:Int)=(y:Int))∧True)∧∀ (x:Nat),Ob (x≤(resF l).length∧∀ (j:Nat),j<x→(0:Int)≤(resF l).getD j (0:Int))→(decide ((x:Int)<(↑(resF l).length:Int))=true→Ob ((0:Int)≤(x:Int)∧(x:Int)<(↑(resF l).length:Int)∧true=true)∧Ob (IntAt IntKind.i64 (List.map (Value.int IntKind.i64) (resF l)) (0+(x:Int).toNat * 1))∧(decide (getI (List.map (Value.int IntKind.i64) (resF l)) (0+(x:Int).toNat * 1)<(0:Int))=true→True∧Ob (vi (4:Int)=vi (mnE l)))∧(decide (getI (List.map (Value.int IntKind.i64) (resF l)) (0+(x:Int).toNat * 1)<(0:Int))=false→∃ (y:Nat),Ob (y≤(resF l).length∧∀ (j:Nat),j<y→(0:Int)≤(resF l).getD j (0:Int))∧Ob ((resF l).length-y<(resF l).length-x)∧(Ob (AObj.ro (List.map (Value.int IntKind.i64) l)=AObj.ro (List.map (nmap1 fun (b:Nat)↦b) (List.map (Value.int IntKind.i64) l))∧AObj.sc 2 (AObj.ro (List.map (Value.int IntKind.i64) l))=true)∧Ob (AObj.rw (List.map (Value.int IntKind.i64) (resF l)) (some 1)=AObj.rw (List.map (nmap1 fun (b:Nat)↦b) (List.map (Value.int IntKind.i64) (resF l))) (some 1)∧AObj.sc 2 (AObj.rw (List.map (Value.int IntKind.i64) (resF l)) (some 1))=true)∧True)∧Ob (Value.slice (some ⟨1,0,some 0⟩) (resF l).length 0=Value.slice (some ⟨1,0,some 0⟩) (resF l).length 0)∧Ob (IntKind.i64.wrap ((x:Int)+(1:Int))=(y:Int))∧True))∧(decide ((x:Int)<(↑(resF l).length:Int))=false→True∧Ob (vi (0:Int)=vi (mnE l))))
theorem edV_eq : edV = fun (l : List Int) (c : Nat) => vc Try.prog roE 1 23 true (edI l) edB [] (argFr 0 [.slice (some ⟨0,0,none⟩) l.length c]) [ros l] (retK Try.prog Try.f85 (fun v _ => v = vi (mnE l))) := by kernel_rfl
noncomputable def edN :=
fun (x:Unit)↦Ob True∧(true=true→Ob True∧True∧Ob (vi (6:Int)=vi (6:Int)))∧(true=false→False)
theorem edN_eq : edN = fun (_ : Unit) => vc Try.prog roE 0 23 true (fun _ => none) edB [] (argFr 0 [.slice none 0 0]) [] (retK Try.prog Try.f85 (fun v _ => v = vi 6)) := by kernel_rfl
noncomputable def edH :=
fun (s:Option Nat) (c:Nat)↦Ob True∧(true=true→Ob True∧True∧Ob (vi (6:Int)=vi (6:Int)))∧(true=false→False)
theorem edH_eq : edH = fun (s : Option Nat) (c : Nat) => vc Try.prog roE 1 23 true (fun _ => none) edB [] (argFr 0 [.slice (some ⟨0,0,s⟩) 0 c]) [.gone] (retK Try.prog Try.f85 (fun v _ => v = vi 6)) := by kernel_rfl
noncomputable def rgV :=
fun (l:List Int) (c:Nat)↦Ob ((List.take l.length (List.drop 0 (List.map (Value.int IntKind.i64) l))=List.map (Value.int IntKind.i64) (List.take l.length (List.drop 0 (intsOf (List.map (Value.int IntKind.i64) l))))∧0+l.length≤(List.map (Value.int IntKind.i64) l).length∧true=true)∧(List.take l.length (List.drop 0 (intsOf (List.map (Value.int IntKind.i64) l)))).length≤1000000)∧((mnE (List.take l.length (List.drop 0 (intsOf (List.map (Value.int IntKind.i64) l)))) !=(0:Int))=true→Ob ((List.take l.length (List.drop 0 (List.map (Value.int IntKind.i64) l))=List.map (Value.int IntKind.i64) (List.take l.length (List.drop 0 (intsOf (List.map (Value.int IntKind.i64) l))))∧0+l.length≤(List.map (Value.int IntKind.i64) l).length∧true=true)∧(List.take l.length (List.drop 0 (intsOf (List.map (Value.int IntKind.i64) l)))).length≤1000000)∧True∧Ob (Value.tuple ⟨[vi (0:Int),vi (mnE (List.take l.length (List.drop 0 (intsOf (List.map (Value.int IntKind.i64) l)))))]⟩=Value.tuple ⟨[vi (gtV l),vi (gtE l)]⟩))∧((mnE (List.take l.length (List.drop 0 (intsOf (List.map (Value.int IntKind.i64) l)))) !=(0:Int))=false→Ob ((true=true∧Flat (List.map (Value.int IntKind.i64) l))∧okV (Leaf.view (List.map (Value.int IntKind.i64) l) l.length false))∧(∃ (y:Nat),Ob (y≤(resF l).length)∧(Ob (AObj.ro (List.map (Value.int IntKind.i64) l)=AObj.ro (List.map (nmap1 fun (b:Nat)↦b) (List.map (Value.int IntKind.i64) l))∧AObj.sc 2 (AObj.ro (List.map (Value.int IntKind.i64) l))=true)∧Ob (AObj.rw (List.map (Value.int IntKind.i64) (resF (intsOf (List.map (Value.int IntKind.i64) l)))) (some 1)=AObj.rw (List.map (nmap1 fun (b:Nat)↦b) (List.map (Value.int IntKind.i64) (resF l))) (some 1)∧AObj.sc 2 (AObj.rw (List.map (Value.int IntKind.i64) (resF l)) (some 1))=true)∧True)∧Ob (Value.slice (some (ad0 0)) l.length c=Value.slice (some (ad0 0)) l.length c)∧Ob (Value.slice (some ⟨1,0,some 0⟩) (resF (intsOf (List.map (Value.int IntKind.i64) l))).length 0=Value.slice (some ⟨1,0,some 0⟩) (resF l).length 0)∧Ob ((-1:Int)=msF (resF l) (fstF l) y)∧Ob ((0:Int)=(y:Int))∧True)∧∀ (x:Nat),Ob (x≤(resF l).length)→(decide ((x:Int)<(↑(resF l).length:Int))=true→Ob ((0:Int)≤(x:Int)∧(x:Int)<(↑(resF l).length:Int)∧true=true)∧Ob (IntAt IntKind.i64 (List.map (Value.int IntKind.i64) (resF l)) (0+(x:Int).toNat * 1))∧Ob ((0:Int)≤(0:Int)∧(0:Int)<(l.length:Int)∧true=true)∧Ob (IntAt IntKind.i64 (List.map (Value.int IntKind.i64) l) 0)∧∃ (y:Nat),Ob (y≤(resF l).length)∧Ob ((resF l).length-y<(resF l).length-x)∧(Ob (AObj.ro (List.map (Value.int IntKind.i64) l)=AObj.ro (List.map (nmap1 fun (b:Nat)↦b) (List.map (Value.int IntKind.i64) l))∧AObj.sc 2 (AObj.ro (List.map (Value.int IntKind.i64) l))=true)∧Ob (AObj.rw (List.map (Value.int IntKind.i64) (resF l)) (some 1)=AObj.rw (List.map (nmap1 fun (b:Nat)↦b) (List.map (Value.int IntKind.i64) (resF l))) (some 1)∧AObj.sc 2 (AObj.rw (List.map (Value.int IntKind.i64) (resF l)) (some 1))=true)∧True)∧Ob (Value.slice (some (ad0 0)) l.length c=Value.slice (some (ad0 0)) l.length c)∧Ob (Value.slice (some ⟨1,0,some 0⟩) (resF l).length 0=Value.slice (some ⟨1,0,some 0⟩) (resF l).length 0)∧Ob ((if IntKind.i64.wrap (getI (List.map (Value.int IntKind.i64) (resF l)) (0+(x:Int).toNat * 1)-getI (List.map (Value.int IntKind.i64) l) 0) > msF (resF l) (fstF l) x then IntKind.i64.wrap (getI (List.map (Value.int IntKind.i64) (resF l)) (0+(x:Int).toNat * 1)-getI (List.map (Value.int IntKind.i64) l) 0) else msF (resF l) (fstF l) x)=msF (resF l) (fstF l) y)∧Ob (IntKind.i64.wrap ((x:Int)+(1:Int))=(y:Int))∧True)∧(decide ((x:Int)<(↑(resF l).length:Int))=false→(decide (msF (resF l) (fstF l) x<(0:Int))=true→True∧Ob (Value.tuple ⟨[vi (0:Int),vi (5:Int)]⟩=Value.tuple ⟨[vi (gtV l),vi (gtE l)]⟩))∧(decide (msF (resF l) (fstF l) x<(0:Int))=false→True∧Ob (Value.tuple ⟨[vi (msF (resF l) (fstF l) x),vi (0:Int)]⟩=Value.tuple ⟨[vi (gtV l),vi (gtE l)]⟩))))
theorem rgV_eq : rgV = fun (l : List Int) (c : Nat) => vc Try.prog rgE 1 33 true (rgI l c) rgB [] (argFr 0 [.slice (some ⟨0,0,none⟩) l.length c]) [ros l] (retK Try.prog Try.f42 (fun v _ => v = .tuple #[vi (gtV l),vi (gtE l)])) := by kernel_rfl
noncomputable def rgN :=
fun (x:Unit)↦Ob True∧(true=true→Ob True∧True∧Ob (Value.tuple ⟨[vi (0:Int),vi (6:Int)]⟩=Value.tuple ⟨[vi (0:Int),vi (6:Int)]⟩))∧(true=false→False)
theorem rgN_eq : rgN = fun (_ : Unit) => vc Try.prog rgE 0 33 true (fun _ => none) rgB [] (argFr 0 [.slice none 0 0]) [] (retK Try.prog Try.f42 (fun v _ => v = .tuple #[vi 0,vi 6])) := by kernel_rfl
noncomputable def rgH :=
fun (s:Option Nat) (c:Nat)↦Ob True∧(true=true→Ob True∧True∧Ob (Value.tuple ⟨[vi (0:Int),vi (6:Int)]⟩=Value.tuple ⟨[vi (0:Int),vi (6:Int)]⟩))∧(true=false→False)
theorem rgH_eq : rgH = fun (s : Option Nat) (c : Nat) => vc Try.prog rgE 1 33 true (fun _ => none) rgB [] (argFr 0 [.slice (some ⟨0,0,s⟩) 0 c]) [.gone] (retK Try.prog Try.f42 (fun v _ => v = .tuple #[vi 0,vi 6])) := by kernel_rfl
noncomputable def rmV :=
fun (l:List Int) (c:Nat)↦Ob ((List.take l.length (List.drop 0 (List.map (Value.int IntKind.i64) l))=List.map (Value.int IntKind.i64) (List.take l.length (List.drop 0 (intsOf (List.map (Value.int IntKind.i64) l))))∧0+l.length≤(List.map (Value.int IntKind.i64) l).length∧true=true)∧(List.take l.length (List.drop 0 (intsOf (List.map (Value.int IntKind.i64) l)))).length≤1000000)∧((mnE (List.take l.length (List.drop 0 (intsOf (List.map (Value.int IntKind.i64) l)))) !=(0:Int))=true→Ob ((List.take l.length (List.drop 0 (List.map (Value.int IntKind.i64) l))=List.map (Value.int IntKind.i64) (List.take l.length (List.drop 0 (intsOf (List.map (Value.int IntKind.i64) l))))∧0+l.length≤(List.map (Value.int IntKind.i64) l).length∧true=true)∧(List.take l.length (List.drop 0 (intsOf (List.map (Value.int IntKind.i64) l)))).length≤1000000)∧True∧Ob (Value.tuple ⟨[vi (0:Int),vi (mnE (List.take l.length (List.drop 0 (intsOf (List.map (Value.int IntKind.i64) l)))))]⟩=Value.tuple ⟨[vi (mnV l),vi (mnE l)]⟩))∧((mnE (List.take l.length (List.drop 0 (intsOf (List.map (Value.int IntKind.i64) l)))) !=(0:Int))=false→Ob ((true=true∧Flat (List.map (Value.int IntKind.i64) l))∧okV (Leaf.view (List.map (Value.int IntKind.i64) l) l.length false))∧(∃ (y:Nat),Ob (y≤(resF l).length)∧(Ob (AObj.ro (List.map (Value.int IntKind.i64) l)=AObj.ro (List.map (nmap1 fun (b:Nat)↦b) (List.map (Value.int IntKind.i64) l))∧AObj.sc 2 (AObj.ro (List.map (Value.int IntKind.i64) l))=true)∧Ob (AObj.rw (List.map (Value.int IntKind.i64) (resF (intsOf (List.map (Value.int IntKind.i64) l)))) (some 1)=AObj.rw (List.map (nmap1 fun (b:Nat)↦b) (List.map (Value.int IntKind.i64) (resF l))) (some 1)∧AObj.sc 2 (AObj.rw (List.map (Value.int IntKind.i64) (resF l)) (some 1))=true)∧True)∧Ob (Value.slice (some (ad0 0)) l.length c=Value.slice (some (ad0 0)) l.length c)∧Ob (Value.slice (some ⟨1,0,some 0⟩) (resF (intsOf (List.map (Value.int IntKind.i64) l))).length 0=Value.slice (some ⟨1,0,some 0⟩) (resF l).length 0)∧Ob ((0:Int)=smF (resF l) (fstF l) y)∧Ob ((0:Int)=(y:Int))∧True)∧∀ (x:Nat),Ob (x≤(resF l).length)→(decide ((x:Int)<(↑(resF l).length:Int))=true→Ob ((0:Int)≤(x:Int)∧(x:Int)<(↑(resF l).length:Int)∧true=true)∧Ob (IntAt IntKind.i64 (List.map (Value.int IntKind.i64) (resF l)) (0+(x:Int).toNat * 1))∧Ob ((0:Int)≤(0:Int)∧(0:Int)<(l.length:Int)∧true=true)∧Ob (IntAt IntKind.i64 (List.map (Value.int IntKind.i64) l) 0)∧Ob (getI (List.map (Value.int IntKind.i64) l) 0≠(0:Int))∧∃ (y:Nat),Ob (y≤(resF l).length)∧Ob ((resF l).length-y<(resF l).length-x)∧(Ob (AObj.ro (List.map (Value.int IntKind.i64) l)=AObj.ro (List.map (nmap1 fun (b:Nat)↦b) (List.map (Value.int IntKind.i64) l))∧AObj.sc 2 (AObj.ro (List.map (Value.int IntKind.i64) l))=true)∧Ob (AObj.rw (List.map (Value.int IntKind.i64) (resF l)) (some 1)=AObj.rw (List.map (nmap1 fun (b:Nat)↦b) (List.map (Value.int IntKind.i64) (resF l))) (some 1)∧AObj.sc 2 (AObj.rw (List.map (Value.int IntKind.i64) (resF l)) (some 1))=true)∧True)∧Ob (Value.slice (some (ad0 0)) l.length c=Value.slice (some (ad0 0)) l.length c)∧Ob (Value.slice (some ⟨1,0,some 0⟩) (resF l).length 0=Value.slice (some ⟨1,0,some 0⟩) (resF l).length 0)∧Ob (IntKind.i64.wrap (smF (resF l) (fstF l) x+IntKind.i64.wrap ((getI (List.map (Value.int IntKind.i64) (resF l)) (0+(x:Int).toNat * 1)).tdiv (getI (List.map (Value.int IntKind.i64) l) 0)))=smF (resF l) (fstF l) y)∧Ob (IntKind.i64.wrap ((x:Int)+(1:Int))=(y:Int))∧True)∧(decide ((x:Int)<(↑(resF l).length:Int))=false→True∧Ob (Value.tuple ⟨[vi (smF (resF l) (fstF l) x),vi (0:Int)]⟩=Value.tuple ⟨[vi (mnV l),vi (mnE l)]⟩)))
theorem rmV_eq : rmV = fun (l : List Int) (c : Nat) => vc Try.prog rgE 1 31 true (rmI l c) rmB [] (argFr 0 [.slice (some ⟨0,0,none⟩) l.length c]) [ros l] (retK Try.prog Try.f44 (fun v _ => v = .tuple #[vi (mnV l),vi (mnE l)])) := by kernel_rfl
noncomputable def rmN :=
fun (x:Unit)↦Ob True∧(true=true→Ob True∧True∧Ob (Value.tuple ⟨[vi (0:Int),vi (6:Int)]⟩=Value.tuple ⟨[vi (0:Int),vi (6:Int)]⟩))∧(true=false→False)
theorem rmN_eq : rmN = fun (_ : Unit) => vc Try.prog rgE 0 31 true (fun _ => none) rmB [] (argFr 0 [.slice none 0 0]) [] (retK Try.prog Try.f44 (fun v _ => v = .tuple #[vi 0,vi 6])) := by kernel_rfl
noncomputable def rmH :=
fun (s:Option Nat) (c:Nat)↦Ob True∧(true=true→Ob True∧True∧Ob (Value.tuple ⟨[vi (0:Int),vi (6:Int)]⟩=Value.tuple ⟨[vi (0:Int),vi (6:Int)]⟩))∧(true=false→False)
theorem rmH_eq : rmH = fun (s : Option Nat) (c : Nat) => vc Try.prog rgE 1 31 true (fun _ => none) rmB [] (argFr 0 [.slice (some ⟨0,0,s⟩) 0 c]) [.gone] (retK Try.prog Try.f44 (fun v _ => v = .tuple #[vi 0,vi 6])) := by kernel_rfl
theorem roG_ok : ∀ args H φ v H' l,born3 [.one (.rows [.i .i64] false)] roS args H = some (φ,v,H',l)→Asks φ→Call Try.prog 82 args H (fun v' H2 => v' = v∧H2 = H')∧Kept H H' l :=
 born3_ok fun r s hk hs hψ => match r,hk with
   | [.one x],⟨hx,_⟩ => by
     rcases hx with rfl | ⟨s,rfl⟩ | ⟨cs,n,rfl⟩
     · cases hs
     · cases hs
     · cases hs
       obtain ⟨k1,k2,k3⟩ := hψ
       have kl : (intsOf cs).length = n := by rw [intsOf,List.length_map]; exact k2
       have ke : AObj.ro cs = ros (intsOf cs) := by show AObj.ro cs = .ro ((intsOf cs).map (.int .i64)); rw [← k1]
       refine ⟨⟨plainNew_ints,fun ρ b ρ' c h => newSlice_alike h,fun n => sc_of_sc2 (newSlice_sc (by simp))⟩,fun caps hcaps => ?_⟩
       have h := ro_call (intsOf cs) (caps 0) k3
       rw [kl] at h
       have e : canonH3 [Arg3.one (Leaf.view cs n false)] = [ros (intsOf cs)] := by
         show [AObj.ro cs] = _
         rw [ke]
       rw [e]
       exact h
theorem roT_ok : CtOk Try.prog roT := (CtOk.none.add rcG_ok).add roG_ok
theorem roE_ok : VOk Try.prog roE := ⟨roT_ok,E0_ok.cc,E0_ok.yc,E0_ok.orc⟩
theorem edN_ok (u : Unit) : edN u := by
 unfold edN
 simp only [SS,reduceCtorEq,Arg.list,Arg.num,Arg.flag,intOf,andP,Nat.reduceLeDiff,Nat.reduceAdd,Nat.reduceMul,Nat.reduceLT]
theorem edH_ok (s : Option Nat) (c : Nat) : edH s c := by
 unfold edH
 simp only [SS,reduceCtorEq,Arg.list,Arg.num,Arg.flag,intOf,andP,Nat.reduceLeDiff,Nat.reduceAdd,Nat.reduceMul,Nat.reduceLT]
theorem rgN_ok (u : Unit) : rgN u := by
 unfold rgN
 simp only [SS,reduceCtorEq,Arg.list,Arg.num,Arg.flag,intOf,andP,Nat.reduceLeDiff,Nat.reduceAdd,Nat.reduceMul,Nat.reduceLT]
theorem rgH_ok (s : Option Nat) (c : Nat) : rgH s c := by
 unfold rgH
 simp only [SS,reduceCtorEq,Arg.list,Arg.num,Arg.flag,intOf,andP,Nat.reduceLeDiff,Nat.reduceAdd,Nat.reduceMul,Nat.reduceLT]
theorem rmN_ok (u : Unit) : rmN u := by
 unfold rmN
 simp only [SS,reduceCtorEq,Arg.list,Arg.num,Arg.flag,intOf,andP,Nat.reduceLeDiff,Nat.reduceAdd,Nat.reduceMul,Nat.reduceLT]
theorem rmH_ok (s : Option Nat) (c : Nat) : rmH s c := by
 unfold rmH
 simp only [SS,reduceCtorEq,Arg.list,Arg.num,Arg.flag,intOf,andP,Nat.reduceLeDiff,Nat.reduceAdd,Nat.reduceMul,Nat.reduceLT]
theorem no_cont {r : List Int} (h : ∀ j,j < r.length→0≤r.getD j 0) : r.contains (-1) = false := by
 rw [Bool.eq_false_iff]
 intro h2
 rw [List.contains_iff_mem] at h2
 obtain ⟨j,h3,h4⟩ := List.getElem_of_mem h2
 have := h j h3
 rw [List.getD_eq_getElem?_getD,List.getElem?_eq_getElem h3,h4] at this
 simp at this
theorem mn_err {l : List Int} (h : mnE l = 0) : errC l = 0 := by
 by_cases h0 : errC l = 0
 · exact h0
 · rw [mnE_c h0] at h; exact absurd h h0
theorem gt_mn {l : List Int} (h : mnE l ≠ 0) : gtE l = mnE l := by
 by_cases h0 : errC l = 0
 · have h1 : ¬ errC l ≠ 0 := fun h => h h0
   cases hx : (resF l).contains (-1) with
   | true => rw [gtE,mnE,if_neg h1,if_neg h1,hx]; rfl
   | false => exact absurd (by rw [mnE,if_neg h1,hx]; rfl) h
 · rw [gtE_c h0,mnE_c h0]
theorem ok_view {l : List Int} (hc : Coins l) : Flat (List.map (Value.int IntKind.i64) l)∧okV (Leaf.view (List.map (Value.int IntKind.i64) l) l.length false) := ⟨all_sc_int,by rw [intsOf_map],by simp,by rw [intsOf_map]; exact hc⟩
theorem edV_ok (l : List Int) (c : Nat) (hl : l.length≤1000000) : edV l c := by
 unfold edV
 simp only [SS,reduceCtorEq,Arg.list,Arg.num,Arg.flag,intOf,andP,Nat.reduceLeDiff,Nat.reduceAdd,Nat.reduceMul,Nat.reduceLT,nm_sl,wS]
 refine ⟨hl,fun h => ⟨hl,(mnE_c h).symm⟩,fun h => ?_⟩
 have hc := errC_ok.1 h
 have h0 : ¬ errC l ≠ 0 := fun h2 => h2 h
 have hf := fst_rng hc
 have hlen : (resF l).length = (fstF l).toNat := res_len
 refine ⟨ok_view hc,⟨0,⟨by omega,fun j hj => by omega⟩,rfl⟩,fun x hx => ⟨fun h1 => ⟨by omega,by omega,fun h2 => ?_,fun h2 => ⟨x + 1,⟨by omega,fun j hj => ?_⟩,by omega,wrap_succ (n := 100) (by omega) (by omega)⟩⟩,fun h1 => ?_⟩⟩
 · have hb := res_bd hc (j := x) (by omega)
   have hx : (resF l).contains (-1) = true := by
     cases hy : (resF l).contains (-1) with
     | true => rfl
     | false =>
       have := not_cont hy (j := x) (by omega)
       omega
   rw [mnE,if_neg h0,hx]; rfl
 · by_cases e : j = x
   · subst e; omega
   · exact hx.2 j (by omega)
 · have := no_cont (r := resF l) fun j hj => hx.2 j (by omega)
   rw [mnE,if_neg h0,this]; rfl
theorem rgV_ok (l : List Int) (c : Nat) (hl : l.length≤1000000) : rgV l c := by
 unfold rgV
 simp only [SS,reduceCtorEq,Arg.list,Arg.num,Arg.flag,intOf,andP,Nat.reduceLeDiff,Nat.reduceAdd,Nat.reduceMul,Nat.reduceLT,nm_sl,wS]
 refine ⟨hl,fun h => ⟨hl,two_eq (gtV_no (by rw [gt_mn h]; exact h)).symm (gt_mn h).symm⟩,fun h => ?_⟩
 have hc := errC_ok.1 (mn_err h)
 have hf := fst_rng hc
 have hp := hc.pos
 have hlen : (resF l).length = (fstF l).toNat := res_len
 obtain ⟨E1,E2,E3⟩ := rd_facts hc (a := 0) (by omega)
 have en : enF (resF l) (resF l).length = false := by
   cases hy : enF (resF l) (resF l).length with
   | false => rfl
   | true => rw [(E1 hy).2] at h; omega
 refine ⟨ok_view hc,⟨0,by omega,rfl,rfl⟩,fun x hx => ⟨fun h1 => ⟨by omega,by omega,by omega,hp,x + 1,by omega,by omega,?_,wrap_succ (n := 100) (by omega) (by omega)⟩,fun h1 => ?_⟩⟩
 · have hb := res_bd hc (j := x) (by omega)
   rw [wrap_in (by unfold fstF at hf; omega) (by unfold fstF at hf; omega)]; rfl
 · obtain rfl : x = (resF l).length := by omega
   exact ⟨fun h2 => two_eq (gtV_no (by rw [(E2 en h2).1]; decide)).symm (E2 en h2).1.symm,fun h2 => two_eq (E3 en h2).2.1.symm (E3 en h2).1.symm⟩
theorem rmV_ok (l : List Int) (c : Nat) (hl : l.length≤1000000) : rmV l c := by
 unfold rmV
 simp only [SS,reduceCtorEq,Arg.list,Arg.num,Arg.flag,intOf,andP,Nat.reduceLeDiff,Nat.reduceAdd,Nat.reduceMul,Nat.reduceLT,nm_sl,wS]
 refine ⟨hl,fun h => ⟨hl,two_eq (mnV_no h).symm rfl⟩,fun h => ?_⟩
 have hc := errC_ok.1 (mn_err h)
 have hf := fst_rng hc
 have hp := hc.pos
 have fold : l.getD 0 0 = fstF l := rfl
 have hlen : (resF l).length = (fstF l).toNat := res_len
 have hb' : ∀ j,j < (resF l).length→-1≤(resF l).getD j 0∧(resF l).getD j 0≤2501 := fun j hj => by have := res_bd hc hj; omega
 rw [fold]
 refine ⟨ok_view hc,⟨0,by omega,rfl,rfl⟩,fun x hx => ⟨fun h1 => ⟨by omega,by omega,by omega,hp,by omega,x + 1,by omega,by omega,?_,wrap_succ (n := 100) (by omega) (by omega)⟩,fun h1 => ?_⟩⟩
 · have hb := hb' x (by omega)
   have t1 := tdiv_rng hb.1 (by omega) hf.1
   have sm := sm_rng hf.1 hb' x hx
   rw [wrap_in (x := ((resF l).getD x 0).tdiv (fstF l)) (by omega) (by omega),wrap_in (by omega) (by omega)]; rfl
 · obtain rfl : x = (resF l).length := by omega
   exact two_eq (by rw [mnV,if_pos h]) h.symm
theorem edG_ok : ∀ args H φ v H' l,pureG [.ints .i64] edS args H = some (φ,v,H',l)→Asks φ→Call Try.prog 85 args H (fun v' H2 => v' = v∧H2 = H')∧Kept H H' l :=
 pureG_ok fun r hk hs => match r,hk with
   | [_],⟨hl,_⟩ => by
     rcases hl with rfl | ⟨s,rfl⟩ | ⟨l,rfl⟩
     · exact ⟨rfl,fun caps => Call.ofVc roE_ok mixed (c := edB) (inv := fun _ => none) Try.func85 (by kernel_rfl) (cast (congrFun edN_eq ()) (edN_ok ()))⟩
     · exact ⟨rfl,fun caps => Call.ofVc roE_ok mixed (c := edB) (inv := fun _ => none) Try.func85 (by kernel_rfl) (cast (congrFun (congrFun edH_eq s) (caps 0)) (edH_ok s _))⟩
     · exact ⟨rfl,fun caps => Call.ofVc roE_ok mixed (c := edB) (inv := edI l) Try.func85 (by kernel_rfl) (cast (congrFun (congrFun edV_eq l) (caps 0)) (edV_ok l _ hs))⟩
theorem rgE_ok : VOk Try.prog rgE := ⟨roT_ok.add edG_ok,E0_ok.cc,E0_ok.yc,E0_ok.orc⟩
theorem rgG_ok : ∀ args H φ v H' l,pureG [.ints .i64] gtS args H = some (φ,v,H',l)→Asks φ→Call Try.prog 42 args H (fun v' H2 => v' = v∧H2 = H')∧Kept H H' l :=
 pureG_ok fun r hk hs => match r,hk with
   | [_],⟨hl,_⟩ => by
     rcases hl with rfl | ⟨s,rfl⟩ | ⟨l,rfl⟩
     · exact ⟨by simp [gtS,sc,sc2,sc1,sc0],fun caps => Call.ofVc rgE_ok mixed (c := rgB) (inv := fun _ => none) Try.func42 (by kernel_rfl) (cast (congrFun rgN_eq ()) (rgN_ok ()))⟩
     · exact ⟨by simp [gtS,sc,sc2,sc1,sc0],fun caps => Call.ofVc rgE_ok mixed (c := rgB) (inv := fun _ => none) Try.func42 (by kernel_rfl) (cast (congrFun (congrFun rgH_eq s) (caps 0)) (rgH_ok s _))⟩
     · exact ⟨by simp [gtS,sc,sc2,sc1,sc0],fun caps => Call.ofVc rgE_ok mixed (c := rgB) (inv := rgI l (caps 0)) Try.func42 (by kernel_rfl) (cast (congrFun (congrFun rgV_eq l) (caps 0)) (rgV_ok l _ hs))⟩
theorem rmG_ok : ∀ args H φ v H' l,pureG [.ints .i64] mnS args H = some (φ,v,H',l)→Asks φ→Call Try.prog 44 args H (fun v' H2 => v' = v∧H2 = H')∧Kept H H' l :=
 pureG_ok fun r hk hs => match r,hk with
   | [_],⟨hl,_⟩ => by
     rcases hl with rfl | ⟨s,rfl⟩ | ⟨l,rfl⟩
     · exact ⟨by simp [mnS,sc,sc2,sc1,sc0],fun caps => Call.ofVc rgE_ok mixed (c := rmB) (inv := fun _ => none) Try.func44 (by kernel_rfl) (cast (congrFun rmN_eq ()) (rmN_ok ()))⟩
     · exact ⟨by simp [mnS,sc,sc2,sc1,sc0],fun caps => Call.ofVc rgE_ok mixed (c := rmB) (inv := fun _ => none) Try.func44 (by kernel_rfl) (cast (congrFun (congrFun rmH_eq s) (caps 0)) (rmH_ok s _))⟩
     · exact ⟨by simp [mnS,sc,sc2,sc1,sc0],fun caps => Call.ofVc rgE_ok mixed (c := rmB) (inv := rmI l (caps 0)) Try.func44 (by kernel_rfl) (cast (congrFun (congrFun rmV_eq l) (caps 0)) (rmV_ok l _ hs))⟩
end Go.Pier.Fl
