import Derived.Test.YtbehncpoppoglaaPierKT4
import Derived.Test.YtbehncpoppoglaaPierFlwk
import Derived.KernelRfl
set_option linter.unusedSimpArgs false
set_option linter.unusedVariables false
set_option maxRecDepth 100000
namespace Go.Pier.Fl
open Go Go.Pier Go.Proofs
def worksS (r : List Arg) : Prop × Value := match r with | [] => (True,.bool true) | _ => (False,undef)
def isTrue (v : Value) (_ : Heap) : Prop := v = .bool true
theorem worksG_ok : ∀ args H φ v H' l,pureG [] worksS args H = some (φ,v,H',l)→Asks φ→Call Try.prog 19 args H (fun v' H2 => v' = v∧H2 = H')∧Kept H H' l :=
 closedG_ok (works_ok.call.mono fun v H h => h.1) rfl
theorem u8_wfA {n : Int} (h : (Lit.int .u8 n).wf = true) : 0≤n∧n < 256 := by
 simp only [Lit.wf,Bool.and_eq_true,decide_eq_true_eq] at h
 have h1 : IntKind.u8.min = 0 := rfl
 have h2 : IntKind.u8.max = 255 := rfl
 rw [h1,h2] at h
 omega
theorem u16_wfA {n : Int} (h : (Lit.int .u16 n).wf = true) : 0≤n∧n < 65536 := by
 simp only [Lit.wf,Bool.and_eq_true,decide_eq_true_eq] at h
 have h1 : IntKind.u16.min = 0 := rfl
 have h2 : IntKind.u16.max = 65535 := rfl
 rw [h1,h2] at h
 omega
end Go.Pier.Fl
namespace Go.Pier.Fl
open Go Go.Pier Go.Proofs
def msF (r : List Int) (f : Int) : Nat→Int
 | 0 => -1
 | i + 1 => if r.getD i 0 - f > msF r f i then r.getD i 0 - f else msF r f i
def enF (r : List Int) : Nat→Bool
 | 0 => false
 | i + 1 => enF r i || decide (r.getD i 0 < 0)
theorem add_coin {l : List Int} (hc : Coins l) {k : Nat} (hk : k < l.length) {y : Nat} (hy : y + (l.getD k 0).toNat≤9999) (h : canB l y = true) : canB l (y + (l.getD k 0).toNat) = true := by
 have hr := coin_rng hc hk
 obtain ⟨p,q⟩ := ((best_is hc y (by omega)).1 h).1
 refine ((best_is hc _ hy).2 (up (bF l y) k 1) ⟨fun j hj => ?_,?_⟩).1
 · have := p j hj
   unfold up
   split <;> omega
 · rw [dot_up,q,if_pos hk]; omega
theorem sub_coin {l : List Int} (hc : Coins l) {x : Nat} (hx : 0 < x) (hx9 : x≤9999) (h : canB l x = true) : ∃ k,k < l.length∧(l.getD k 0).toNat≤x∧canB l (x - (l.getD k 0).toNat) = true := by
 obtain ⟨p,q⟩ := ((best_is hc x hx9).1 h).1
 obtain ⟨k,hk,hp⟩ := dot_pos (l := l) l.length (fun j hj => ⟨by have := coin_rng hc hj; omega,p j hj⟩) (by rw [q]; omega)
 have hr := coin_rng hc hk
 have hz : isCh l (x - l.getD k 0) (up (bF l x) k (-1)) := ⟨fun j hj => by
   have := p j hj
   unfold up
   split
   · rename_i e
     rw [e]; omega
   · omega,by rw [dot_up,q,if_pos hk]; omega⟩
 have h0 := dot_nonneg (l := l) l.length (fun j hj => ⟨by have := coin_rng hc hj; omega,hz.1 j hj⟩)
 rw [hz.2] at h0
 refine ⟨k,hk,by omega,((best_is hc _ (by omega)).2 (up (bF l x) k (-1)) ?_).1⟩
 have e : ((x - (l.getD k 0).toNat : Nat) : Int) = x - l.getD k 0 := by omega
 rw [e]; exact hz
theorem chain {l : List Int} (hc : Coins l) : ∀ n z,z≤n→z≤9999→canB l z = true→∃ ss : List Nat,(z : Int) + lastF l≤ss.length * lastF l∧(∀ s ∈ ss,s≤z∧canB l s = true)∧ss.Pairwise (fun s t => t < s∧canB l (z - s + t) = true) := by
 intro n
 induction n with
 | zero =>
   intro z hn _ h
   obtain rfl : z = 0 := by omega
   exact ⟨[0],by simp,fun s hs => by rw [List.mem_singleton] at hs; subst hs; exact ⟨Nat.le_refl _,h⟩,List.pairwise_singleton _ _⟩
 | succ n ih =>
   intro z hn h9 h
   by_cases hz : z = 0
   · subst hz
     exact ⟨[0],by simp,fun s hs => by rw [List.mem_singleton] at hs; subst hs; exact ⟨Nat.le_refl _,h⟩,List.pairwise_singleton _ _⟩
   · obtain ⟨k,hk,h1,h2⟩ := sub_coin hc (by omega) h9 h
     have hr := coin_rng hc hk
     have hl := coin_last hc hk
     obtain ⟨ss,a1,a2,a3⟩ := ih (z - (l.getD k 0).toNat) (by omega) (by omega) h2
     refine ⟨z :: ss,?_,?_,List.pairwise_cons.2 ⟨fun t ht => ⟨by have := (a2 t ht).1; omega,?_⟩,a3.imp_of_mem fun {s t} hs ht ⟨b1,b2⟩ => ⟨b1,?_⟩⟩⟩
     · rw [List.length_cons,Int.natCast_add,Int.add_mul]; omega
     · intro s hs
       rcases List.mem_cons.1 hs with rfl | hs
       · exact ⟨Nat.le_refl _,h⟩
       · have := a2 s hs
         exact ⟨by omega,this.2⟩
     · rw [Nat.sub_self,Nat.zero_add]; exact (a2 t ht).2
     · have hs2 := (a2 s hs).1
       have := add_coin hc hk (y := z - (l.getD k 0).toNat - s + t) (by omega) b2
       rw [show z - s + t = z - (l.getD k 0).toNat - s + t + (l.getD k 0).toNat by omega]
       exact this
theorem len_leN {l : List Nat} : ∀ {k : List Nat},k.Nodup→(∀ x ∈ k,x ∈ l)→k.length≤l.length
 | [],_,_ => Nat.zero_le _
 | x :: k,hn,h => by
   obtain ⟨h1,h2⟩ := List.nodup_cons.1 hn
   have hx := h x List.mem_cons_self
   have := len_leN (l := l.erase x) (k := k) h2 fun y hy => (List.mem_erase_of_ne (fun (e : y = x) => h1 (e ▸ hy))).2 (h y (List.mem_cons_of_mem _ hy))
   rw [List.length_erase_of_mem hx] at this
   have : 0 < l.length := List.length_pos_of_mem hx
   rw [List.length_cons]
   omega
theorem least_top {l : List Int} (hc : Coins l) {z : Nat} (h9 : z≤9999) (h : canB l z = true) (hm : ∀ y,y < z→y % (fstF l).toNat = z % (fstF l).toNat→canB l y = false) : z≤topF l := by
 have hf := fst_rng hc
 have hl := last_rng hc
 obtain ⟨ss,a1,a2,a3⟩ := chain hc z z (Nat.le_refl _) h9 h
 have hnd : (ss.map (· % (fstF l).toNat)).Nodup := by
   rw [List.Nodup,List.pairwise_map]
   refine a3.imp_of_mem fun {s t} hs ht ⟨b1,b2⟩ e => ?_
   have hs2 := (a2 s hs).1
   have := hm (z - s + t) (by omega) (by
     conv => rhs; rw [show z = z - s + s by omega]
     rw [Nat.add_mod,← e,← Nat.add_mod])
   rw [b2] at this; cases this
 have hlen := len_leN (l := List.range (fstF l).toNat) hnd fun x hx => by
   obtain ⟨s,_,rfl⟩ := List.mem_map.1 hx
   exact List.mem_range.2 (Nat.mod_lt _ (by omega))
 rw [List.length_map,List.length_range] at hlen
 have h1 := Int.mul_le_mul_of_nonneg_right (show (ss.length : Int)≤fstF l by omega) (show 0≤lastF l by omega)
 rw [topF]; omega
theorem pay_least {l : List Int} (hc : Coins l) : ∀ n z,z≤n→z≤9999→canB l z = true→∃ y,y≤z∧y≤topF l∧y % (fstF l).toNat = z % (fstF l).toNat∧canB l y = true := by
 intro n
 induction n with
 | zero =>
   intro z hn h9 h
   exact ⟨z,Nat.le_refl _,by omega,rfl,h⟩
 | succ n ih =>
   intro z hn h9 h
   by_cases hx : ∃ y,y < z∧y % (fstF l).toNat = z % (fstF l).toNat∧canB l y = true
   · obtain ⟨y,h1,h2,h3⟩ := hx
     obtain ⟨x,k1,k2,k3,k4⟩ := ih y (by omega) (by omega) h3
     exact ⟨x,by omega,k2,by rw [k3,h2],k4⟩
   · refine ⟨z,Nat.le_refl _,least_top hc h9 h fun y h1 h2 => ?_,rfl,h⟩
     cases hy : canB l y with
     | false => rfl
     | true => exact absurd ⟨y,h1,h2,hy⟩ hx
theorem add_firsts {l : List Int} (hc : Coins l) {y : Nat} (h : canB l y = true) : ∀ n,y + (fstF l).toNat * n≤9999→canB l (y + (fstF l).toNat * n) = true
 | 0,_ => by rw [Nat.mul_zero,Nat.add_zero]; exact h
 | n + 1,hn => by
   rw [Nat.mul_succ] at hn ⊢
   have := add_coin hc hc.pos (y := y + (fstF l).toNat * n) (by show _ + (fstF l).toNat≤9999; omega) (add_firsts hc h n (by omega))
   rw [← Nat.add_assoc]; exact this
theorem tmodN {n : Nat} {f : Int} (hf : 1≤f) : ((n : Int).tmod f).toNat = n % f.toNat := by
 obtain ⟨F,rfl⟩ : ∃ F : Nat,f = F := ⟨f.toNat,by omega⟩
 rw [Int.tmod_eq_emod_of_nonneg (by omega),← Int.natCast_emod,Int.toNat_natCast,Int.toNat_natCast]
theorem rs_at {l : List Int} (hc : Coins l) {j : Nat} (hj : j < (fstF l).toNat) : ∀ n,((rsF l n).getD j 0 = -1∧∀ a,a < n→a % (fstF l).toNat = j→canB l a = false)∨∃ a : Nat,a < n∧(rsF l n).getD j 0 = a∧a % (fstF l).toNat = j∧canB l a = true∧∀ b,b < n→b % (fstF l).toNat = j→canB l b = true→a≤b := by
 have hf := fst_rng hc
 intro n
 induction n with
 | zero => exact .inl ⟨by rw [rsF,List.getD_eq_getElem?_getD,List.getElem?_replicate,if_pos hj]; rfl,fun a h => by omega⟩
 | succ n ih =>
   have hk : ((n : Int).tmod (fstF l)).toNat = n % (fstF l).toNat := tmodN hf.1
   have hlen := rs_len (l := l) n
   rw [rsF,hk]
   by_cases hb : canB l n = true∧(rsF l n).getD (n % (fstF l).toNat) 0 = -1
   · rw [show (canB l n && (rsF l n).getD (n % (fstF l).toNat) 0 == -1) = true by rw [hb.1,hb.2]; rfl]
     show (((rsF l n).set _ _).getD j 0 = -1∧_)∨∃ a : Nat,a < n + 1∧((rsF l n).set _ _).getD j 0 = a∧_
     by_cases e : n % (fstF l).toNat = j
     · refine .inr ⟨n,by omega,by rw [e,List.getD_eq_getElem?_getD,List.getElem?_set_self (by omega)]; rfl,e,hb.1,fun b h1 h2 h3 => ?_⟩
       rcases ih with ⟨_,i2⟩ | ⟨a,_,i2,_⟩
       · by_cases hbn : b = n
         · omega
         · have := i2 b (by omega) h2
           rw [h3] at this; cases this
       · have := hb.2
         rw [e,i2] at this; omega
     · rw [List.getD_eq_getElem?_getD,List.getElem?_set_ne e,← List.getD_eq_getElem?_getD]
       rcases ih with ⟨i1,i2⟩ | ⟨a,i1,i2,i3,i4,i5⟩
       · exact .inl ⟨i1, fun a h1 h2 => i2 a (by
           by_cases ha : a = n
           · subst ha; exact absurd h2 e
           · omega) h2⟩
       · exact .inr ⟨a, by omega, i2, i3, i4, fun b h1 h2 h3 => by
           by_cases hbn : b = n
           · omega
           · exact i5 b (by omega) h2 h3⟩
   · rw [show (canB l n && (rsF l n).getD (n % (fstF l).toNat) 0 == -1) = false by
       rw [Bool.eq_false_iff]
       intro h
       rw [Bool.and_eq_true,beq_iff_eq] at h
       exact hb h]
     show ((rsF l n).getD j 0 = -1∧_)∨∃ a : Nat,a < n + 1∧(rsF l n).getD j 0 = a∧_
     rcases ih with ⟨i1,i2⟩ | ⟨a,i1,i2,i3,i4,i5⟩
     · refine .inl ⟨i1,fun a h1 h2 => ?_⟩
       by_cases ha : a = n
       · subst ha
         cases hx : canB l a with
         | false => rfl
         | true => exact absurd ⟨hx,by rw [h2]; exact i1⟩ hb
       · exact i2 a (by omega) h2
     · exact .inr ⟨a, by omega, i2, i3, i4, fun b h1 h2 h3 => by
         by_cases hbn : b = n
         · omega
         · exact i5 b (by omega) h2 h3⟩
theorem res_no {l : List Int} (hc : Coins l) {j : Nat} (hj : j < (fstF l).toNat) (h : (resF l).getD j 0 < 0) {x : Nat} (hx : x≤9999) (hr : x % (fstF l).toNat = j) : canB l x = false := by
 rcases rs_at hc hj (topF l + 1) with ⟨_,h2⟩ | ⟨a,_,h2,_⟩
 · cases hb : canB l x with
   | false => rfl
   | true =>
     obtain ⟨y,_,k2,k3,k4⟩ := pay_least hc x x (Nat.le_refl _) hx hb
     rw [h2 y (by omega) (by rw [k3,hr])] at k4; cases k4
 · have e : (resF l).getD j 0 = a := h2
   omega
theorem res_yes {l : List Int} (hc : Coins l) {j : Nat} (hj : j < (fstF l).toNat) (h : 0≤(resF l).getD j 0) : ((resF l).getD j 0).toNat % (fstF l).toNat = j∧∀ x : Nat,x≤9999→x % (fstF l).toNat = j→canB l x = decide ((resF l).getD j 0≤x) := by
 rcases rs_at hc hj (topF l + 1) with ⟨h2,_⟩ | ⟨a,a1,a2,a3,a4,a5⟩
 · have e : (resF l).getD j 0 = -1 := h2
   omega
 · have e : (resF l).getD j 0 = a := a2
   rw [e]
   refine ⟨a3,fun x hx hr => ?_⟩
   by_cases hax : a≤x
   · rw [decide_eq_true (by omega)]
     have hd := Nat.div_add_mod x (fstF l).toNat
     have hd2 := Nat.div_add_mod a (fstF l).toNat
     have hle := Nat.div_le_div_right (c := (fstF l).toNat) hax
     have e2 : x = a + (fstF l).toNat * (x / (fstF l).toNat - a / (fstF l).toNat) := by
       rw [Nat.mul_sub]
       have := Nat.mul_le_mul_left (fstF l).toNat hle
       omega
     rw [e2]
     exact add_firsts hc a4 _ (by omega)
   · rw [decide_eq_false (by omega)]
     cases hb : canB l x with
     | false => rfl
     | true =>
       obtain ⟨y,k1,k2,k3,k4⟩ := pay_least hc x x (Nat.le_refl _) hx hb
       have := a5 y (by omega) (by rw [k3,hr]) k4
       omega
theorem sm_zero {r : List Int} {f : Int} : ∀ i,(∀ j,j < i→0≤r.getD j 0∧r.getD j 0 < f)→smF r f i = 0
 | 0,_ => rfl
 | i + 1,h => by
   have h1 := h i (by omega)
   rw [smF,sm_zero i fun j hj => h j (by omega),Int.tdiv_eq_zero_of_lt h1.1 h1.2]; rfl
theorem ms_mx {r : List Int} {f : Int} : ∀ i : Nat,msF r f (i + 1) = if mxF r i - f > -1 then mxF r i - f else -1
 | 0 => rfl
 | i + 1 => by
   rw [msF,ms_mx i,mxF]
   split <;> split <;> split <;> omega
theorem mx_ge {r : List Int} : ∀ i j : Nat,j≤i→r.getD j 0≤mxF r i
 | 0,j,h => by
   obtain rfl : j = 0 := by omega
   exact Int.le_refl _
 | i + 1,j,h => by
   rw [mxF]
   by_cases e : j = i + 1
   · subst e
     split <;> omega
   · have := mx_ge (r := r) i j (by omega)
     split <;> omega
theorem mx_at {r : List Int} : ∀ i : Nat,∃ j,j≤i∧mxF r i = r.getD j 0
 | 0 => ⟨0,Nat.le_refl _,rfl⟩
 | i + 1 => by
   obtain ⟨j,h1,h2⟩ := mx_at (r := r) i
   rw [mxF]
   split
   · exact ⟨i + 1,Nat.le_refl _,rfl⟩
   · exact ⟨j,by omega,h2⟩
theorem en_at {r : List Int} : ∀ i : Nat,enF r i = true→∃ j,j < i∧r.getD j 0 < 0
 | 0,h => by cases h
 | i + 1,h => by
   rw [enF,Bool.or_eq_true,decide_eq_true_eq] at h
   rcases h with h | h
   · obtain ⟨j,h1,h2⟩ := en_at i h
     exact ⟨j,by omega,h2⟩
   · exact ⟨i,by omega,h⟩
theorem en_no {r : List Int} : ∀ i : Nat,enF r i = false→∀ j,j < i→0≤r.getD j 0
 | 0,_,j,hj => by omega
 | i + 1,h,j,hj => by
   rw [enF,Bool.or_eq_false_iff,decide_eq_false_iff_not] at h
   by_cases e : j = i
   · subst e; omega
   · exact en_no i h.1 j (by omega)
theorem mod_gap {a q F : Nat} (h : q % F = a % F) (h2 : a < q) : a + F≤q := by
 have h3 := Nat.sub_mod_eq_zero_of_mod_eq h
 by_cases e : a + F≤q
 · exact e
 · rw [Nat.mod_eq_of_lt (by omega)] at h3; omega
theorem rd_facts {l : List Int} (hc : Coins l) {a : Nat} (ha : a≤300) :
   (enF (resF l) (resF l).length = true→gtE l = 4∧mnE l = 4) ∧
   (enF (resF l) (resF l).length = false→msF (resF l) (fstF l) (resF l).length < 0→gtE l = 5∧mnE l = 0∧mnV l = 0∧canB l a = true) ∧
   (enF (resF l) (resF l).length = false→¬ msF (resF l) (fstF l) (resF l).length < 0→gtE l = 0∧gtV l = msF (resF l) (fstF l) (resF l).length∧mnE l = 0∧mnV l = smF (resF l) (fstF l) (resF l).length∧(canB l a = false→(a : Int)≤gtV l)∧(canB l a = true→(a : Int) ≠ gtV l)) := by
 have hf := fst_rng hc
 have hlen : (resF l).length = (fstF l).toNat := res_len
 have h0 : ¬ errC l ≠ 0 := fun h => h (errC_ok.2 hc)
 have hb := fun j (hj : j < (resF l).length) => res_bd hc hj
 have hms := ms_mx (r := resF l) (f := fstF l) ((resF l).length - 1)
 rw [show (resF l).length - 1 + 1 = (resF l).length by omega] at hms
 have hj : a % (fstF l).toNat < (fstF l).toNat := Nat.mod_lt _ (by omega)
 have nc : enF (resF l) (resF l).length = false→(resF l).contains (-1) = false := fun h => by
   rw [Bool.eq_false_iff]
   intro h2
   rw [List.contains_iff_mem] at h2
   obtain ⟨j,h3,h4⟩ := List.getElem_of_mem h2
   have := en_no _ h j h3
   rw [List.getD_eq_getElem?_getD,List.getElem?_eq_getElem h3,h4] at this
   simp at this
 refine ⟨fun h => ?_,fun h h2 => ?_,fun h h2 => ?_⟩
 · obtain ⟨j,h1,h2⟩ := en_at _ h
   have hx : (resF l).contains (-1) = true := by
     cases hx : (resF l).contains (-1) with
     | true => rfl
     | false =>
       have := not_cont hx h1
       have := hb j h1
       omega
   exact ⟨by rw [gtE,if_neg h0,hx]; rfl,by rw [mnE,if_neg h0,hx]; rfl⟩
 · have hx := nc h
   have hm : mxF (resF l) ((resF l).length - 1) - fstF l < 0 := by
     rw [hms] at h2
     split at h2 <;> omega
   have hs : ∀ j,j < (resF l).length→0≤(resF l).getD j 0∧(resF l).getD j 0 < fstF l := fun j hj => ⟨en_no _ h j hj,by have := mx_ge (r := resF l) ((resF l).length - 1) j (by omega); omega⟩
   have e1 : mnE l = 0 := by rw [mnE,if_neg h0,hx]; rfl
   refine ⟨by rw [gtE,if_neg h0,hx]; show (if _ then (5 : Int) else 0) = 5; rw [if_pos hm],e1,by rw [mnV,if_pos e1,sm_zero _ hs],?_⟩
   have hr := hs _ (by rw [hlen]; exact hj)
   obtain ⟨k1,k2⟩ := res_yes hc hj hr.1
   rw [k2 a (by omega) rfl,decide_eq_true_eq]
   rw [Nat.mod_eq_of_lt (by omega)] at k1
   have := Nat.mod_le a (fstF l).toNat
   omega
 · have hx := nc h
   have hm : ¬ mxF (resF l) ((resF l).length - 1) - fstF l < 0 := fun h3 => by
     rw [hms] at h2
     split at h2 <;> omega
   have hg : mxF (resF l) ((resF l).length - 1) - fstF l = msF (resF l) (fstF l) (resF l).length := by rw [hms,if_pos (by omega)]
   have e0 : gtE l = 0 := by rw [gtE,if_neg h0,hx]; show (if _ then (5 : Int) else 0) = 0; rw [if_neg hm]
   have e1 : mnE l = 0 := by rw [mnE,if_neg h0,hx]; rfl
   have e2 : gtV l = mxF (resF l) ((resF l).length - 1) - fstF l := by rw [gtV,if_pos e0]
   have hr := en_no _ h _ (by rw [hlen]; exact hj)
   obtain ⟨k1,k2⟩ := res_yes hc hj hr
   have k3 := k2 a (by omega) rfl
   refine ⟨e0,by rw [e2,hg],e1,by rw [mnV,if_pos e1],fun h3 => ?_,fun h3 h4 => ?_⟩
   · rw [k3,decide_eq_false_iff_not] at h3
     have := mod_gap (F := (fstF l).toNat) (a := a) (q := ((resF l).getD (a % (fstF l).toNat) 0).toNat) k1 (by omega)
     have := mx_ge (r := resF l) ((resF l).length - 1) (a % (fstF l).toNat) (by omega)
     rw [e2]; omega
   · obtain ⟨j,j1,j2⟩ := mx_at (r := resF l) ((resF l).length - 1)
     have jr := en_no _ h j (by omega)
     obtain ⟨q1,q2⟩ := res_yes hc (j := j) (by omega) jr
     have e3 : ((resF l).getD j 0).toNat = a + (fstF l).toNat := by rw [e2,j2] at h4; omega
     rw [e3,Nat.add_mod_right] at q1
     have := q2 a (by omega) q1
     rw [h3] at this
     have := of_decide_eq_true this.symm
     omega
end Go.Pier.Fl
namespace Go.Pier.Fl
open Go Go.Pier Go.Proofs
abbrev l2 (a b : Nat) : List Int := [(a : Int),(b : Int)]
theorem can2 {a b : Nat} (hc : Coins (l2 a b)) {x : Nat} (hx : x≤9999) : canB (l2 a b) x = true ↔ ∃ i k : Nat,x = a * i + b * k := by
 constructor
 · intro h
   obtain ⟨p,q⟩ := ((best_is hc x hx).1 h).1
   have p0 := p 0 (by simp)
   have p1 := p 1 (by simp)
   have e : dotF (l2 a b) (bF (l2 a b) x) 2 = (a : Int) * bF (l2 a b) x 0 + (b : Int) * bF (l2 a b) x 1 := by simp [dotF]
   have q' : (a : Int) * bF (l2 a b) x 0 + (b : Int) * bF (l2 a b) x 1 = x := e ▸ q
   obtain ⟨i,hi⟩ := Int.eq_ofNat_of_zero_le p0
   obtain ⟨k,hk⟩ := Int.eq_ofNat_of_zero_le p1
   rw [hi,hk,← Int.natCast_mul,← Int.natCast_mul,← Int.natCast_add] at q'
   exact ⟨i,k,(Int.ofNat.inj q').symm⟩
 · rintro ⟨i,k,rfl⟩
   refine ((best_is hc _ hx).2 (fun j => if j = 0 then (i : Int) else k) ⟨fun j _ => by show 0≤(if j = 0 then (i : Int) else k); split <;> omega,?_⟩).1
   simp [dotF]
theorem inj2 {a b : Nat} (hg : Nat.gcd a b = 1) {k m : Nat} (hk : k < a) (hm : m < a) (h : b * k % a = b * m % a) : k = m := by
 have key : ∀ {k m : Nat},k≤m→m < a→b * k % a = b * m % a→k = m := fun {k m} hkm hm h => by
   have h1 : (b * m - b * k) % a = 0 := Nat.sub_mod_eq_zero_of_mod_eq h.symm
   rw [← Nat.mul_sub] at h1
   have h2 : a ∣ m - k := Nat.Coprime.dvd_of_dvd_mul_left hg (Nat.dvd_of_mod_eq_zero h1)
   by_cases e : m - k = 0
   · omega
   · have := Nat.le_of_dvd (by omega) h2
     omega
 by_cases e : k≤m
 · exact key e hm h
 · exact (key (by omega) hk h.symm).symm
theorem surj2 {a b : Nat} (ha : 0 < a) (hg : Nat.gcd a b = 1) {j : Nat} (hj : j < a) : ∃ k,k < a∧b * k % a = j := by
 by_cases hx : ∃ k,k < a∧b * k % a = j
 · exact hx
 · exfalso
   have hn : ((List.range a).map fun k => b * k % a).Nodup := by
     rw [List.Nodup,List.pairwise_map]
     exact List.nodup_range.imp_of_mem fun {k m} hk hm hne e => hne (inj2 hg (List.mem_range.1 hk) (List.mem_range.1 hm) e)
   have := len_leN (l := (List.range a).erase j) hn fun x h => by
     obtain ⟨k,hk,rfl⟩ := List.mem_map.1 h
     exact (List.mem_erase_of_ne fun e => hx ⟨k,List.mem_range.1 hk,e⟩).2 (List.mem_range.2 (Nat.mod_lt _ ha))
   rw [List.length_map,List.length_range,List.length_erase_of_mem (List.mem_range.2 hj),List.length_range] at this
   omega
theorem res2 {a b : Nat} (hc : Coins (l2 a b)) (ha : 2≤a∧a≤50) (hb : 1≤b∧b≤50) (hg : Nat.gcd a b = 1) {j : Nat} (hj : j < a) : ∃ k,k < a∧b * k % a = j∧(resF (l2 a b)).getD j 0 = ((b * k : Nat) : Int)∧∀ x : Nat,x≤9999→x % a = j→canB (l2 a b) x = decide (b * k≤x) := by
 have hjf : j < (fstF (l2 a b)).toNat := hj
 obtain ⟨k,hk,e⟩ := surj2 (by omega) hg hj
 have hbk : b * k≤50 * 50 := Nat.mul_le_mul hb.2 (by omega)
 have hpay : canB (l2 a b) (b * k) = true := (can2 hc (by omega)).2 ⟨0,k,by simp⟩
 have h0 : 0≤(resF (l2 a b)).getD j 0 := by
   by_cases h : 0≤(resF (l2 a b)).getD j 0
   · exact h
   · have := res_no hc hjf (by omega) (x := b * k) (by omega) e
     rw [hpay] at this; cases this
 obtain ⟨q1,q2⟩ := res_yes hc hjf h0
 obtain ⟨r,hr⟩ := Int.eq_ofNat_of_zero_le h0
 rw [hr] at q1 q2
 have q1 : r % a = j := q1
 have q3 : ∀ x : Nat,x≤9999→x % a = j→canB (l2 a b) x = decide (r≤x) := fun x hx hxa => by
   rw [q2 x hx hxa]
   by_cases h : r≤x
   · rw [decide_eq_true h,decide_eq_true (by omega)]
   · rw [decide_eq_false h,decide_eq_false (by omega)]
 have hle : r≤b * k := by
   have := q3 (b * k) (by omega) e
   rw [hpay] at this
   exact of_decide_eq_true this.symm
 have hcr : canB (l2 a b) r = true := by rw [q3 r (by omega) q1]; exact decide_eq_true (Nat.le_refl _)
 obtain ⟨i,m,hm⟩ := (can2 hc (by omega)).1 hcr
 have hi : i = 0 := by
   by_cases hi : i = 0
   · exact hi
   · exfalso
     obtain ⟨i',rfl⟩ := Nat.exists_eq_succ_of_ne_zero hi
     have hra : r = a + (a * i' + b * m) := by rw [hm,Nat.mul_succ]; omega
     have hq : (a * i' + b * m) % a = j := by rw [← q1,hra,Nat.add_mod_left]
     have := q3 (a * i' + b * m) (by omega) hq
     rw [(can2 hc (by omega)).2 ⟨i',m,rfl⟩] at this
     have := of_decide_eq_true this.symm
     omega
 subst hi
 rw [Nat.mul_zero,Nat.zero_add] at hm
 have hmk : m < a := by
   by_cases hm2 : m < a
   · exact hm2
   · have := (Nat.mul_lt_mul_left (a := b) (by omega)).2 (show k < m by omega)
     omega
 subst hm
 exact ⟨m,hmk,q1,hr,q3⟩
theorem pair2 {a b : Nat} (hg : Nat.gcd a b = 1) {j k m : Nat} (hj0 : 0 < j) (hj : j < a) (hk : k < a) (hm : m < a) (e1 : b * k % a = j) (e2 : b * m % a = a - j) : k + m = a := by
 have h : b * (k + m) % a = 0 := by rw [Nat.mul_add,Nat.add_mod,e1,e2,show j + (a - j) = a by omega,Nat.mod_self]
 obtain ⟨q,hq⟩ := Nat.Coprime.dvd_of_dvd_mul_left hg (Nat.dvd_of_mod_eq_zero h)
 have hk0 : k ≠ 0 := by
   rintro rfl
   rw [Nat.mul_zero,Nat.zero_mod] at e1; omega
 rcases q with _ | _ | q
 · omega
 · omega
 · have : a * (q + 1 + 1) = a * q + a + a := by rw [Nat.mul_succ,Nat.mul_succ]
   omega
theorem sum2 {r : List Int} {f c : Int} {n : Nat} (h : ∀ j,0 < j→j < n→(r.getD j 0).tdiv f + (r.getD (n - j) 0).tdiv f = c) : ∀ i : Nat,i + 1≤n→(smF r f (i + 1) - smF r f 1) + (smF r f n - smF r f (n - i)) = i * c
 | 0,_ => by simp
 | i + 1,hi => by
   have ih := sum2 h i (by omega)
   have h1 := h (i + 1) (by omega) (by omega)
   have e : smF r f (n - i) = smF r f (n - (i + 1)) + (r.getD (n - (i + 1)) 0).tdiv f := by rw [show n - i = (n - (i + 1)) + 1 by omega]; rfl
   have e2 : smF r f (i + 1 + 1) = smF r f (i + 1) + (r.getD (i + 1) 0).tdiv f := rfl
   have e3 : ((i + 1 : Nat) : Int) * c = i * c + c := by push_cast; rw [Int.add_mul,Int.one_mul]
   rw [e2,e3]; omega
theorem tdivN (n a : Nat) : ((n : Int)).tdiv (a : Int) = ((n / a : Nat) : Int) := by
 rw [Int.tdiv_eq_ediv_of_nonneg (by omega)]; rfl
theorem half2 {a b : Nat} (hc : Coins (l2 a b)) (ha : 2≤a∧a≤50) (hb : 1≤b∧b≤50) (hg : Nat.gcd a b = 1) {j : Nat} (hj0 : 0 < j) (hj : j < a) : ((resF (l2 a b)).getD j 0).tdiv a + ((resF (l2 a b)).getD (a - j) 0).tdiv a = (b : Int) - 1 := by
 obtain ⟨k,hk,e1,e2,_⟩ := res2 hc ha hb hg hj
 obtain ⟨m,hm,f1,f2,_⟩ := res2 hc ha hb hg (j := a - j) (by omega)
 have hkm := pair2 hg hj0 hj hk hm e1 f1
 rw [e2,f2,tdivN,tdivN]
 have d1 := Nat.div_add_mod (b * k) a
 have d2 := Nat.div_add_mod (b * m) a
 rw [e1] at d1
 rw [f1] at d2
 have d3 : b * k + b * m = a * b := by rw [← Nat.mul_add,hkm,Nat.mul_comm]
 have d4 : a * (b * k / a + b * m / a + 1) = a * b := by rw [Nat.mul_add,Nat.mul_add,Nat.mul_one]; omega
 have := Nat.eq_of_mul_eq_mul_left (by omega) d4
 omega
theorem over2 {a b : Nat} (hc : Coins (l2 a b)) (ha : 2≤a) (hg : Nat.gcd a b ≠ 1) : gtE (l2 a b) = 4 := by
 have h1f : 1 < (fstF (l2 a b)).toNat := ha
 have hlen : (resF (l2 a b)).length = (fstF (l2 a b)).toNat := res_len
 refine ((rd_facts hc (a := 0) (by omega)).1 ?_).1
 cases hx : enF (resF (l2 a b)) (resF (l2 a b)).length with
 | true => rfl
 | false =>
   exfalso
   have h0 := en_no _ hx 1 (by omega)
   have hbd := res_bd hc (j := 1) (by omega)
   obtain ⟨q1,q2⟩ := res_yes hc h1f h0
   obtain ⟨r,hr⟩ := Int.eq_ofNat_of_zero_le h0
   rw [hr] at q1 q2 hbd
   have q1 : r % a = 1 := q1
   have hcr : canB (l2 a b) r = true := by rw [q2 r (by omega) q1]; exact decide_eq_true (Int.le_refl _)
   obtain ⟨i,m,hm⟩ := (can2 hc (by omega)).1 hcr
   have d1 : Nat.gcd a b ∣ r := by
     rw [hm]
     exact Nat.dvd_add (Nat.dvd_trans (Nat.gcd_dvd_left a b) (Nat.dvd_mul_right _ _)) (Nat.dvd_trans (Nat.gcd_dvd_right a b) (Nat.dvd_mul_right _ _))
   have d2 : Nat.gcd a b ∣ r % a := (Nat.dvd_mod_iff (Nat.gcd_dvd_left a b)).2 d1
   rw [q1] at d2
   exact hg (Nat.dvd_one.1 d2)
theorem two2 {a b : Nat} (hc : Coins (l2 a b)) (ha : 2≤a∧a < b) (hb : b≤50) (hg : Nat.gcd a b = 1) : gtE (l2 a b) = 0∧gtV (l2 a b) = a * b - a - b∧mnE (l2 a b) = 0∧2 * mnV (l2 a b) = a * b - a - b + 1 := by
 have hF : fstF (l2 a b) = (a : Int) := rfl
 have hlen : (resF (l2 a b)).length = a := res_len
 have ha2 : 2≤a∧a≤50 := by omega
 have hb2 : 1≤b∧b≤50 := by omega
 have hab : 3 * a≤a * b := by rw [Nat.mul_comm]; exact Nat.mul_le_mul_left a (by omega)
 have hab2 : 2 * b≤a * b := Nat.mul_le_mul_right b (by omega)
 have hen : enF (resF (l2 a b)) (resF (l2 a b)).length = false := by
   cases hx : enF (resF (l2 a b)) (resF (l2 a b)).length with
   | false => rfl
   | true =>
     obtain ⟨j,h1,h2⟩ := en_at _ hx
     obtain ⟨k,_,_,e,_⟩ := res2 hc ha2 hb2 hg (j := j) (by omega)
     omega
 obtain ⟨A,rfl⟩ : ∃ A,a = A + 1 := ⟨a - 1,by omega⟩
 have hbA : b * A + b = (A + 1) * b := by rw [Nat.add_mul,Nat.one_mul,Nat.mul_comm]
 have hmx : mxF (resF (l2 (A + 1) b)) A = ((b * A : Nat) : Int) := by
   obtain ⟨j,j1,j2⟩ := mx_at (r := resF (l2 (A + 1) b)) A
   obtain ⟨k,k1,k2,k3,_⟩ := res2 hc ha2 hb2 hg (j := j) (by omega)
   have hj : b * A % (A + 1) < A + 1 := Nat.mod_lt _ (by omega)
   obtain ⟨m,m1,m2,m3,_⟩ := res2 hc ha2 hb2 hg hj
   have hm : m = A := inj2 hg m1 (by omega) m2
   have hge := mx_ge (r := resF (l2 (A + 1) b)) A (b * A % (A + 1)) (by omega)
   rw [m3,hm] at hge
   have hkA : b * k≤b * A := Nat.mul_le_mul_left b (by omega)
   rw [j2,k3] at hge ⊢
   omega
 have hms : msF (resF (l2 (A + 1) b)) (fstF (l2 (A + 1) b)) (resF (l2 (A + 1) b)).length = ((A + 1 : Nat) : Int) * b - (A + 1 : Nat) - b := by
   rw [hlen,ms_mx,hmx,hF]
   have : ((A + 1 : Nat) : Int) * (b : Int) = ((b * A + b : Nat) : Int) := by rw [hbA]; exact (Int.natCast_mul _ _).symm
   rw [this,if_pos (by omega)]; omega
 have hsm := sum2 (r := resF (l2 (A + 1) b)) (f := ((A + 1 : Nat) : Int)) (n := A + 1) (fun j h1 h2 => half2 hc ha2 hb2 hg h1 h2) A (Nat.le_refl _)
 have h1 : smF (resF (l2 (A + 1) b)) ((A + 1 : Nat) : Int) 1 = 0 := by
   obtain ⟨k,k1,k2,k3,_⟩ := res2 hc ha2 hb2 hg (j := 0) (by omega)
   have hk : k = 0 := inj2 hg k1 (by omega) (by rw [k2,Nat.mul_zero,Nat.zero_mod])
   show 0 + ((resF (l2 (A + 1) b)).getD 0 0).tdiv _ = 0
   rw [k3,hk,Nat.mul_zero,tdivN,Nat.zero_div]; rfl
 have cast : ((A + 1 : Nat) : Int) * (b : Int) = ((b * A + b : Nat) : Int) := by rw [hbA]; exact (Int.natCast_mul _ _).symm
 have hneg : ¬ msF (resF (l2 (A + 1) b)) (fstF (l2 (A + 1) b)) (resF (l2 (A + 1) b)).length < 0 := by
   rw [hms,cast]; omega
 obtain ⟨r1,r2,r3,r4,_⟩ := (rd_facts hc (a := 0) (by omega)).2.2 hen hneg
 refine ⟨r1,by rw [r2,hms],r3,?_⟩
 rw [show A + 1 - A = 1 by omega,h1] at hsm
 have e : (A : Int) * ((b : Int) - 1) = ((b * A : Nat) : Int) - A := by rw [Int.mul_sub,Int.mul_one,Int.natCast_mul,Int.mul_comm]
 rw [e] at hsm
 rw [r4,hlen,hF,cast]
 omega
theorem xor2 {a b : Nat} (hc : Coins (l2 a b)) (ha : 2≤a∧a < b) (hb : b≤50) (hg : Nat.gcd a b = 1) {w x : Nat} (hw : w + a + b = a * b) (hx : x≤w) : canB (l2 a b) x ≠ canB (l2 a b) (w - x) := by
 have ha2 : 2≤a∧a≤50 := by omega
 have hb2 : 1≤b∧b≤50 := by omega
 have hab : a * b≤50 * 50 := Nat.mul_le_mul ha2.2 hb
 obtain ⟨k,hk,e1,_,e2⟩ := res2 hc ha2 hb2 hg (j := x % a) (Nat.mod_lt _ (by omega))
 obtain ⟨m,hm,f1,_,f2⟩ := res2 hc ha2 hb2 hg (j := (w - x) % a) (Nat.mod_lt _ (by omega))
 have hN : a * (x / a + (w - x) / a + 1) + b * (k + m + 1) = a * (b * k / a + b * m / a + b) := by
   have d1 := Nat.div_add_mod (b * k) a
   have d2 := Nat.div_add_mod (b * m) a
   have d3 := Nat.div_add_mod x a
   have d4 := Nat.div_add_mod (w - x) a
   rw [Nat.mul_add,Nat.mul_add,Nat.mul_add,Nat.mul_add,Nat.mul_add,Nat.mul_add,Nat.mul_one,Nat.mul_one]
   omega
 have hd : a ∣ b * (k + m + 1) := (Nat.dvd_add_right (Nat.dvd_mul_right a (x / a + (w - x) / a + 1))).1 (hN ▸ Nat.dvd_mul_right _ _)
 obtain ⟨q,hq⟩ := Nat.Coprime.dvd_of_dvd_mul_left hg hd
 have hkm : k + m + 1 = a := by
   rcases q with _ | _ | q
   · omega
   · omega
   · have : a * (q + 1 + 1) = a * q + a + a := by rw [Nat.mul_succ,Nat.mul_succ]
     omega
 have hs : b * k + b * m + b = a * b := by rw [← hkm,Nat.mul_comm (k + m + 1),Nat.mul_add,Nat.mul_add,Nat.mul_one]
 rw [e2 x (by omega) rfl,f2 (w - x) (by omega) rfl]
 by_cases h : b * k≤x
 · rw [decide_eq_true h,decide_eq_false (by omega)]; decide
 · have := mod_gap (F := a) (a := x) (q := b * k) e1 (by omega)
   rw [decide_eq_false h,decide_eq_true (by omega)]; decide
theorem coins2 {a b : Nat} (ha : 1≤a∧a < b) (hb : b≤50) : Coins (l2 a b) := by
 refine ⟨by simp,by simp,fun x hx => ?_,fun j hj h0 => ?_⟩
 · rcases List.mem_cons.1 hx with rfl | hx
   · omega
   · rcases List.mem_cons.1 hx with rfl | hx
     · omega
     · cases hx
 · have hj2 : j < 2 := hj
   obtain rfl : j = 1 := by omega
   show (a : Int) < b
   omega
end Go.Pier.Fl
