import Derived.Test.YtbehncpoppoglaaPierKE4
import Derived.Test.YtbehncpoppoglaaPierFlwk
import Derived.KernelRfl
import Derived.Test.YtbehncpoppoglaaPierKE5
set_option linter.unusedSimpArgs false
set_option linter.unusedVariables false
set_option maxRecDepth 100000
namespace Go.Pier.Fl
open Go Go.Pier Go.Proofs
noncomputable def atB : Code := Try.f50.body.getD .skip
def amt (w : Int) : Int := w % 301
noncomputable def atV :=
fun (w:Int)↦Ob ((301:Int)≠(0:Int))∧True∧Ob (vi ((IntKind.i64.wrap w).tmod (301:Int))=vi (amt w))
theorem atV_eq : atV = fun (w : Int) => vc Try.prog {} 0 6 true (fun _ => none) atB [] (argFr 0 [.int .u16 w]) [] (retK Try.prog Try.f50 (fun v _ => v = vi (amt w))) := by kernel_rfl
def atS (r : List Arg) : Prop × Value := match r with
 | [.plain (.int .u16 w)] => (0≤w∧w < 65536,vi (amt w))
 | _ => (False,undef)
def worksS (r : List Arg) : Prop × Value := match r with | [] => (True,.bool true) | _ => (False,undef)
def isTrue (v : Value) (_ : Heap) : Prop := v = .bool true
theorem atV_ok (w : Int) (h : 0≤w∧w < 65536) : atV w := by
 unfold atV
 simp only [SS,reduceCtorEq,Arg.list,Arg.num,Arg.flag,intOf,andP,Nat.reduceLeDiff,Nat.reduceAdd,Nat.reduceMul,Nat.reduceLT]
 rw [wrap_in (by omega) (by omega),Int.tmod_eq_emod_of_nonneg h.1]
 exact ⟨by decide,rfl⟩
theorem amt_rng (w : Int) : 0≤amt w∧amt w≤300 := by unfold amt; omega
theorem worksG_ok : ∀ args H φ v H' l,pureG [] worksS args H = some (φ,v,H',l)→Asks φ→Call Try.prog 19 args H (fun v' H2 => v' = v∧H2 = H')∧Kept H H' l :=
 closedG_ok (works_ok.call.mono fun v H h => h.1) rfl
theorem atG_ok : ∀ args H φ v H' l,pureG [.int .u16] atS args H = some (φ,v,H',l)→Asks φ→Call Try.prog 50 args H (fun v' H2 => v' = v∧H2 = H')∧Kept H H' l :=
 pureG_ok fun r hk hs => match r,hk with
   | [_],⟨⟨w,ha⟩,_⟩ => by
     subst ha
     exact ⟨rfl,fun caps => Call.ofVc E0_ok mixed (c := atB) (inv := fun _ => none) Try.func50 (by kernel_rfl) (cast (congrFun atV_eq w) (atV_ok w hs))⟩
theorem u8_wfA {n : Int} (h : (Lit.int .u8 n).wf = true) : 0≤n∧n < 256 := by
 simp only [Lit.wf,Bool.and_eq_true,decide_eq_true_eq] at h
 have h1 : IntKind.u8.min = 0 := rfl
 have h2 : IntKind.u8.max = 255 := rfl
 rw [h1,h2] at h
 omega
theorem u16_wfA {n : Int} (h : (Lit.int .u16 n).wf = true) : 0≤n∧n < 65536 := by
 simp only [Lit.wf,Bool.and_eq_true,decide_eq_true_eq] at h
 have h1 : IntKind.u16.min = 0 := rfl
 have h2 : IntKind.u16.max = 65535 := rfl
 rw [h1,h2] at h
 omega
end Go.Pier.Fl
namespace Go.Pier.Fl
open Go Go.Pier Go.Proofs
theorem add_coin {l : List Int} (hc : Coins l) {k : Nat} (hk : k < l.length) {y : Nat} (hy : y + (l.getD k 0).toNat≤9999) (h : canB l y = true) : canB l (y + (l.getD k 0).toNat) = true := by
 have hr := coin_rng hc hk
 obtain ⟨p,q⟩ := ((best_is hc y (by omega)).1 h).1
 refine ((best_is hc _ hy).2 (up (bF l y) k 1) ⟨fun j hj => ?_,?_⟩).1
 · have := p j hj
   unfold up
   split <;> omega
 · rw [dot_up,q,if_pos hk]; omega
theorem sub_coin {l : List Int} (hc : Coins l) {x : Nat} (hx : 0 < x) (hx9 : x≤9999) (h : canB l x = true) : ∃ k,k < l.length∧(l.getD k 0).toNat≤x∧canB l (x - (l.getD k 0).toNat) = true := by
 obtain ⟨p,q⟩ := ((best_is hc x hx9).1 h).1
 obtain ⟨k,hk,hp⟩ := dot_pos (l := l) l.length (fun j hj => ⟨by have := coin_rng hc hj; omega,p j hj⟩) (by rw [q]; omega)
 have hr := coin_rng hc hk
 have hz : isCh l (x - l.getD k 0) (up (bF l x) k (-1)) := ⟨fun j hj => by
   have := p j hj
   unfold up
   split
   · rename_i e
     rw [e]; omega
   · omega,by rw [dot_up,q,if_pos hk]; omega⟩
 have h0 := dot_nonneg (l := l) l.length (fun j hj => ⟨by have := coin_rng hc hj; omega,hz.1 j hj⟩)
 rw [hz.2] at h0
 refine ⟨k,hk,by omega,((best_is hc _ (by omega)).2 (up (bF l x) k (-1)) ?_).1⟩
 have e : ((x - (l.getD k 0).toNat : Nat) : Int) = x - l.getD k 0 := by omega
 rw [e]; exact hz
theorem chain {l : List Int} (hc : Coins l) : ∀ n z,z≤n→z≤9999→canB l z = true→∃ ss : List Nat,(z : Int) + lastF l≤ss.length * lastF l∧(∀ s ∈ ss,s≤z∧canB l s = true)∧ss.Pairwise (fun s t => t < s∧canB l (z - s + t) = true) := by
 intro n
 induction n with
 | zero =>
   intro z hn _ h
   obtain rfl : z = 0 := by omega
   exact ⟨[0],by simp,fun s hs => by rw [List.mem_singleton] at hs; subst hs; exact ⟨Nat.le_refl _,h⟩,List.pairwise_singleton _ _⟩
 | succ n ih =>
   intro z hn h9 h
   by_cases hz : z = 0
   · subst hz
     exact ⟨[0],by simp,fun s hs => by rw [List.mem_singleton] at hs; subst hs; exact ⟨Nat.le_refl _,h⟩,List.pairwise_singleton _ _⟩
   · obtain ⟨k,hk,h1,h2⟩ := sub_coin hc (by omega) h9 h
     have hr := coin_rng hc hk
     have hl := coin_last hc hk
     obtain ⟨ss,a1,a2,a3⟩ := ih (z - (l.getD k 0).toNat) (by omega) (by omega) h2
     refine ⟨z :: ss,?_,?_,List.pairwise_cons.2 ⟨fun t ht => ⟨by have := (a2 t ht).1; omega,?_⟩,a3.imp_of_mem fun {s t} hs ht ⟨b1,b2⟩ => ⟨b1,?_⟩⟩⟩
     · rw [List.length_cons,Int.natCast_add,Int.add_mul]; omega
     · intro s hs
       rcases List.mem_cons.1 hs with rfl | hs
       · exact ⟨Nat.le_refl _,h⟩
       · have := a2 s hs
         exact ⟨by omega,this.2⟩
     · rw [Nat.sub_self,Nat.zero_add]; exact (a2 t ht).2
     · have hs2 := (a2 s hs).1
       have := add_coin hc hk (y := z - (l.getD k 0).toNat - s + t) (by omega) b2
       rw [show z - s + t = z - (l.getD k 0).toNat - s + t + (l.getD k 0).toNat by omega]
       exact this
theorem len_leN {l : List Nat} : ∀ {k : List Nat},k.Nodup→(∀ x ∈ k,x ∈ l)→k.length≤l.length
 | [],_,_ => Nat.zero_le _
 | x :: k,hn,h => by
   obtain ⟨h1,h2⟩ := List.nodup_cons.1 hn
   have hx := h x List.mem_cons_self
   have := len_leN (l := l.erase x) (k := k) h2 fun y hy => (List.mem_erase_of_ne (fun (e : y = x) => h1 (e ▸ hy))).2 (h y (List.mem_cons_of_mem _ hy))
   rw [List.length_erase_of_mem hx] at this
   have : 0 < l.length := List.length_pos_of_mem hx
   rw [List.length_cons]
   omega
theorem least_top {l : List Int} (hc : Coins l) {z : Nat} (h9 : z≤9999) (h : canB l z = true) (hm : ∀ y,y < z→y % (fstF l).toNat = z % (fstF l).toNat→canB l y = false) : z≤topF l := by
 have hf := fst_rng hc
 have hl := last_rng hc
 obtain ⟨ss,a1,a2,a3⟩ := chain hc z z (Nat.le_refl _) h9 h
 have hnd : (ss.map (· % (fstF l).toNat)).Nodup := by
   rw [List.Nodup,List.pairwise_map]
   refine a3.imp_of_mem fun {s t} hs ht ⟨b1,b2⟩ e => ?_
   have hs2 := (a2 s hs).1
   have := hm (z - s + t) (by omega) (by
     conv => rhs; rw [show z = z - s + s by omega]
     rw [Nat.add_mod,← e,← Nat.add_mod])
   rw [b2] at this; cases this
 have hlen := len_leN (l := List.range (fstF l).toNat) hnd fun x hx => by
   obtain ⟨s,_,rfl⟩ := List.mem_map.1 hx
   exact List.mem_range.2 (Nat.mod_lt _ (by omega))
 rw [List.length_map,List.length_range] at hlen
 have h1 := Int.mul_le_mul_of_nonneg_right (show (ss.length : Int)≤fstF l by omega) (show 0≤lastF l by omega)
 rw [topF]; omega
theorem pay_least {l : List Int} (hc : Coins l) : ∀ n z,z≤n→z≤9999→canB l z = true→∃ y,y≤z∧y≤topF l∧y % (fstF l).toNat = z % (fstF l).toNat∧canB l y = true := by
 intro n
 induction n with
 | zero =>
   intro z hn h9 h
   exact ⟨z,Nat.le_refl _,by omega,rfl,h⟩
 | succ n ih =>
   intro z hn h9 h
   by_cases hx : ∃ y,y < z∧y % (fstF l).toNat = z % (fstF l).toNat∧canB l y = true
   · obtain ⟨y,h1,h2,h3⟩ := hx
     obtain ⟨x,k1,k2,k3,k4⟩ := ih y (by omega) (by omega) h3
     exact ⟨x,by omega,k2,by rw [k3,h2],k4⟩
   · refine ⟨z,Nat.le_refl _,least_top hc h9 h fun y h1 h2 => ?_,rfl,h⟩
     cases hy : canB l y with
     | false => rfl
     | true => exact absurd ⟨y,h1,h2,hy⟩ hx
theorem add_firsts {l : List Int} (hc : Coins l) {y : Nat} (h : canB l y = true) : ∀ n,y + (fstF l).toNat * n≤9999→canB l (y + (fstF l).toNat * n) = true
 | 0,_ => by rw [Nat.mul_zero,Nat.add_zero]; exact h
 | n + 1,hn => by
   rw [Nat.mul_succ] at hn ⊢
   have := add_coin hc hc.pos (y := y + (fstF l).toNat * n) (by show _ + (fstF l).toNat≤9999; omega) (add_firsts hc h n (by omega))
   rw [← Nat.add_assoc]; exact this
theorem tmodN {n : Nat} {f : Int} (hf : 1≤f) : ((n : Int).tmod f).toNat = n % f.toNat := by
 obtain ⟨F,rfl⟩ : ∃ F : Nat,f = F := ⟨f.toNat,by omega⟩
 rw [Int.tmod_eq_emod_of_nonneg (by omega),← Int.natCast_emod,Int.toNat_natCast,Int.toNat_natCast]
theorem rs_at {l : List Int} (hc : Coins l) {j : Nat} (hj : j < (fstF l).toNat) : ∀ n,((rsF l n).getD j 0 = -1∧∀ a,a < n→a % (fstF l).toNat = j→canB l a = false)∨∃ a : Nat,a < n∧(rsF l n).getD j 0 = a∧a % (fstF l).toNat = j∧canB l a = true∧∀ b,b < n→b % (fstF l).toNat = j→canB l b = true→a≤b := by
 have hf := fst_rng hc
 intro n
 induction n with
 | zero => exact .inl ⟨by rw [rsF,List.getD_eq_getElem?_getD,List.getElem?_replicate,if_pos hj]; rfl,fun a h => by omega⟩
 | succ n ih =>
   have hk : ((n : Int).tmod (fstF l)).toNat = n % (fstF l).toNat := tmodN hf.1
   have hlen := rs_len (l := l) n
   rw [rsF,hk]
   by_cases hb : canB l n = true∧(rsF l n).getD (n % (fstF l).toNat) 0 = -1
   · rw [show (canB l n && (rsF l n).getD (n % (fstF l).toNat) 0 == -1) = true by rw [hb.1,hb.2]; rfl]
     show (((rsF l n).set _ _).getD j 0 = -1∧_)∨∃ a : Nat,a < n + 1∧((rsF l n).set _ _).getD j 0 = a∧_
     by_cases e : n % (fstF l).toNat = j
     · refine .inr ⟨n,by omega,by rw [e,List.getD_eq_getElem?_getD,List.getElem?_set_self (by omega)]; rfl,e,hb.1,fun b h1 h2 h3 => ?_⟩
       rcases ih with ⟨_,i2⟩ | ⟨a,_,i2,_⟩
       · by_cases hbn : b = n
         · omega
         · have := i2 b (by omega) h2
           rw [h3] at this; cases this
       · have := hb.2
         rw [e,i2] at this; omega
     · rw [List.getD_eq_getElem?_getD,List.getElem?_set_ne e,← List.getD_eq_getElem?_getD]
       rcases ih with ⟨i1,i2⟩ | ⟨a,i1,i2,i3,i4,i5⟩
       · exact .inl ⟨i1, fun a h1 h2 => i2 a (by
           by_cases ha : a = n
           · subst ha; exact absurd h2 e
           · omega) h2⟩
       · exact .inr ⟨a, by omega, i2, i3, i4, fun b h1 h2 h3 => by
           by_cases hbn : b = n
           · omega
           · exact i5 b (by omega) h2 h3⟩
   · rw [show (canB l n && (rsF l n).getD (n % (fstF l).toNat) 0 == -1) = false by
       rw [Bool.eq_false_iff]
       intro h
       rw [Bool.and_eq_true,beq_iff_eq] at h
       exact hb h]
     show ((rsF l n).getD j 0 = -1∧_)∨∃ a : Nat,a < n + 1∧(rsF l n).getD j 0 = a∧_
     rcases ih with ⟨i1,i2⟩ | ⟨a,i1,i2,i3,i4,i5⟩
     · refine .inl ⟨i1,fun a h1 h2 => ?_⟩
       by_cases ha : a = n
       · subst ha
         cases hx : canB l a with
         | false => rfl
         | true => exact absurd ⟨hx,by rw [h2]; exact i1⟩ hb
       · exact i2 a (by omega) h2
     · exact .inr ⟨a, by omega, i2, i3, i4, fun b h1 h2 h3 => by
         by_cases hbn : b = n
         · omega
         · exact i5 b (by omega) h2 h3⟩
theorem res_no {l : List Int} (hc : Coins l) {j : Nat} (hj : j < (fstF l).toNat) (h : (resF l).getD j 0 < 0) {x : Nat} (hx : x≤9999) (hr : x % (fstF l).toNat = j) : canB l x = false := by
 rcases rs_at hc hj (topF l + 1) with ⟨_,h2⟩ | ⟨a,_,h2,_⟩
 · cases hb : canB l x with
   | false => rfl
   | true =>
     obtain ⟨y,_,k2,k3,k4⟩ := pay_least hc x x (Nat.le_refl _) hx hb
     rw [h2 y (by omega) (by rw [k3,hr])] at k4; cases k4
 · have e : (resF l).getD j 0 = a := h2
   omega
theorem res_yes {l : List Int} (hc : Coins l) {j : Nat} (hj : j < (fstF l).toNat) (h : 0≤(resF l).getD j 0) : ((resF l).getD j 0).toNat % (fstF l).toNat = j∧∀ x : Nat,x≤9999→x % (fstF l).toNat = j→canB l x = decide ((resF l).getD j 0≤x) := by
 rcases rs_at hc hj (topF l + 1) with ⟨h2,_⟩ | ⟨a,a1,a2,a3,a4,a5⟩
 · have e : (resF l).getD j 0 = -1 := h2
   omega
 · have e : (resF l).getD j 0 = a := a2
   rw [e]
   refine ⟨a3,fun x hx hr => ?_⟩
   by_cases hax : a≤x
   · rw [decide_eq_true (by omega)]
     have hd := Nat.div_add_mod x (fstF l).toNat
     have hd2 := Nat.div_add_mod a (fstF l).toNat
     have hle := Nat.div_le_div_right (c := (fstF l).toNat) hax
     have e2 : x = a + (fstF l).toNat * (x / (fstF l).toNat - a / (fstF l).toNat) := by
       rw [Nat.mul_sub]
       have := Nat.mul_le_mul_left (fstF l).toNat hle
       omega
     rw [e2]
     exact add_firsts hc a4 _ (by omega)
   · rw [decide_eq_false (by omega)]
     cases hb : canB l x with
     | false => rfl
     | true =>
       obtain ⟨y,k1,k2,k3,k4⟩ := pay_least hc x x (Nat.le_refl _) hx hb
       have := a5 y (by omega) (by rw [k3,hr]) k4
       omega
end Go.Pier.Fl
namespace Go.Pier.Fl
open Go Go.Pier Go.Proofs
theorem tdivM (n a : Nat) : ((n : Int)).tdiv (a : Int) = ((n / a : Nat) : Int) := by
 rw [Int.tdiv_eq_ediv_of_nonneg (by omega)]; rfl
def insL (l : List Int) (p : Nat) (v : Int) : List Int := l.take p ++ v :: l.drop p
theorem ins_len {l : List Int} {p : Nat} {v : Int} (hp : p≤l.length) : (insL l p v).length = l.length + 1 := by
 unfold insL
 rw [List.length_append,List.length_take,List.length_cons,List.length_drop]; omega
theorem ins_lt {l : List Int} {p j : Nat} {v : Int} (hp : p≤l.length) (hj : j < p) : (insL l p v).getD j 0 = l.getD j 0 := by
 unfold insL
 rw [List.getD_eq_getElem?_getD,List.getElem?_append_left (by rw [List.length_take]; omega),List.getElem?_take,if_pos hj,List.getD_eq_getElem?_getD]
theorem ins_at {l : List Int} {p : Nat} {v : Int} (hp : p≤l.length) : (insL l p v).getD p 0 = v := by
 unfold insL
 rw [List.getD_eq_getElem?_getD,List.getElem?_append_right (by rw [List.length_take]; omega),List.length_take,Nat.min_eq_left hp,Nat.sub_self]; rfl
theorem ins_gt {l : List Int} {p j : Nat} {v : Int} (hp : p≤l.length) (hj : p < j) : (insL l p v).getD j 0 = l.getD (j - 1) 0 := by
 unfold insL
 rw [List.getD_eq_getElem?_getD,List.getElem?_append_right (by rw [List.length_take]; omega),List.length_take,Nat.min_eq_left hp,show j - p = (j - 1 - p) + 1 by omega,List.getElem?_cons_succ,List.getElem?_drop,show p + (j - 1 - p) = j - 1 by omega,List.getD_eq_getElem?_getD]
structure Mid (l : List Int) (p : Nat) (v : Int) : Prop where
 le : p≤l.length
 lo : ∀ j,j < p→l.getD j 0 < v
 hi : ∀ j,p≤j→j < l.length→v < l.getD j 0
 rng : 1≤v∧v≤50
 few : l.length≤4
theorem coins_ins {l : List Int} {p : Nat} {v : Int} (hc : Coins l) (m : Mid l p v) : Coins (insL l p v) := by
 have hl := ins_len (v := v) m.le
 have hf := m.few
 refine ⟨by omega,by omega,fun x hx => ?_,fun j hj h0 => ?_⟩
 · unfold insL at hx
   rcases List.mem_append.1 hx with h | h
   · exact hc.rng x (List.mem_of_mem_take h)
   · rcases List.mem_cons.1 h with rfl | h
     · exact m.rng
     · exact hc.rng x (List.mem_of_mem_drop h)
 · rw [hl] at hj
   by_cases e1 : j < p
   · rw [ins_lt m.le e1,ins_lt m.le (by omega)]; exact hc.inc j (by have := m.le; omega) h0
   · by_cases e2 : j = p
     · rw [e2,ins_at m.le,ins_lt m.le (by omega)]; exact m.lo _ (by omega)
     · rw [ins_gt m.le (show p < j by omega)]
       by_cases e3 : j - 1 = p
       · rw [e3,ins_at m.le]; exact m.hi p (Nat.le_refl _) (by omega)
       · rw [ins_gt m.le (show p < j - 1 by omega)]; exact hc.inc (j - 1) (by omega) (by omega)
def yv (p : Nat) (y : Nat→Int) : Nat→Int := fun j => if j < p then y j else if j = p then 0 else y (j - 1)
theorem dot_ins {l : List Int} {p : Nat} {v : Int} {y : Nat→Int} (hp : p≤l.length) : ∀ k,k≤l.length→(k≤p→dotF (insL l p v) (yv p y) k = dotF l y k)∧(p≤k→dotF (insL l p v) (yv p y) (k + 1) = dotF l y k)
 | 0,_ => by
   refine ⟨fun _ => rfl,fun h => ?_⟩
   obtain rfl : p = 0 := by omega
   simp [dotF,yv]
 | k + 1,hk => by
   obtain ⟨i1,i2⟩ := dot_ins (y := y) (v := v) hp k (by omega)
   have a : k + 1≤p→dotF (insL l p v) (yv p y) (k + 1) = dotF l y (k + 1) := fun h => by
     rw [dotF,dotF,i1 (by omega),ins_lt hp (by omega)]
     simp only [yv]
     rw [if_pos (by omega)]
   refine ⟨a,fun h => ?_⟩
   by_cases e : p = k + 1
   · have := a (by omega)
     rw [dotF,this]
     simp only [yv]
     rw [if_neg (by omega),if_pos e.symm,Int.mul_zero,Int.add_zero]
   · rw [dotF,i2 (by omega),ins_gt hp (by omega)]
     simp only [yv]
     rw [if_neg (by omega),if_neg (by omega)]; rfl
theorem pf_ins {p : Nat} {y : Nat→Int} : ∀ k,(k≤p→pf (yv p y) k = pf y k)∧(p≤k→pf (yv p y) (k + 1) = pf y k)
 | 0 => by
   refine ⟨fun _ => rfl,fun h => ?_⟩
   obtain rfl : p = 0 := by omega
   simp [pf,yv]
 | k + 1 => by
   obtain ⟨i1,i2⟩ := pf_ins (p := p) (y := y) k
   have a : k + 1≤p→pf (yv p y) (k + 1) = pf y (k + 1) := fun h => by
     rw [pf,pf,i1 (by omega)]
     simp only [yv]
     rw [if_pos (by omega)]
   refine ⟨a,fun h => ?_⟩
   by_cases e : p = k + 1
   · have := a (by omega)
     rw [pf,this]
     simp only [yv]
     rw [if_neg (by omega),if_pos e.symm,Int.add_zero]
   · rw [pf,i2 (by omega)]
     simp only [yv]
     rw [if_neg (by omega),if_neg (by omega)]; rfl
theorem can_ins {l : List Int} {p : Nat} {v : Int} (hc : Coins l) (m : Mid l p v) {x : Nat} (hx : x≤9999) (h : canB l x = true) : canB (insL l p v) x = true∧m5 (bF (insL l p v) x)≤m5 (bF l x) := by
 obtain ⟨y1,y2⟩ := ((best_is hc x hx).1 h).1
 have hX : isCh (insL l p v) x (yv p (bF l x)) := by
   refine ⟨fun j hj => ?_,?_⟩
   · rw [ins_len m.le] at hj
     simp only [yv]
     have := m.le
     split
     · exact y1 j (by omega)
     · split
       · omega
       · exact y1 (j - 1) (by omega)
   · rw [ins_len m.le,(dot_ins m.le l.length (Nat.le_refl _)).2 m.le,y2]
 obtain ⟨a,b⟩ := (best_is (coins_ins hc m) x hx).2 _ hX
 refine ⟨a,?_⟩
 rw [ins_len m.le,(pf_ins l.length).2 m.le] at b
 rw [best_m5 hc hx h]; exact b
theorem wv_mono {f g : Nat→Int} {v : Nat} (h : ∀ x,f x≤g x) : ∀ n x,wvF f v n x≤wvF g v n x
 | 0,x => h x
 | n + 1,x => by
   rw [wvF,wvF]
   have := h x
   split
   · have := wv_mono (v := v) h n (x - v)
     omega
   · exact this
theorem wy_ins {l : List Int} {p : Nat} {v : Int} (hc : Coins l) (m : Mid l p v) : ∀ k,k≤l.length→(k≤p→wyF (insL l p v) k = wyF l k)∧(p≤k→∀ x,wyF l k x≤wyF (insL l p v) (k + 1) x)
 | 0,_ => by
   refine ⟨fun _ => rfl,fun h x => ?_⟩
   have hp := pos1_of (coins_ins hc m)
   have hl := ins_len (v := v) m.le
   have := hp 0 (by omega)
   rw [wy_rec (by omega)]
   have h0 := wy_nn 1 (x - ((insL l p v).getD 0 0).toNat) (hp.le (by omega))
   have e : wyF (insL l p v) 0 x = wyF l 0 x := rfl
   rw [e]
   split
   · have : 0≤wyF (insL l p v) (0 + 1) (x - ((insL l p v).getD 0 0).toNat) := h0
     omega
   · omega
 | k + 1,hk => by
   obtain ⟨i1,i2⟩ := wy_ins hc m k (by omega)
   have hp := pos1_of (coins_ins hc m)
   have hl := ins_len (v := v) m.le
   have a : k + 1≤p→wyF (insL l p v) (k + 1) = wyF l (k + 1) := fun h => by
     funext x
     show wvF (wyF (insL l p v) k) _ x x = wvF (wyF l k) _ x x
     rw [i1 (by omega),ins_lt m.le (by omega)]
   refine ⟨a,fun h x => ?_⟩
   by_cases e : p = k + 1
   · have e1 := a (by omega)
     have := hp (k + 1) (by omega)
     have hr := wy_rec (l := insL l p v) (k := k + 1) (by omega) x
     rw [hr,e1]
     have h0 := wy_nn (k + 1 + 1) (x - ((insL l p v).getD (k + 1) 0).toNat) (hp.le (by omega))
     split <;> omega
   · show wvF (wyF l k) _ x x≤wvF (wyF (insL l p v) (k + 1)) _ x x
     rw [ins_gt m.le (by omega)]
     exact wv_mono (i2 (by omega)) x x
def cnF (l : List Int) : Nat→Int
 | 0 => 0
 | n + 1 => cnF l n + if canB l n = true then 0 else 1
def rcF (r : List Int) (F N : Nat) : Nat→Int
 | 0 => 0
 | j + 1 => rcF r F N j + (((min N (r.getD j 0).toNat + F - 1 - j) / F : Nat) : Int)
theorem div_q {F q t : Nat} (ht : t < F) : (F * q + t) / F = q := by
 rw [Nat.mul_add_div (by omega),Nat.div_eq_of_lt ht,Nat.add_zero]
theorem term_step {F N R k : Nat} (hk : k < F) : (min (N + 1) R + F - 1 - k) / F = (min N R + F - 1 - k) / F + if N % F = k∧N < R then 1 else 0 := by
 by_cases h : N < R
 · have hd := Nat.div_add_mod N F
   have hm := Nat.mod_lt N (show 0 < F by omega)
   rw [Nat.min_eq_left (by omega),Nat.min_eq_left (by omega)]
   have e1 : F * (N / F + 1) = F * (N / F) + F := Nat.mul_succ _ _
   by_cases c1 : N % F = k
   · rw [if_pos ⟨c1,h⟩,show N + 1 + F - 1 - k = F * (N / F + 1) + 0 by omega,show N + F - 1 - k = F * (N / F) + (F - 1) by omega,div_q (by omega),div_q (by omega)]
   · rw [if_neg (fun g => c1 g.1)]
     by_cases c2 : k < N % F
     · rw [show N + 1 + F - 1 - k = F * (N / F + 1) + (N % F - k) by omega,show N + F - 1 - k = F * (N / F + 1) + (N % F - 1 - k) by omega,div_q (by omega),div_q (by omega)]
     · rw [show N + 1 + F - 1 - k = F * (N / F) + (N % F + F - k) by omega,show N + F - 1 - k = F * (N / F) + (N % F + F - 1 - k) by omega,div_q (by omega),div_q (by omega),Nat.add_zero]
 · rw [if_neg (fun g => h g.2),Nat.min_eq_right (by omega),Nat.min_eq_right (by omega),Nat.add_zero]
theorem rc_step {r : List Int} {F N : Nat} : ∀ k,k≤F→rcF r F (N + 1) k = rcF r F N k + if N % F < k∧N < (r.getD (N % F) 0).toNat then 1 else 0
 | 0,_ => by rw [if_neg (fun g => Nat.not_lt_zero _ g.1)]; rfl
 | k + 1,hk => by
   rw [rcF,rcF,rc_step k (by omega),term_step (by omega)]
   by_cases h : N < (r.getD (N % F) 0).toNat
   · by_cases c : N % F = k
     · have h' : N < (r.getD k 0).toNat := by rw [c] at h; exact h
       rw [if_neg (show ¬ (N % F < k∧N < (r.getD (N % F) 0).toNat) from fun g => absurd g.1 (by omega)),if_pos (show N % F = k∧N < (r.getD k 0).toNat from ⟨c,h'⟩),if_pos (show N % F < k + 1∧N < (r.getD (N % F) 0).toNat from ⟨by omega,h⟩)]; omega
     · rw [if_neg (show ¬ (N % F = k∧N < (r.getD k 0).toNat) from fun g => c g.1)]
       by_cases c2 : N % F < k
       · rw [if_pos (show N % F < k∧N < (r.getD (N % F) 0).toNat from ⟨c2,h⟩),if_pos (show N % F < k + 1∧N < (r.getD (N % F) 0).toNat from ⟨by omega,h⟩)]; omega
       · rw [if_neg (show ¬ (N % F < k∧N < (r.getD (N % F) 0).toNat) from fun g => c2 g.1),if_neg (show ¬ (N % F < k + 1∧N < (r.getD (N % F) 0).toNat) from fun g => absurd g.1 (by omega))]; omega
   · rw [if_neg (show ¬ (N % F < k∧N < (r.getD (N % F) 0).toNat) from fun g => h g.2),if_neg (show ¬ (N % F = k∧N < (r.getD k 0).toNat) from fun g => h (by rw [g.1]; exact g.2)),if_neg (show ¬ (N % F < k + 1∧N < (r.getD (N % F) 0).toNat) from fun g => h g.2)]; omega
theorem mn_cnt {l : List Int} (hc : Coins l) (h : mnE l = 0) : mnV l = cnF l 2600 := by
 have hf := fst_rng hc
 have h0 : ¬ errC l ≠ 0 := fun h => h (errC_ok.2 hc)
 have hlen : (resF l).length = (fstF l).toNat := res_len
 obtain ⟨F,hF⟩ := Int.eq_ofNat_of_zero_le (show 0≤fstF l by omega)
 have hFN : (fstF l).toNat = F := by rw [hF]; rfl
 have hx : (resF l).contains (-1) = false := by
   cases hx : (resF l).contains (-1) with
   | false => rfl
   | true => rw [mnE,if_neg h0,hx] at h; cases h
 have hr : ∀ j,j < F→0≤(resF l).getD j 0∧(resF l).getD j 0≤2501 := fun j hj => by
   have := res_bd hc (j := j) (by omega)
   have := not_cont hx (j := j) (by omega)
   omega
 have hA : ∀ N,N≤2600→cnF l N = rcF (resF l) F N F := by
   intro N
   induction N with
   | zero =>
     intro _
     have z : ∀ k,k≤F→rcF (resF l) F 0 k = 0 := by
       intro k
       induction k with
       | zero => intro _; rfl
       | succ k ih =>
         intro hk
         rw [rcF,ih (by omega),Nat.min_eq_left (Nat.zero_le _),Nat.div_eq_of_lt (by omega)]; rfl
     rw [z F (Nat.le_refl _)]; rfl
   | succ N ih =>
     intro hN
     have hj : N % F < F := Nat.mod_lt _ (by omega)
     have hrj := hr _ hj
     have := (res_yes hc (j := N % F) (by omega) hrj.1).2 N (by omega) (by rw [hFN])
     rw [cnF,ih (by omega),rc_step F (Nat.le_refl _),this]
     by_cases c : (resF l).getD (N % F) 0≤N
     · rw [if_pos (decide_eq_true c),if_neg (fun g => by omega)]
     · rw [if_neg (fun g => c (of_decide_eq_true g)),if_pos ⟨hj,by omega⟩]
 rw [hA 2600 (Nat.le_refl _),mnV,if_pos h,hlen,hFN,hF]
 have hB : ∀ k,k≤F→smF (resF l) (F : Int) k = rcF (resF l) F 2600 k := by
   intro k
   induction k with
   | zero => intro _; rfl
   | succ k ih =>
     intro hk
     have hrk := hr k (by omega)
     have hm := (res_yes hc (j := k) (by omega) hrk.1).1
     obtain ⟨R,hR⟩ := Int.eq_ofNat_of_zero_le hrk.1
     rw [hR,hFN] at hm
     have hm : R % F = k := hm
     have hd := Nat.div_add_mod R F
     rw [smF,rcF,ih (by omega),hR,tdivM]
     congr 2
     show R / F = (min 2600 R + F - 1 - k) / F
     rw [Nat.min_eq_right (by omega),show R + F - 1 - k = F * (R / F) + (F - 1) by omega,div_q (by omega)]
 exact hB F (Nat.le_refl _)
theorem cn_mono {l m : List Int} : ∀ n,(∀ x,x < n→canB l x = true→canB m x = true)→cnF m n≤cnF l n
 | 0,_ => Int.le_refl _
 | n + 1,h => by
   have h1 := cn_mono n fun x hx => h x (by omega)
   have h2 := h n (by omega)
   rw [cnF,cnF]
   split <;> split <;> first | omega | (rename_i a b; exact absurd (h2 b) a)
theorem mnE_dec (l : List Int) (hc : Coins l) : mnE l = 0∨mnE l = 4 := by
 rw [mnE,if_neg (fun h => h (errC_ok.2 hc))]
 cases (resF l).contains (-1)
 · exact .inl rfl
 · exact .inr rfl
theorem many_ins {l : List Int} {p : Nat} {v : Int} (hc : Coins l) (m : Mid l p v) (h : mnE l = 0) : mnE (insL l p v) = 0∧mnV (insL l p v)≤mnV l := by
 have hX := coins_ins hc m
 have hf := fst_rng hc
 have hg := fst_rng hX
 have h0 : ¬ errC l ≠ 0 := fun h => h (errC_ok.2 hc)
 have h0' : ¬ errC (insL l p v) ≠ 0 := fun h => h (errC_ok.2 hX)
 have hlen : (resF l).length = (fstF l).toNat := res_len
 have hlen' : (resF (insL l p v)).length = (fstF (insL l p v)).toNat := res_len
 have hx : (resF l).contains (-1) = false := by
   cases hx : (resF l).contains (-1) with
   | false => rfl
   | true => rw [mnE,if_neg h0,hx] at h; cases h
 have big : ∀ x : Nat,2501≤x→x≤9999→canB l x = true := fun x h1 h2 => by
   have hj : x % (fstF l).toNat < (fstF l).toNat := Nat.mod_lt _ (by omega)
   have hb := res_bd hc (j := x % (fstF l).toNat) (by omega)
   have hn := not_cont hx (j := x % (fstF l).toNat) (by omega)
   rw [(res_yes hc hj (by omega)).2 x h2 rfl]
   exact decide_eq_true (by omega)
 have hE : mnE (insL l p v) = 0 := by
   rw [mnE,if_neg h0']
   cases hy : (resF (insL l p v)).contains (-1) with
   | false => rfl
   | true =>
     exfalso
     rw [List.contains_iff_mem] at hy
     obtain ⟨j,h3,h4⟩ := List.getElem_of_mem hy
     have e : (resF (insL l p v)).getD j 0 = -1 := by rw [List.getD_eq_getElem?_getD,List.getElem?_eq_getElem h3,h4]; rfl
     obtain ⟨F,hF⟩ := Int.eq_ofNat_of_zero_le (show 0≤fstF (insL l p v) by omega)
     have hFN : (fstF (insL l p v)).toNat = F := by rw [hF]; rfl
     have hjF : j < F := by omega
     have hF1 : 1≤F∧F≤50 := by omega
     have hd := Nat.div_add_mod 2501 F
     have hm := Nat.mod_lt 2501 (show 0 < F by omega)
     have e1 : F * (2501 / F + 1) = F * (2501 / F) + F := Nat.mul_succ _ _
     have hz2 : (F * (2501 / F + 1) + j) % F = j := by rw [Nat.mul_add_mod,Nat.mod_eq_of_lt hjF]
     have hb := big (F * (2501 / F + 1) + j) (by omega) (by omega)
     have := res_no hX (j := j) (by omega) (by omega) (x := F * (2501 / F + 1) + j) (by omega) (by rw [hFN]; exact hz2)
     rw [(can_ins hc m (by omega) hb).1] at this
     cases this
 refine ⟨hE,?_⟩
 rw [mn_cnt hX hE,mn_cnt hc h]
 exact cn_mono 2600 fun x hx h => (can_ins hc m (by omega) h).1
end Go.Pier.Fl
