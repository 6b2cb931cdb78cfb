import Derived.Test.YtbehncpoppoglaaPierKP4
import Derived.Test.YtbehncpoppoglaaPierFlwk
import Derived.KernelRfl
import Derived.Test.YtbehncpoppoglaaPierKP2
set_option linter.unusedSimpArgs false
set_option linter.unusedVariables false
set_option maxRecDepth 100000
namespace Go.Pier.Fl
open Go Go.Pier Go.Proofs
noncomputable def atB : Code := Try.f50.body.getD .skip
def amt (w : Int) : Int := w % 301
noncomputable def atV :=
fun (w:Int)↦Ob ((301:Int)≠(0:Int))∧True∧Ob (vi ((IntKind.i64.wrap w).tmod (301:Int))=vi (amt w))
theorem atV_eq : atV = fun (w : Int) => vc Try.prog {} 0 6 true (fun _ => none) atB [] (argFr 0 [.int .u16 w]) [] (retK Try.prog Try.f50 (fun v _ => v = vi (amt w))) := by kernel_rfl
def atS (r : List Arg) : Prop × Value := match r with
 | [.plain (.int .u16 w)] => (0≤w∧w < 65536,vi (amt w))
 | _ => (False,undef)
def worksS (r : List Arg) : Prop × Value := match r with | [] => (True,.bool true) | _ => (False,undef)
def isTrue (v : Value) (_ : Heap) : Prop := v = .bool true
theorem atV_ok (w : Int) (h : 0≤w∧w < 65536) : atV w := by
 unfold atV
 simp only [SS,reduceCtorEq,Arg.list,Arg.num,Arg.flag,intOf,andP,Nat.reduceLeDiff,Nat.reduceAdd,Nat.reduceMul,Nat.reduceLT]
 rw [wrap_in (by omega) (by omega),Int.tmod_eq_emod_of_nonneg h.1]
 exact ⟨by decide,rfl⟩
theorem amt_rng (w : Int) : 0≤amt w∧amt w≤300 := by unfold amt; omega
theorem few_val {l : List Int} (hc : Coins l) {a : Int} (ha : 0≤a∧a≤300) : fewF l a = if canB l a.toNat = true then m5 (bF l a.toNat) else 0 := by
 have h0 : errA l a = 0 := errA_0.2 ⟨errC_ok.2 hc,ha⟩
 cases hx : canB l a.toNat with
 | true => rw [if_pos rfl,fewF_ok (errN_0 h0 hx)]
 | false => rw [if_neg Bool.false_ne_true,fewF_no (by rw [errN_5 h0 hx]; decide)]
theorem few_bd {l : List Int} (hc : Coins l) {a : Int} (ha : 0≤a∧a≤300) : 0≤fewF l a∧fewF l a≤300 := by
 have h0 : errA l a = 0 := errA_0.2 ⟨errC_ok.2 hc,ha⟩
 cases hx : canB l a.toNat with
 | true => exact (best_fact hc ha (errN_0 h0 hx)).2.2.2.2
 | false => rw [fewF_no (by rw [errN_5 h0 hx]; decide)]; omega
theorem worksG_ok : ∀ args H φ v H' l,pureG [] worksS args H = some (φ,v,H',l)→Asks φ→Call Try.prog 19 args H (fun v' H2 => v' = v∧H2 = H')∧Kept H H' l :=
 closedG_ok (works_ok.call.mono fun v H h => h.1) rfl
theorem atG_ok : ∀ args H φ v H' l,pureG [.int .u16] atS args H = some (φ,v,H',l)→Asks φ→Call Try.prog 50 args H (fun v' H2 => v' = v∧H2 = H')∧Kept H H' l :=
 pureG_ok fun r hk hs => match r,hk with
   | [_],⟨⟨w,ha⟩,_⟩ => by
     subst ha
     exact ⟨rfl,fun caps => Call.ofVc E0_ok mixed (c := atB) (inv := fun _ => none) Try.func50 (by kernel_rfl) (cast (congrFun atV_eq w) (atV_ok w hs))⟩
theorem u16_wfA {n : Int} (h : (Lit.int .u16 n).wf = true) : 0≤n∧n < 65536 := by
 simp only [Lit.wf,Bool.and_eq_true,decide_eq_true_eq] at h
 have h1 : IntKind.u16.min = 0 := rfl
 have h2 : IntKind.u16.max = 65535 := rfl
 rw [h1,h2] at h
 omega
end Go.Pier.Fl
namespace Go.Pier.Fl
open Go Go.Pier Go.Proofs
theorem add_coin {l : List Int} (hc : Coins l) {k : Nat} (hk : k < l.length) {y : Nat} (hy : y + (l.getD k 0).toNat≤9999) (h : canB l y = true) : canB l (y + (l.getD k 0).toNat) = true := by
 have hr := coin_rng hc hk
 obtain ⟨p,q⟩ := ((best_is hc y (by omega)).1 h).1
 refine ((best_is hc _ hy).2 (up (bF l y) k 1) ⟨fun j hj => ?_,?_⟩).1
 · have := p j hj
   unfold up
   split <;> omega
 · rw [dot_up,q,if_pos hk]; omega
theorem sub_coin {l : List Int} (hc : Coins l) {x : Nat} (hx : 0 < x) (hx9 : x≤9999) (h : canB l x = true) : ∃ k,k < l.length∧(l.getD k 0).toNat≤x∧canB l (x - (l.getD k 0).toNat) = true := by
 obtain ⟨p,q⟩ := ((best_is hc x hx9).1 h).1
 obtain ⟨k,hk,hp⟩ := dot_pos (l := l) l.length (fun j hj => ⟨by have := coin_rng hc hj; omega,p j hj⟩) (by rw [q]; omega)
 have hr := coin_rng hc hk
 have hz : isCh l (x - l.getD k 0) (up (bF l x) k (-1)) := ⟨fun j hj => by
   have := p j hj
   unfold up
   split
   · rename_i e
     rw [e]; omega
   · omega,by rw [dot_up,q,if_pos hk]; omega⟩
 have h0 := dot_nonneg (l := l) l.length (fun j hj => ⟨by have := coin_rng hc hj; omega,hz.1 j hj⟩)
 rw [hz.2] at h0
 refine ⟨k,hk,by omega,((best_is hc _ (by omega)).2 (up (bF l x) k (-1)) ?_).1⟩
 have e : ((x - (l.getD k 0).toNat : Nat) : Int) = x - l.getD k 0 := by omega
 rw [e]; exact hz
end Go.Pier.Fl
namespace Go.Pier.Fl
open Go Go.Pier Go.Proofs
def nwF (r l : List Int) (a : Nat) : Nat→Int
 | 0 => -1
 | i + 1 => if l.getD i 0 > a then nwF r l a i else if r.getD ((a : Int) - l.getD i 0).toNat 0 < 0 then nwF r l a i else if nwF r l a i < 0 then r.getD ((a : Int) - l.getD i 0).toNat 0 + 1 else if r.getD ((a : Int) - l.getD i 0).toNat 0 + 1 < nwF r l a i then r.getD ((a : Int) - l.getD i 0).toNat 0 + 1 else nwF r l a i
def fR (l : List Int) : Nat→List Int
 | 0 => [0]
 | a + 1 => fR l a ++ [nwF (fR l a) l (a + 1) l.length]
theorem fR_len {l : List Int} : ∀ a,(fR l a).length = a + 1
 | 0 => rfl
 | a + 1 => by rw [fR,List.length_append,fR_len a]; rfl
theorem add_few {l : List Int} (hc : Coins l) {k : Nat} (hk : k < l.length) {y : Nat} (hy : y + (l.getD k 0).toNat≤9999) (h : canB l y = true) : m5 (bF l (y + (l.getD k 0).toNat))≤m5 (bF l y) + 1 := by
 have hr := coin_rng hc hk
 obtain ⟨p,q⟩ := ((best_is hc y (by omega)).1 h).1
 have := ((best_is hc _ hy).2 (up (bF l y) k 1) ⟨fun j hj => by
   have := p j hj
   unfold up
   split <;> omega,by rw [dot_up,q,if_pos hk]; omega⟩).2
 rw [pf_up,if_pos hk,← best_m5 hc (by omega) h] at this
 exact this
theorem sub_few {l : List Int} (hc : Coins l) {x : Nat} (hx : 0 < x) (hx9 : x≤9999) (h : canB l x = true) : ∃ k,k < l.length∧(l.getD k 0).toNat≤x∧canB l (x - (l.getD k 0).toNat) = true∧m5 (bF l (x - (l.getD k 0).toNat)) + 1≤m5 (bF l x) := by
 obtain ⟨p,q⟩ := ((best_is hc x hx9).1 h).1
 obtain ⟨k,hk,hp⟩ := dot_pos (l := l) l.length (fun j hj => ⟨by have := coin_rng hc hj; omega,p j hj⟩) (by rw [q]; omega)
 have hr := coin_rng hc hk
 have hz : isCh l (x - l.getD k 0) (up (bF l x) k (-1)) := ⟨fun j hj => by
   have := p j hj
   unfold up
   split
   · rename_i e
     rw [e]; omega
   · omega,by rw [dot_up,q,if_pos hk]; omega⟩
 have h0 := dot_nonneg (l := l) l.length (fun j hj => ⟨by have := coin_rng hc hj; omega,hz.1 j hj⟩)
 rw [hz.2] at h0
 have e : ((x - (l.getD k 0).toNat : Nat) : Int) = x - l.getD k 0 := by omega
 have hb := (best_is hc (x - (l.getD k 0).toNat) (by omega)).2 (up (bF l x) k (-1)) (by rw [e]; exact hz)
 rw [pf_up,if_pos hk,← best_m5 hc hx9 h] at hb
 exact ⟨k,hk,by omega,hb.1,by omega⟩
def fvA (l : List Int) (b : Nat) : Int := if canB l b = true then m5 (bF l b) else -1
theorem m5_pos {l : List Int} (hc : Coins l) {b : Nat} (hb : b≤9999) (h : canB l b = true) : 0≤m5 (bF l b) := by
 rw [best_m5 hc hb h]
 obtain ⟨p,_⟩ := ((best_is hc b hb).1 h).1
 have : ∀ n,n≤l.length→0≤pf (bF l b) n := fun n => by
   induction n with
   | zero => intro _; exact Int.le_refl _
   | succ n ih =>
     intro hn
     have := ih (by omega)
     have := p n (by omega)
     rw [pf]; omega
 exact this _ (Nat.le_refl _)
theorem nw_val {l r : List Int} (hc : Coins l) {a : Nat} (ha9 : a≤9999) (h : ∀ b,b < a→r.getD b 0 = fvA l b) : ∀ i,i≤l.length →
   (nwF r l a i = -1∧∀ k,k < i→(l.getD k 0).toNat≤a→canB l (a - (l.getD k 0).toNat) = false) ∨
   ((∃ k,k < i∧(l.getD k 0).toNat≤a∧canB l (a - (l.getD k 0).toNat) = true∧nwF r l a i = m5 (bF l (a - (l.getD k 0).toNat)) + 1)∧∀ k,k < i→(l.getD k 0).toNat≤a→canB l (a - (l.getD k 0).toNat) = true→nwF r l a i≤m5 (bF l (a - (l.getD k 0).toNat)) + 1)
 | 0,_ => .inl ⟨rfl,fun k hk => by omega⟩
 | i + 1,hi => by
   have cr := coin_rng hc (j := i) (by omega)
   have ih := nw_val hc ha9 h i (by omega)
   have ext : ∀ {P : Nat→Prop},(∀ k,k < i→P k)→P i→∀ k,k < i + 1→P k := fun h1 h2 k hk => by
     by_cases e : k = i
     · rw [e]; exact h2
     · exact h1 k (by omega)
   rw [nwF]
   by_cases h1 : l.getD i 0 > a
   · rw [if_pos h1]
     rcases ih with ⟨i1,i2⟩ | ⟨⟨k,k1,k2⟩,i2⟩
     · exact .inl ⟨i1,ext i2 fun h2 => by omega⟩
     · exact .inr ⟨⟨k,by omega,k2⟩,ext i2 fun h2 => by omega⟩
   · have e : ((a : Int) - l.getD i 0).toNat = a - (l.getD i 0).toNat := by omega
     rw [if_neg h1,e,h _ (by omega)]
     unfold fvA
     cases hb : canB l (a - (l.getD i 0).toNat) with
     | false =>
       rw [if_neg Bool.false_ne_true,if_pos (by decide)]
       rcases ih with ⟨i1,i2⟩ | ⟨⟨k,k1,k2⟩,i2⟩
       · exact .inl ⟨i1,ext i2 fun _ => hb⟩
       · exact .inr ⟨⟨k,by omega,k2⟩,ext i2 fun _ h2 => by rw [hb] at h2; cases h2⟩
     | true =>
       have hp := m5_pos hc (b := a - (l.getD i 0).toNat) (by omega) hb
       rw [if_pos rfl,if_neg (by omega)]
       rcases ih with ⟨i1,i2⟩ | ⟨⟨k,k1,k2,k3,k4⟩,i2⟩
       · rw [i1,if_pos (by decide)]
         exact .inr ⟨⟨i,by omega,by omega,hb,rfl⟩,ext (fun k hk h2 h3 => by rw [i2 k hk h2] at h3; cases h3) fun _ _ => Int.le_refl _⟩
       · have hq := m5_pos hc (b := a - (l.getD k 0).toNat) (by omega) k3
         rw [if_neg (show ¬ nwF r l a i < 0 by omega)]
         by_cases h5 : m5 (bF l (a - (l.getD i 0).toNat)) + 1 < nwF r l a i
         · rw [if_pos h5]
           exact .inr ⟨⟨i,by omega,by omega,hb,rfl⟩,ext (fun k hk h2 h3 => by have := i2 k hk h2 h3; omega) fun _ _ => Int.le_refl _⟩
         · rw [if_neg h5]
           exact .inr ⟨⟨k,by omega,k2,k3,k4⟩,ext i2 fun _ _ => by omega⟩
theorem nw_few {l r : List Int} (hc : Coins l) {a : Nat} (ha : 0 < a) (ha9 : a≤9999) (h : ∀ b,b < a→r.getD b 0 = fvA l b) : nwF r l a l.length = fvA l a := by
 unfold fvA
 rcases nw_val hc ha9 h l.length (Nat.le_refl _) with ⟨i1,i2⟩ | ⟨⟨k,k1,k2,k3,k4⟩,i2⟩
 · cases hb : canB l a with
   | false => rw [i1,if_neg Bool.false_ne_true]
   | true =>
     obtain ⟨k,k1,k2,k3⟩ := sub_coin hc ha ha9 hb
     rw [i2 k k1 k2] at k3; cases k3
 · have h1 := add_coin hc k1 (y := a - (l.getD k 0).toNat) (by omega) k3
   have h2 := add_few hc k1 (y := a - (l.getD k 0).toNat) (by omega) k3
   rw [show a - (l.getD k 0).toNat + (l.getD k 0).toNat = a by omega] at h1 h2
   obtain ⟨j,j1,j2,j3,j4⟩ := sub_few hc ha ha9 h1
   have := i2 j j1 j2 j3
   rw [if_pos h1]; omega
theorem fR_get {l : List Int} (hc : Coins l) : ∀ a,a≤9999→∀ b,b < a + 1→(fR l a).getD b 0 = fvA l b
 | 0,_,b,hb => by
   obtain rfl : b = 0 := by omega
   have h00 : canB l 0 = true := rfl
   have hz := (best_is hc 0 (by omega)).2 (fun _ => 0) ⟨fun _ _ => Int.le_refl _,by
     have : ∀ n,dotF l (fun _ => 0) n = 0 := fun n => by
       induction n with
       | zero => rfl
       | succ n ih => rw [dotF,ih]; simp
     exact this _⟩
   have hpz : ∀ n,pf (fun _ => (0 : Int)) n = 0 := fun n => by
     induction n with
     | zero => rfl
     | succ n ih => rw [pf,ih]; rfl
   rw [hpz] at hz
   have := m5_pos hc (b := 0) (by omega) h00
   unfold fvA
   rw [if_pos h00]
   show (0 : Int) = _
   omega
 | a + 1,ha,b,hb => by
   rw [fR,List.getD_eq_getElem?_getD]
   by_cases e : b < a + 1
   · rw [List.getElem?_append_left (by rw [fR_len]; omega),← List.getD_eq_getElem?_getD]
     exact fR_get hc a (by omega) b e
   · obtain rfl : b = a + 1 := by omega
     rw [List.getElem?_append_right (by rw [fR_len]; omega),fR_len,Nat.sub_self]
     exact nw_few hc (by omega) ha fun b hb => fR_get hc a (by omega) b hb
theorem fvA_bd {l : List Int} (hc : Coins l) {b : Nat} (hb : b≤300) : -1≤fvA l b∧fvA l b≤300 := by
 have h := few_bd hc (a := (b : Int)) (by omega)
 have h2 := few_val hc (a := (b : Int)) (by omega)
 rw [Int.toNat_natCast] at h2
 unfold fvA
 cases hx : canB l b with
 | false => rw [if_neg Bool.false_ne_true]; omega
 | true => rw [hx,if_pos rfl] at h2; rw [if_pos rfl]; omega
end Go.Pier.Fl
namespace Go.Pier
open Go
variable {P : Program} {H H' : Heap}
end Go.Pier
namespace Go.Pier
open Go
variable {P : Program} {H H' : Heap}
def arrRoom (P : Program) (t : TypeId) (x : Value) (hi mx : Value) : Option (Prop × Value) :=
 match P.underlying t,x with
 | some (.array n elem),.pointer (some a) => match sizeT P elem,symBnd mx n with
   | some _,some (φ,m) => match symBnd hi m with
     | some (ψ,h) => some (φ∧ψ,.slice (some ⟨a.block,a.off,none⟩) h m)
     | none => none
   | _,_ => none
 | _,_ => none
def orcRm (P : Program) : Orc := fun env H o => match o.op with
 | .slice t x lo hi mx => match env x,envs env lo.toList,envs env hi.toList,envs env mx.toList with
   | some v,some [],some [u],some [m] => match arrRoom P t v u m with
     | some (φ,r) => some (φ,some r,H)
     | none => none
   | _,_,_,_ => none
 | _ => none
theorem orcRm_ok : OrcOk P (orcRm P) := fun env H o φ v H' h hφ => by
 unfold orcRm at h
 split at h <;> try (cases h; done)
 rename_i t x lo hi mx hop
 split at h <;> try (cases h; done)
 rename_i vv u m h1 h2 h3 h4
 split at h <;> cases h
 rename_i r hr
 unfold evOp
 rw [hop]
 simp only [h1,h2,h3,h4,Option.bind_some]
 have : aSlice P H t vv ([] : List Value).head? [u].head? [m].head? = some r := by
   unfold arrRoom at hr
   split at hr <;> try (cases hr; done)
   rename_i n elem a hu
   split at hr <;> try (cases hr; done)
   rename_i s ψ1 k1 hs hb
   split at hr <;> cases hr
   rename_i ψ2 k2 hb2
   obtain ⟨f1,f2⟩ := hφ
   refine aSlice_of0 ?_
   unfold aSlice0
   rw [hu]
   simp only [List.head?_cons,List.head?_nil,aBounds,symBnd_sound hb f1,symBnd_sound hb2 f2,Option.bind_some,hs,Option.map_some,Option.getD_some]
   have e : (if k1 = 0 then base a else (base a).add (0 * s)) = base a := by rw [add_zero_mul]; exact ite_self _
   rw [e]; rfl
 rw [this]; rfl
end Go.Pier
namespace Go.Pier.Fl
open Go Go.Pier Go.Proofs
def fillI (t : List Int) (n : Nat) : Nat→List Int
 | 0 => t
 | d + 1 => (fillI t n d).set (n + d) 1000
noncomputable def utE : VEnv := { orc := orcAp Try.prog }
noncomputable def utB : Code := Try.f97.body.getD .skip
def utI (t : List Int) (n cp : Nat) (am : Int) : Nat→Option LInv := invOf 0 (LInv.one Nat (fun d => d≤am.toNat - n) (fun d => [(0,.slice (some ⟨0,0,none⟩) (n + d) cp),(1,vi am)]) (fun d => [.rw ((fillI t n d).map (.int .i64)) none]) (fun d => am.toNat - n - d))
noncomputable def utV0  := (Value.int IntKind.i64)
noncomputable def utV :=
fun (t:List Int) (n cp:Nat) (am:Int)↦(∃ (y:Nat),Ob (y≤am.toNat-n)∧(Ob (AObj.rw (List.map utV0 t) none=AObj.rw (List.map (nmap1 fun (b:Nat)↦b) (List.map utV0 (fillI t n y))) none∧AObj.sc 1 (AObj.rw (List.map utV0 (fillI t n y)) none)=true)∧True)∧Ob (Value.slice (some (ad0 0)) n cp=Value.slice (some (ad0 0)) (n+y) cp)∧Ob (am=am)∧True)∧∀ (x:Nat),Ob (x≤am.toNat-n)→(decide ((↑(n+x):Int)<am)=true→Ob (andP (some (0+1≤1∧true=true)) (n+x+1≤1099511627776∧(2 * (n+x+1)+256) * 8≤281474976710656∧1=1∧1=1∧n+x+1≤cp∧0<1∧0+(n+x) * 1+1≤(List.map utV0 (fillI t n x)).length∧true=true))∧∃ (y:Nat),Ob (y≤am.toNat-n)∧Ob (am.toNat-n-y<am.toNat-n-x)∧(Ob (AObj.rw (putL (List.map utV0 (fillI t n x)) (0+(n+x) * 1) [vi (1000:Int)]) none=AObj.rw (List.map (nmap1 fun (b:Nat)↦b) (List.map utV0 (fillI t n y))) none∧AObj.sc 1 (AObj.rw (List.map utV0 (fillI t n y)) none)=true)∧True)∧Ob (Value.slice (some (ad0 0)) (n+x+1) cp=Value.slice (some (ad0 0)) (n+y) cp)∧Ob (am=am)∧True)∧(decide ((↑(n+x):Int)<am)=false→(Ob (AObj.rw (List.map utV0 (fillI t n x)) none=AObj.rw (List.map (nmap1 fun (b:Nat)↦b) (List.map utV0 (fillI t n (am.toNat-n)))) none∧AObj.sc 1 (AObj.rw (List.map utV0 (fillI t n (am.toNat-n))) none)=true)∧True)∧Ob (Value.slice (some (ad0 0)) (n+x) cp=Value.slice (some (ad0 0)) (n+(am.toNat-n)) cp)∧True)
theorem fill_len {t : List Int} {n : Nat} : ∀ d,(fillI t n d).length = t.length
 | 0 => rfl
 | d + 1 => by rw [fillI,List.length_set,fill_len d]
theorem utV_ok (t : List Int) (n cp : Nat) (am : Int) (h : n≤cp∧0≤am∧am≤cp∧cp≤t.length∧cp≤1000) : utV t n cp am := by
 unfold utV utV0
 simp only [SS,reduceCtorEq,Arg.list,Arg.num,Arg.flag,intOf,andP,Nat.reduceLeDiff,Nat.reduceAdd,Nat.reduceMul,Nat.reduceLT]
 obtain ⟨h1,h2,h3,h4,h5⟩ := h
 refine ⟨⟨0,by omega,rfl,rfl⟩,fun x hx => ⟨fun h => ⟨⟨by omega,by omega,by omega,by rw [fill_len]; omega⟩,x + 1,by omega,by omega,by rw [putL_int]; rfl,rfl⟩,fun h => ?_⟩⟩
 have e : x = am.toNat - n := by omega
 rw [e]; exact ⟨rfl,rfl⟩
theorem utE_ok : VOk Try.prog utE := ⟨CtOk.none,E0_ok.cc,E0_ok.yc,orcAp_ok⟩
theorem ut_call (t : List Int) (n cp : Nat) (am : Int) (h : n≤cp∧0≤am∧am≤cp∧cp≤t.length∧cp≤1000) : Call Try.prog 97 [.slice (some ⟨0,0,none⟩) n cp,vi am] [.rw (t.map (.int .i64)) none] fun v H' => v = .slice (some ⟨0,0,none⟩) (n + (am.toNat - n)) cp∧H' = [.rw ((fillI t n (am.toNat - n)).map (.int .i64)) none] ++ [] :=
 (Call.ofVcR (E := utE) (H := [.rw (t.map (.int .i64)) none]) (args := [.slice (some ⟨0,0,none⟩) n cp,vi am]) (σ := fun b => b) (v2 := .slice (some ⟨0,0,none⟩) (n + (am.toNat - n)) cp) (H2 := [.rw ((fillI t n (am.toNat - n)).map (.int .i64)) none]) utE_ok mixed (c := utB) (inv := utI t n cp am) Try.func97 (by kernel_rfl) (cast (by kernel_rfl) (utV_ok t n cp am h))).mono fun v H h => ⟨h.1,by rw [h.2,List.append_nil]⟩
noncomputable def utCt : List Value→Heap→Option (Option Prop × Value × Heap × List Nat) := fun args H => match args with
 | [.slice (some ⟨b,0,none⟩) n cp,.int .i64 am] => match H[b]? with
   | some (.rw cs none) => some (some (cs = (intsOf cs).map (.int .i64)∧n≤cp∧0≤am∧am≤cp∧cp≤(intsOf cs).length∧cp≤1000),.slice (some ⟨b,0,none⟩) (n + (am.toNat - n)) cp,H.set b (.rw ((fillI (intsOf cs) n (am.toNat - n)).map (.int .i64)) none),[b])
   | _ => none
 | _ => none
theorem utCt_ok : ∀ args H φ v H' k,utCt args H = some (φ,v,H',k)→Asks φ→Call Try.prog 97 args H (fun v' H2 => v' = v∧H2 = H')∧Kept H H' k := fun args H φ v H' k h hφ => by
 unfold utCt at h
 split at h <;> try (cases h; done)
 rename_i b n cp am
 split at h <;> cases h
 rename_i cs h0
 obtain ⟨k0,k1⟩ := hφ
 have hlt : b < H.length := (List.getElem?_eq_some_iff.1 h0).1
 have hcall := ut_call (intsOf cs) n cp am k1
 have e0 : nameL [b] 1 H.length 0 = b := by simp [nameL]
 have := Call.frameG (P := Try.prog) (f := 97) (Et := [.rw ((intsOf cs).map (.int .i64)) none]) (Ft := [.rw ((fillI (intsOf cs) n (am.toNat - n)).map (.int .i64)) none]) (N := []) (H := H) (L := [b]) (args := [.slice (some ⟨0,0,none⟩) n cp,vi am]) (vs := [.slice (some ⟨b,0,none⟩) n cp,vi am]) (v := .slice (some ⟨0,0,none⟩) (n + (am.toNat - n)) cp) rfl rfl (by simp) (fun x hx => by simp at hx; omega)
   (fun c o h => ?_) (fun o ho => by rw [List.mem_singleton.1 ho]; exact sc_ints) rfl (by simp [sc,sc2,sc1,sc0]) hcall (fun o ho => ?_) (fun o ho => by cases ho) (by simp [nm,nm2,nm1,nm0]) (fun o ho => ?_) (by simp [nmap,nmap2,nmap1,nmap0,Pier.am,e0,sc,sc2,sc1,sc0]; omega)
 · obtain ⟨t1,t2⟩ := this
   have hv : nmap (nameL [b] ([AObj.rw ((intsOf cs).map (.int .i64)) none] : Heap).length H.length) (.slice (some ⟨0,0,none⟩) (n + (am.toNat - n)) cp) = .slice (some ⟨b,0,none⟩) (n + (am.toNat - n)) cp := by
     show nmap (nameL [b] 1 H.length) _ = _
     simp [nmap,nmap2,nmap1,nmap0,Pier.am,e0]
   have hs : setG H [.rw ((intsOf cs).map (.int .i64)) none] [b] (([AObj.rw ((fillI (intsOf cs) n (am.toNat - n)).map (.int .i64)) none] : Heap).map (omap (nameL [b] ([AObj.rw ((intsOf cs).map (.int .i64)) none] : Heap).length H.length))) ++ ([] : Heap).map (omap (nameL [b] ([AObj.rw ((intsOf cs).map (.int .i64)) none] : Heap).length H.length)) = H.set b (.rw ((fillI (intsOf cs) n (am.toNat - n)).map (.int .i64)) none) := by
     rw [List.map_nil,List.append_nil,List.map_singleton,omap_ints]; rfl
   rw [hs] at t1 t2
   rw [hv] at t1
   exact ⟨t1,t2⟩
 · rcases c with _ | c
   · cases h
     refine .inr ?_
     show H[b]? = _
     rw [omap_ints,h0]
     exact congrArg (fun z => some (AObj.rw z none)) k0
   · simp at h
 · rw [List.append_nil] at ho
   rw [List.mem_singleton.1 ho]; exact nm_ints
 · rw [List.append_nil] at ho
   rw [List.mem_singleton.1 ho,omap_ints]; exact sc_ints
end Go.Pier.Fl
namespace Go.Pier.Fl
open Go Go.Pier Go.Proofs
noncomputable def hg_c0 : Code := ((Code.region (5 : Nat) { toList := [{ dst := some (8 : Nat),op := Op.assign (Operand.tmp (18 : Nat)),type := (2 : Nat),pos := "heights.go:30",after := { toList := [] },guard := none }] } false).seq (Code.region (6 : Nat) { toList := [{ dst := some (9 : Nat),op := Op.alloc (71 : Nat),type := (0 : Nat),pos := "heights.go:30",after := { toList := [] },guard := none },{ dst := none,op := Op.store (71 : Nat) (Operand.tmp (9 : Nat)) (Operand.tmp (19 : Nat)),type := (0 : Nat),pos := "heights.go:30",after := { toList := [{ on := (0 : Nat),ground := Ground.data },{ on := (0 : Nat),ground := Ground.phase }] },guard := none }] } false))
noncomputable def hg_c1 : Code := (Code.block (1 : Nat) (Code.region (7 : Nat) { toList := [{ dst := some (20 : Nat),op := Op.load (22 : Nat) (Operand.tmp (7 : Nat)),type := (22 : Nat),pos := "heights.go:31",after := { toList := [] },guard := none },{ dst := some (21 : Nat),op := Op.move (Operand.tmp (8 : Nat)),type := (2 : Nat),pos := "heights.go:31",after := { toList := [] },guard := none },{ dst := some (22 : Nat),op := Op.call { callee := Callee.value (Operand.func (97 : Nat)),args := { toList := [Operand.tmp (20 : Nat),Operand.tmp (21 : Nat)] },argTypes := { toList := [(22 : Nat),(2 : Nat)] } },type := (22 : Nat),pos := "heights.go:31",after := { toList := [{ on := (0 : Nat),ground := Ground.data },{ on := (1 : Nat),ground := Ground.data }] },guard := none },{ dst := some (23 : Nat),op := Op.load (71 : Nat) (Operand.tmp (9 : Nat)),type := (71 : Nat),pos := "heights.go:31",after := { toList := [] },guard := none },{ dst := some (24 : Nat),op := Op.call { callee := Callee.value (Operand.func (64 : Nat)),args := { toList := [Operand.tmp (23 : Nat)] },argTypes := { toList := [(71 : Nat)] } },type := (2 : Nat),pos := "heights.go:31",after := { toList := [{ on := (3 : Nat),ground := Ground.data },{ on := (2 : Nat),ground := Ground.chain }] },guard := none },{ dst := some (25 : Nat),op := Op.buildSlice (22 : Nat) (1 : Nat) { toList := [((0 : Nat),Operand.tmp (24 : Nat))] },type := (22 : Nat),pos := "heights.go:31",after := { toList := [{ on := (4 : Nat),ground := Ground.data }] },guard := none },{ dst := some (26 : Nat),op := Op.call { callee := Callee.builtin Builtin.append,args := { toList := [Operand.tmp (22 : Nat),Operand.tmp (25 : Nat)] },argTypes := { toList := [(22 : Nat),(22 : Nat)] } },type := (22 : Nat),pos := "heights.go:31",after := { toList := [{ on := (2 : Nat),ground := Ground.data },{ on := (5 : Nat),ground := Ground.data },{ on := (4 : Nat),ground := Ground.chain }] },guard := none },{ dst := none,op := Op.store (22 : Nat) (Operand.tmp (7 : Nat)) (Operand.tmp (26 : Nat)),type := (0 : Nat),pos := "heights.go:31",after := { toList := [{ on := (6 : Nat),ground := Ground.data },{ on := (6 : Nat),ground := Ground.chain },{ on := (0 : Nat),ground := Ground.phase },{ on := (1 : Nat),ground := Ground.phase },{ on := (2 : Nat),ground := Ground.phase },{ on := (3 : Nat),ground := Ground.phase },{ on := (4 : Nat),ground := Ground.phase },{ on := (5 : Nat),ground := Ground.phase },{ on := (6 : Nat),ground := Ground.phase }] },guard := none }] } true))
def hgF (l : List Int) : Nat→Nat
 | 0 => 0
 | a + 1 => bif canB l a then a + 1 else hgF l a
def rmL (l : List Int) : Nat→List Int
 | 0 => zer
 | a + 1 => bif canB l a then (fillI (rmL l a) (hgF l a) (a - hgF l a)).set a (m5 (bF l a)) else rmL l a
def hvF (l : List Int) (j : Nat) : Int := if canB l j = true then m5 (bF l j) else 1000
def hL (l : List Int) : Nat→List Int
 | 0 => [hvF l 0]
 | a + 1 => hL l a ++ [hvF l (a + 1)]
noncomputable def h0E : VEnv := { ct := (Ct.none.add 64 (pure3 [ps5] maS)).add 97 utCt,orc := orcAp Try.prog,ap := true }
noncomputable def hgE (l : List Int) (c : Nat) (zl : List Int) (am : Nat) : VEnv := { ct := Ct.none.add 97 utCt,cc := ccOr (ccIn Try.prog {} [⟨93,Try.f93,fun _ _ _ => none⟩]) (ccIn Try.prog (chE l c zl h0E) [⟨104,Try.f104,chI l am (fun a H => (H.set 2 (.rw ((rmL l a).map (.int .i64)) none)).set 3 (.rw [.slice (some ⟨2,0,none⟩) (hgF l a) (am + 1)] none)) (fun _ => True)⟩]),orc := orcOr (orcRm Try.prog) (orcCp Try.prog) }
noncomputable def hgB : Code := Try.f76.body.getD .skip
noncomputable def hgV0 (am:Nat):Array Value := ⟨[ptr0 1,vi (am:Int),junk,junk,Value.slice none 0 0,ptr0 2,vi (IntKind.i64.wrap ((am:Int)+(1:Int))),ptr0 3,junk,junk,junk,vi (am:Int),vi (IntKind.i64.wrap ((am:Int)+(1:Int))),vi (IntKind.i64.wrap ((am:Int)+(1:Int))),Value.slice (some (ad0 2)) 0 (IntKind.i64.wrap ((am:Int)+(1:Int))).toNat,ptr0 1,vi (am:Int),Value.func (Fn.func 104) ⟨[]⟩ ⟨[ptr0 5,ptr0 4]⟩,junk,junk,junk,junk,junk,junk,junk,junk,junk,junk,junk,junk,junk,junk,junk,junk,junk,junk,junk]⟩
noncomputable def hgV1 (l:List Int) (x:Nat × List MapEntry × Nat) := (bstF l (lookE uA x.snd.fst) (x.fst:Int) l.length)
noncomputable def hgV2 (l:List Int) (x:Nat × List MapEntry × Nat) := (putL (List.map (Value.int IntKind.i64) (fillI (intsOf (List.map (Value.int IntKind.i64) (rmL l x.fst))) (hgF l x.fst) ((x.fst:Int).toNat-hgF l x.fst))) (0+(hgF l x.fst+((x.fst:Int).toNat-hgF l x.fst)) * 1) [vi (m5 (l5 ((hgV1 l x).fst 0) ((hgV1 l x).fst 1) ((hgV1 l x).fst 2) ((hgV1 l x).fst 3) ((hgV1 l x).fst 4)))])
noncomputable def hgV3 (l:List Int) (am:Nat) (x:Nat × List MapEntry × Nat) := (hgF l x.fst+((x.fst:Int).toNat-hgF l x.fst)+1+((IntKind.i64.wrap ((am:Int)+(1:Int))).toNat-(hgF l x.fst+((x.fst:Int).toNat-hgF l x.fst)+1)))
noncomputable def hgV4 (l:List Int) (x:Nat × List MapEntry × Nat):List Value := [vi ((hgV1 l x).fst 0),vi ((hgV1 l x).fst 1),vi ((hgV1 l x).fst 2),vi ((hgV1 l x).fst 3),vi ((hgV1 l x).fst 4)]
noncomputable def hgV5 (l:List Int) (c:Nat) (zl:List Int) := (Value.slice (some (ad0 0)) l.length c::List.map (Value.int IntKind.i64) zl)
noncomputable def hgV6 (l:List Int) (am:Nat) (x:Nat × List MapEntry × Nat) := (hgF l x.fst+((IntKind.i64.wrap ((am:Int)+(1:Int))).toNat-hgF l x.fst))
noncomputable def hgV7  := (Value.int IntKind.i64)
noncomputable def hgV8 (l:List Int) (x:Nat × List MapEntry × Nat) := (Value.agg ⟨[vi (IntKind.i64.wrap ((x.fst:Int)-getI (List.map hgV7 l) (0+(IntKind.i64.wrap ((l.length:Int)-(1:Int))).toNat * 1)))]⟩)
noncomputable def hgV9 (l:List Int) (x:Nat × List MapEntry × Nat) := (l5 ((hgV1 l x).fst 0) ((hgV1 l x).fst 1) ((hgV1 l x).fst 2) ((hgV1 l x).fst 3) ((hgV1 l x).fst 4))
noncomputable def hgV10 (l:List Int) (am:Nat) (x:Nat × List MapEntry × Nat) := (List.take ((hgV6 l am x).min (IntKind.i64.wrap (↑(hgV6 l am x):Int)).toNat * 1) (List.drop 0 (List.map hgV7 (fillI (intsOf (List.map hgV7 (rmL l x.fst))) (hgF l x.fst) ((IntKind.i64.wrap ((am:Int)+(1:Int))).toNat-hgF l x.fst)))))
noncomputable def hgV11 (l:List Int) (x:Nat × List MapEntry × Nat) := (hgF l x.fst+((x.fst:Int).toNat-hgF l x.fst)+1)
noncomputable def hgV12 (am:Nat):Prop := (AObj.loop LoopState.ready none (hgV0 am) ⟨[18,19]⟩ hg_c0 hg_c1=AObj.loop LoopState.ready none (hgV0 am) ⟨[18,19]⟩ hg_c0 hg_c1∧true=true)
noncomputable def hgV13 (l:List Int) (x:Nat × List MapEntry × Nat) := (x.snd.fst++[{ key := Value.agg ⟨[vi (x.fst:Int)]⟩,val := Value.agg { toList := (hgV4 l x) },born := x.snd.snd }])
noncomputable def hgV14  : Prop := (Value.func (Fn.yield (6 : Nat)) { toList := [] } { toList := [] } = Value.func (Fn.yield (6 : Nat)) { toList := [] } { toList := [] })
noncomputable def hgV15 (l:List Int) (x:Nat × List MapEntry × Nat) := (List.map hgV7 (rmL l x.fst))
noncomputable def hgV16 (l:List Int) (am:Nat) (x:Nat × List MapEntry × Nat) := (List.take ((hgV3 l am x).min (IntKind.i64.wrap (↑(hgV3 l am x):Int)).toNat * 1) (List.drop 0 (List.map hgV7 (fillI (intsOf (hgV2 l x)) (hgV11 l x) ((IntKind.i64.wrap ((am:Int)+(1:Int))).toNat-(hgV11 l x))))))
noncomputable def hgV17 (l:List Int) (am:Nat) (x:Nat × List MapEntry × Nat):List Value := [Value.slice (some (ad0 2)) (hgF l x.fst) (am+1)]
noncomputable def hgV18 (l:List Int) (x:Nat × List MapEntry × Nat) := ((x.fst:Int).toNat-hgF l x.fst)
noncomputable def hgV19 (l:List Int):Prop := (AObj.ro (List.map hgV7 l)=AObj.ro (List.map (nmap1 (nsub 2 8)) (List.map hgV7 l))∧AObj.sc 3 (AObj.ro (List.map hgV7 l))=true)
noncomputable def hgV20 (am:Nat) := ((am:Int)+(1:Int))
noncomputable def hgV21 (am:Nat):Prop := (AObj.rw [vi (am:Int)] none=AObj.rw [vi (am:Int)] none∧true=true)
noncomputable def hgV22 (am:Nat) := (↑(am+1):Int)
noncomputable def hgV23  : List Value := [Value.map (some (7 : Nat))]
noncomputable def hgV24 (l:List Int) (c:Nat) (zl:List Int):Prop := (AObj.rw (hgV5 l c zl) none=AObj.rw (List.map (nmap1 (nsub 2 8)) (hgV5 l c zl)) none∧AObj.sc 3 (AObj.rw (hgV5 l c zl) none)=true)
noncomputable def hgV25  : Prop := (AObj.rw [ptr0 1] none = AObj.rw [ptr0 1] none∧true = true)
noncomputable def hgV26 (l:List Int) := (IntAt IntKind.i64 (List.map hgV7 l) (0+(IntKind.i64.wrap ((l.length:Int)-(1:Int))).toNat * 1))
noncomputable def hgV27  : Prop := (Value.map (some (7 : Nat)) = Value.map (some (7 : Nat)))
noncomputable def hgV28 (l:List Int) (am:Nat) (x:Nat × List MapEntry × Nat) := (IntKind.i64.wrap (↑(hgV6 l am x):Int))
noncomputable def hgV29 (l:List Int) (y:Nat × List MapEntry × Nat) := (List.map hgV7 (rmL l y.fst))
noncomputable def hgV30 (l:List Int) (am:Nat) (y:Nat × List MapEntry × Nat):List Value := [Value.slice (some (ad0 2)) (hgF l y.fst) (am+1)]
noncomputable def hgV31 (l:List Int) (am:Nat) (x:Nat × List MapEntry × Nat):List Value := [Value.slice (some (ad0 2)) (hgV11 l x) (am+1)]
noncomputable def hgV32 (l:List Int) (am:Nat) (x:Nat × List MapEntry × Nat) := (IntKind.i64.wrap (↑(hgV3 l am x):Int))
noncomputable def hgV33 (l:List Int) (am:Nat) (y:Nat × List MapEntry × Nat):Prop := (y.fst≤am+1∧keptP l y.fst y.snd.fst∧True)
noncomputable def hgV34 (l:List Int) (x:Nat × List MapEntry × Nat) := (intsOf (hgV15 l x))
noncomputable def hgV35 (l:List Int) (c:Nat):List Value := [Value.slice (some (ad0 0)) l.length c]
noncomputable def hgV :=
fun (l:List Int) (c:Nat) (zl:List Int) (am:Nat)↦Ob (((0:Int)≤IntKind.i64.wrap (hgV20 am)∧IntKind.i64.wrap (hgV20 am)≤(↑(301:Nat):Int))∧(0:Int)≤(0:Int)∧(0:Int)≤(↑(IntKind.i64.wrap (hgV20 am)).toNat:Int))∧Ob (0+1≤1)∧Ob (some (vi (am:Int))=some (vi (am:Int)))∧(∃ (y:Nat × List MapEntry × Nat),Ob (hgV33 l am y)∧(Ob (AObj.ro (List.map hgV7 l)=AObj.ro (List.map (nmap1 fun (b:Nat)↦b) (List.map hgV7 l))∧AObj.sc 8 (AObj.ro (List.map hgV7 l))=true)∧Ob (AObj.rw (hgV5 l c zl) none=AObj.rw (List.map (nmap1 fun (b:Nat)↦b) (hgV5 l c zl)) none∧AObj.sc 8 (AObj.rw (hgV5 l c zl) none)=true)∧Ob (AObj.rw (I10 empI [vi (0:Int),vi (0:Int),vi (0:Int),vi (0:Int),vi (0:Int),vi (0:Int),vi (0:Int),vi (0:Int),vi (0:Int),vi (0:Int),vi (0:Int),vi (0:Int),vi (0:Int),vi (0:Int),vi (0:Int),vi (0:Int),vi (0:Int),vi (0:Int),vi (0:Int),vi (0:Int),vi (0:Int),vi (0:Int),vi (0:Int),vi (0:Int),vi (0:Int),vi (0:Int),vi (0:Int),vi (0:Int),vi (0:Int),vi (0:Int),vi (0:Int),vi (0:Int),vi (0:Int),vi (0:Int),vi (0:Int),vi (0:Int),vi (0:Int),vi (0:Int),vi (0:Int),vi (0:Int),vi (0:Int),vi (0:Int),vi (0:Int),vi (0:Int),vi (0:Int),vi (0:Int),vi (0:Int),vi (0:Int),vi (0:Int),vi (0:Int),vi (0:Int),vi (0:Int),vi (0:Int),vi (0:Int),vi (0:Int),vi (0:Int),vi (0:Int),vi (0:Int),vi (0:Int),vi (0:Int),vi (0:Int),vi (0:Int),vi (0:Int),vi (0:Int),vi (0:Int),vi (0:Int),vi (0:Int),vi (0:Int),vi (0:Int),vi (0:Int),vi (0:Int),vi (0:Int),vi (0:Int),vi (0:Int),vi (0:Int),vi (0:Int),vi (0:Int),vi (0:Int),vi (0:Int),vi (0:Int),vi (0:Int),vi (0:Int),vi (0:Int),vi (0:Int),vi (0:Int),vi (0:Int),vi (0:Int),vi (0:Int),vi (0:Int),vi (0:Int),vi (0:Int),vi (0:Int),vi (0:Int),vi (0:Int),vi (0:Int),vi (0:Int),vi (0:Int),vi (0:Int),vi (0:Int),vi (0:Int),vi (0:Int),vi (0:Int),vi (0:Int),vi (0:Int),vi (0:Int),vi (0:Int),vi (0:Int),vi (0:Int),vi (0:Int),vi (0:Int),vi (0:Int),vi (0:Int),vi (0:Int),vi (0:Int),vi (0:Int),vi (0:Int),vi (0:Int),vi (0:Int),vi (0:Int),vi (0:Int),vi (0:Int),vi (0:Int),vi (0:Int),vi (0:Int),vi (0:Int),vi (0:Int),vi (0:Int),vi (0:Int),vi (0:Int),vi (0:Int),vi (0:Int),vi (0:Int),vi (0:Int),vi (0:Int),vi (0:Int),vi (0:Int),vi (0:Int),vi (0:Int),vi (0:Int),vi (0:Int),vi (0:Int),vi (0:Int),vi (0:Int),vi (0:Int),vi (0:Int),vi (0:Int),vi (0:Int),vi (0:Int),vi (0:Int),vi (0:Int),vi (0:Int),vi (0:Int),vi (0:Int),vi (0:Int),vi (0:Int),vi (0:Int),vi (0:Int),vi (0:Int),vi (0:Int),vi (0:Int),vi (0:Int),vi (0:Int),vi (0:Int),vi (0:Int),vi (0:Int),vi (0:Int),vi (0:Int),vi (0:Int),vi (0:Int),vi (0:Int),vi (0:Int),vi (0:Int),vi (0:Int),vi (0:Int),vi (0:Int),vi (0:Int),vi (0:Int),vi (0:Int),vi (0:Int),vi (0:Int),vi (0:Int),vi (0:Int),vi (0:Int),vi (0:Int),vi (0:Int),vi (0:Int),vi (0:Int),vi (0:Int),vi (0:Int),vi (0:Int),vi (0:Int),vi (0:Int),vi (0:Int),vi (0:Int),vi (0:Int),vi (0:Int),vi (0:Int),vi (0:Int),vi (0:Int),vi (0:Int),vi (0:Int),vi (0:Int),vi (0:Int),vi (0:Int),vi (0:Int),vi (0:Int),vi (0:Int),vi (0:Int),vi (0:Int),vi (0:Int),vi (0:Int),vi (0:Int),vi (0:Int),vi (0:Int),vi (0:Int),vi (0:Int),vi (0:Int),vi (0:Int),vi (0:Int),vi (0:Int),vi (0:Int),vi (0:Int),vi (0:Int),vi (0:Int),vi (0:Int),vi (0:Int),vi (0:Int),vi (0:Int),vi (0:Int),vi (0:Int),vi (0:Int),vi (0:Int),vi (0:Int),vi (0:Int),vi (0:Int),vi (0:Int),vi (0:Int),vi (0:Int),vi (0:Int),vi (0:Int),vi (0:Int),vi (0:Int),vi (0:Int),vi (0:Int),vi (0:Int),vi (0:Int),vi (0:Int),vi (0:Int),vi (0:Int),vi (0:Int),vi (0:Int),vi (0:Int),vi (0:Int),vi (0:Int),vi (0:Int),vi (0:Int),vi (0:Int),vi (0:Int),vi (0:Int),vi (0:Int),vi (0:Int),vi (0:Int),vi (0:Int),vi (0:Int),vi (0:Int),vi (0:Int),vi (0:Int),vi (0:Int),vi (0:Int),vi (0:Int),vi (0:Int),vi (0:Int),vi (0:Int),vi (0:Int),vi (0:Int),vi (0:Int),vi (0:Int),vi (0:Int),vi (0:Int),vi (0:Int),vi (0:Int),vi (0:Int),vi (0:Int),vi (0:Int),vi (0:Int),vi (0:Int),vi (0:Int),vi (0:Int),vi (0:Int),vi (0:Int),vi (0:Int)]) none=AObj.rw (List.map (nmap1 fun (b:Nat)↦b) (hgV29 l y)) none∧AObj.sc 8 (AObj.rw (hgV29 l y) none)=true)∧Ob (AObj.rw [Value.slice (some (ad0 2)) 0 (IntKind.i64.wrap (hgV20 am)).toNat] none=AObj.rw (hgV30 l am y) none∧true=true)∧Ob hgV25∧Ob (hgV21 am)∧Ob (hgV12 am)∧Ob (AObj.map [] 0=AObj.map (List.map (fun (e:MapEntry)↦{ key := e.key,val := nmap2 (fun (b:Nat)↦b) e.val,born := e.born }) y.snd.fst) y.snd.snd∧AObj.sc 8 (AObj.map y.snd.fst y.snd.snd)=true)∧True)∧Ob hgV14∧Ob (ptr0 5=ptr0 5)∧Ob (ptr0 4=ptr0 4)∧Ob hgV27∧Ob (IntKind.i64.wrap (hgV20 am)=(hgV22 am))∧Ob ((0:Int)=(y.fst:Int))∧True)∧∀ (x:Nat × List MapEntry × Nat),Ob (x.fst≤am+1∧keptP l x.fst x.snd.fst∧True)→(decide ((x.fst:Int)<(hgV22 am))=true→Ob (AtT l c zl [AObj.ro (List.map hgV7 l),AObj.rw (hgV5 l c zl) none,AObj.rw (hgV15 l x) none,AObj.rw (hgV17 l am x) none,AObj.rw [ptr0 1] none,AObj.rw [vi (am:Int)] none,AObj.loop LoopState.ready none (hgV0 am) ⟨[18,19]⟩ hg_c0 hg_c1,AObj.map x.snd.fst x.snd.snd,AObj.rw [ptr0 1] none,AObj.rw hgV23 none,AObj.rw [vi (x.fst:Int)] none]∧rngC l∧((0:Int)≤(x.fst:Int)∧(x.fst:Int)≤(5000:Int))∧EntOk x.snd.fst∧true=true∧6≤11)∧Ob (0+5≤5)∧Ob True∧(((x.fst:Int)==(0:Int) || !same5 (hgV9 l x) z5)=true→Ob (aMapUpdate Try.prog [AObj.ro (List.map hgV7 l),AObj.rw (hgV5 l c zl) none,AObj.rw (hgV15 l x) none,AObj.rw (hgV17 l am x) none,AObj.rw [ptr0 1] none,AObj.rw [vi (am:Int)] none,AObj.loop LoopState.ready none (hgV0 am) ⟨[18,19]⟩ hg_c0 hg_c1,AObj.map x.snd.fst x.snd.snd,AObj.rw [ptr0 1] none,AObj.rw hgV23 none,AObj.rw [vi (x.fst:Int)] none,AObj.rw (hgV4 l x) none] 112 (Value.map (some 7)) (Value.agg ⟨[vi (x.fst:Int)]⟩) (Value.agg { toList := (hgV4 l x) })=some [AObj.ro (List.map hgV7 l),AObj.rw (hgV5 l c zl) none,AObj.rw (hgV15 l x) none,AObj.rw (hgV17 l am x) none,AObj.rw [ptr0 1] none,AObj.rw [vi (am:Int)] none,AObj.loop LoopState.ready none (hgV0 am) ⟨[18,19]⟩ hg_c0 hg_c1,AObj.map (hgV13 l x) (x.snd.snd+1),AObj.rw [ptr0 1] none,AObj.rw hgV23 none,AObj.rw [vi (x.fst:Int)] none,AObj.rw (hgV4 l x) none])∧Ob (0+5≤5)∧Ob (List.map hgV7 (rmL l x.fst)=List.map hgV7 (hgV34 l x)∧hgF l x.fst≤am+1∧(0:Int)≤(x.fst:Int)∧(x.fst:Int)≤(hgV22 am)∧am+1≤(hgV34 l x).length∧am+1≤1000)∧Ob (smallP (hgV9 l x))∧Ob (andP (some (0+1≤1∧true=true)) (hgF l x.fst+(hgV18 l x)+1≤1099511627776∧(2 * (hgV11 l x)+256) * 8≤281474976710656∧1=1∧1=1∧hgF l x.fst+(hgV18 l x)+1≤am+1∧0<1∧0+(hgF l x.fst+(hgV18 l x)) * 1+1≤(List.map hgV7 (fillI (hgV34 l x) (hgF l x.fst) (hgV18 l x))).length∧true=true)∧hgF l x.fst+(hgV18 l x)+1≤am+1)∧Ob (0+1≤1)∧(false=true→Ob (putL (List.map hgV7 (fillI (hgV34 l x) (hgF l x.fst) (hgV18 l x))) (0+(hgF l x.fst+(hgV18 l x)) * 1) [vi (m5 (hgV9 l x))]=List.map hgV7 (intsOf (hgV2 l x))∧hgF l x.fst+(hgV18 l x)+1≤am+1∧(0:Int)≤IntKind.i64.wrap (hgV20 am)∧IntKind.i64.wrap (hgV20 am)≤(hgV22 am)∧am+1≤(intsOf (hgV2 l x)).length∧am+1≤1000)∧Ob (0+1≤1)∧Ob ((0:Int)≤IntKind.i64.wrap (↑(hgV3 l am x):Int)∧IntKind.i64.wrap (↑(hgV3 l am x):Int)≤IntKind.i64.wrap (↑(hgV3 l am x):Int)∧(↑(8:Nat):Int) * IntKind.i64.wrap (↑(hgV3 l am x):Int)≤(281474976710656:Int))∧Ob (andP (some (0+(hgV3 l am x).min (hgV32 l am x).toNat * 1≤(List.map hgV7 (fillI (intsOf (hgV2 l x)) (hgV11 l x) ((IntKind.i64.wrap (hgV20 am)).toNat-(hgV11 l x)))).length∧true=true)) (0+(hgV16 l am x).length≤(List.replicate (hgV32 l am x).toNat (vi (0:Int))).length∧(hgV16 l am x).all (sc1 15)=true))∧(Ob (hgV19 l)∧Ob (hgV24 l c zl)∧Ob (AObj.rw [ptr0 1] none=AObj.rw (List.map (nmap1 (nsub 2 8)) (List.map hgV7 (hL l am))) none∧AObj.sc 3 (AObj.rw (List.map hgV7 (hL l am)) none)=true)∧True)∧Ob (Value.slice (some (ad0 14)) (hgV32 l am x).toNat (hgV32 l am x).toNat=Value.slice (some (ad0 8)) (am+1) (am+1))∧True)∧(false=false→Ob ((0:Int)≤IntKind.i64.wrap ((l.length:Int)-(1:Int))∧IntKind.i64.wrap ((l.length:Int)-(1:Int))<(l.length:Int)∧true=true)∧Ob (hgV26 l)∧Ob (aDelete Try.prog [AObj.ro (List.map hgV7 l),AObj.rw (hgV5 l c zl) none,AObj.rw (hgV2 l x) none,AObj.rw (hgV31 l am x) none,AObj.rw [ptr0 1] none,AObj.rw [vi (am:Int)] none,AObj.loop LoopState.ready none (hgV0 am) ⟨[18,19]⟩ hg_c0 hg_c1,AObj.map (hgV13 l x) (x.snd.snd+1),AObj.rw [ptr0 1] none,AObj.rw hgV23 none,AObj.rw [vi (x.fst:Int)] none,AObj.rw (hgV4 l x) none,AObj.rw (hgV4 l x) none,AObj.rw [vi (m5 (hgV9 l x))] none,AObj.rw (hgV35 l c) none] ⟨[112,115]⟩ (Value.map (some 7)) (hgV8 l x)=some [AObj.ro (List.map hgV7 l),AObj.rw (hgV5 l c zl) none,AObj.rw (hgV2 l x) none,AObj.rw (hgV31 l am x) none,AObj.rw [ptr0 1] none,AObj.rw [vi (am:Int)] none,AObj.loop LoopState.ready none (hgV0 am) ⟨[18,19]⟩ hg_c0 hg_c1,AObj.map (delE uA (hgV13 l x) (uA (hgV8 l x))) (x.snd.snd+1),AObj.rw [ptr0 1] none,AObj.rw hgV23 none,AObj.rw [vi (x.fst:Int)] none,AObj.rw (hgV4 l x) none,AObj.rw (hgV4 l x) none,AObj.rw [vi (m5 (hgV9 l x))] none,AObj.rw (hgV35 l c) none])∧∃ (y:Nat × List MapEntry × Nat),Ob (hgV33 l am y)∧Ob (am+1-y.fst<am+1-x.fst)∧(Ob (AObj.ro (List.map hgV7 l)=AObj.ro (List.map (nmap1 fun (b:Nat)↦b) (List.map hgV7 l))∧AObj.sc 8 (AObj.ro (List.map hgV7 l))=true)∧Ob (AObj.rw (hgV5 l c zl) none=AObj.rw (List.map (nmap1 fun (b:Nat)↦b) (hgV5 l c zl)) none∧AObj.sc 8 (AObj.rw (hgV5 l c zl) none)=true)∧Ob (AObj.rw (hgV2 l x) none=AObj.rw (List.map (nmap1 fun (b:Nat)↦b) (hgV29 l y)) none∧AObj.sc 8 (AObj.rw (hgV29 l y) none)=true)∧Ob (AObj.rw (hgV31 l am x) none=AObj.rw (hgV30 l am y) none∧true=true)∧Ob hgV25∧Ob (hgV21 am)∧Ob (hgV12 am)∧Ob (AObj.map (delE uA (hgV13 l x) (uA (hgV8 l x))) (x.snd.snd+1)=AObj.map (List.map (fun (e:MapEntry)↦{ key := e.key,val := nmap2 (fun (b:Nat)↦b) e.val,born := e.born }) y.snd.fst) y.snd.snd∧AObj.sc 8 (AObj.map y.snd.fst y.snd.snd)=true)∧True)∧Ob hgV14∧Ob (ptr0 5=ptr0 5)∧Ob (ptr0 4=ptr0 4)∧Ob hgV27∧Ob ((hgV22 am)=(hgV22 am))∧Ob (IntKind.i64.wrap ((x.fst:Int)+(1:Int))=(y.fst:Int))∧True))∧(((x.fst:Int)==(0:Int) || !same5 (hgV9 l x) z5)=false→Ob ((0:Int)≤IntKind.i64.wrap ((l.length:Int)-(1:Int))∧IntKind.i64.wrap ((l.length:Int)-(1:Int))<(l.length:Int)∧true=true)∧Ob (hgV26 l)∧Ob (aDelete Try.prog [AObj.ro (List.map hgV7 l),AObj.rw (hgV5 l c zl) none,AObj.rw (hgV15 l x) none,AObj.rw (hgV17 l am x) none,AObj.rw [ptr0 1] none,AObj.rw [vi (am:Int)] none,AObj.loop LoopState.ready none (hgV0 am) ⟨[18,19]⟩ hg_c0 hg_c1,AObj.map x.snd.fst x.snd.snd,AObj.rw [ptr0 1] none,AObj.rw hgV23 none,AObj.rw [vi (x.fst:Int)] none,AObj.rw (hgV4 l x) none,AObj.rw (hgV35 l c) none] ⟨[112,115]⟩ (Value.map (some 7)) (hgV8 l x)=some [AObj.ro (List.map hgV7 l),AObj.rw (hgV5 l c zl) none,AObj.rw (hgV15 l x) none,AObj.rw (hgV17 l am x) none,AObj.rw [ptr0 1] none,AObj.rw [vi (am:Int)] none,AObj.loop LoopState.ready none (hgV0 am) ⟨[18,19]⟩ hg_c0 hg_c1,AObj.map (delE uA x.snd.fst (uA (hgV8 l x))) x.snd.snd,AObj.rw [ptr0 1] none,AObj.rw hgV23 none,AObj.rw [vi (x.fst:Int)] none,AObj.rw (hgV4 l x) none,AObj.rw (hgV35 l c) none])∧∃ (y:Nat × List MapEntry × Nat),Ob (hgV33 l am y)∧Ob (am+1-y.fst<am+1-x.fst)∧(Ob (AObj.ro (List.map hgV7 l)=AObj.ro (List.map (nmap1 fun (b:Nat)↦b) (List.map hgV7 l))∧AObj.sc 8 (AObj.ro (List.map hgV7 l))=true)∧Ob (AObj.rw (hgV5 l c zl) none=AObj.rw (List.map (nmap1 fun (b:Nat)↦b) (hgV5 l c zl)) none∧AObj.sc 8 (AObj.rw (hgV5 l c zl) none)=true)∧Ob (AObj.rw (hgV15 l x) none=AObj.rw (List.map (nmap1 fun (b:Nat)↦b) (hgV29 l y)) none∧AObj.sc 8 (AObj.rw (hgV29 l y) none)=true)∧Ob (AObj.rw (hgV17 l am x) none=AObj.rw (hgV30 l am y) none∧true=true)∧Ob hgV25∧Ob (hgV21 am)∧Ob (hgV12 am)∧Ob (AObj.map (delE uA x.snd.fst (uA (hgV8 l x))) x.snd.snd=AObj.map (List.map (fun (e:MapEntry)↦{ key := e.key,val := nmap2 (fun (b:Nat)↦b) e.val,born := e.born }) y.snd.fst) y.snd.snd∧AObj.sc 8 (AObj.map y.snd.fst y.snd.snd)=true)∧True)∧Ob hgV14∧Ob (ptr0 5=ptr0 5)∧Ob (ptr0 4=ptr0 4)∧Ob hgV27∧Ob ((hgV22 am)=(hgV22 am))∧Ob (IntKind.i64.wrap ((x.fst:Int)+(1:Int))=(y.fst:Int))∧True))∧(decide ((x.fst:Int)<(hgV22 am))=false→Ob (List.map hgV7 (rmL l x.fst)=List.map hgV7 (hgV34 l x)∧hgF l x.fst≤am+1∧(0:Int)≤IntKind.i64.wrap (hgV20 am)∧IntKind.i64.wrap (hgV20 am)≤(hgV22 am)∧am+1≤(hgV34 l x).length∧am+1≤1000)∧Ob (0+1≤1)∧Ob ((0:Int)≤IntKind.i64.wrap (↑(hgV6 l am x):Int)∧IntKind.i64.wrap (↑(hgV6 l am x):Int)≤IntKind.i64.wrap (↑(hgV6 l am x):Int)∧(↑(8:Nat):Int) * IntKind.i64.wrap (↑(hgV6 l am x):Int)≤(281474976710656:Int))∧Ob (andP (some (0+(hgV6 l am x).min (hgV28 l am x).toNat * 1≤(List.map hgV7 (fillI (hgV34 l x) (hgF l x.fst) ((IntKind.i64.wrap (hgV20 am)).toNat-hgF l x.fst))).length∧true=true)) (0+(hgV10 l am x).length≤(List.replicate (hgV28 l am x).toNat (vi (0:Int))).length∧(hgV10 l am x).all (sc1 9)=true))∧(Ob (hgV19 l)∧Ob (hgV24 l c zl)∧Ob (AObj.rw (putL (List.replicate (hgV28 l am x).toNat (vi (0:Int))) 0 (hgV10 l am x)) none=AObj.rw (List.map (nmap1 (nsub 2 8)) (List.map hgV7 (hL l am))) none∧AObj.sc 3 (AObj.rw (List.map hgV7 (hL l am)) none)=true)∧True)∧Ob (Value.slice (some (ad0 8)) (hgV28 l am x).toNat (hgV28 l am x).toNat=Value.slice (some (ad0 8)) (am+1) (am+1))∧True)
theorem hg_le {l : List Int} : ∀ a,hgF l a≤a
 | 0 => Nat.le_refl _
 | a + 1 => by
   have := hg_le (l := l) a
   rw [hgF]
   cases canB l a
   · show hgF l a≤a + 1; omega
   · exact Nat.le_refl _
theorem rm_len {l : List Int} : ∀ a,(rmL l a).length = 301
 | 0 => by rw [rmL,zer,List.length_replicate]
 | a + 1 => by
   rw [rmL]
   cases canB l a
   · exact rm_len a
   · show ((fillI _ _ _).set _ _).length = 301
     rw [List.length_set,fill_len,rm_len a]
theorem getD_at {t : List Int} {i j : Nat} {v : Int} (hi : i < t.length) : (t.set i v).getD j 0 = if j = i then v else t.getD j 0 := by
 rw [List.getD_eq_getElem?_getD,List.getElem?_set,List.getD_eq_getElem?_getD]
 by_cases e : i = j
 · rw [if_pos e,if_pos hi,if_pos e.symm]; rfl
 · rw [if_neg e,if_neg (Ne.symm e)]
theorem fill_get {t : List Int} {n j : Nat} : ∀ d,n + d≤t.length→(fillI t n d).getD j 0 = if n≤j∧j < n + d then 1000 else t.getD j 0
 | 0,_ => by rw [if_neg (by omega)]; rfl
 | d + 1,h => by
   rw [fillI,getD_at (by rw [fill_len]; omega),fill_get d (by omega)]
   by_cases e : j = n + d
   · rw [if_pos e,if_pos (by omega)]
   · rw [if_neg e]
     by_cases e2 : n≤j∧j < n + d
     · rw [if_pos e2,if_pos (by omega)]
     · rw [if_neg e2,if_neg (by omega)]
theorem rm_get {l : List Int} : ∀ a,a≤301→(∀ j,j < hgF l a→(rmL l a).getD j 0 = hvF l j)∧∀ j,hgF l a≤j→j < a→canB l j = false
 | 0,_ => ⟨fun j hj => (by cases hj),fun j _ h => (by omega)⟩
 | a + 1,ha => by
   obtain ⟨i1,i2⟩ := rm_get (l := l) a (by omega)
   have hl := hg_le (l := l) a
   rw [hgF,rmL]
   cases hc : canB l a with
   | false =>
     refine ⟨i1,fun j h1 h2 => ?_⟩
     by_cases e : j = a
     · rw [e,hc]
     · exact i2 j h1 (by omega)
   | true =>
     refine ⟨fun j hj => ?_,fun j h1 h2 => by have h1 : a + 1≤j := h1; omega⟩
     have hj : j < a + 1 := hj
     show ((fillI _ _ _).set _ _).getD j 0 = _
     rw [getD_at (by rw [fill_len,rm_len]; omega),fill_get _ (by rw [rm_len]; omega)]
     by_cases e : j = a
     · rw [if_pos e,hvF,e,hc,if_pos rfl]
     · rw [if_neg e]
       by_cases e2 : hgF l a≤j
       · rw [if_pos (by omega),hvF,i2 j e2 (by omega),if_neg Bool.false_ne_true]
       · rw [if_neg (by omega),i1 j (by omega)]
theorem hL_len {l : List Int} : ∀ a,(hL l a).length = a + 1
 | 0 => rfl
 | a + 1 => by rw [hL,List.length_append,hL_len a]; rfl
theorem hL_get {l : List Int} : ∀ a j,j≤a→(hL l a).getD j 0 = hvF l j
 | 0,j,h => by
   obtain rfl : j = 0 := by omega
   rfl
 | a + 1,j,h => by
   have hl := hL_len (l := l) a
   rw [hL,List.getD_eq_getElem?_getD]
   by_cases e : j≤a
   · rw [List.getElem?_append_left (by omega),← List.getD_eq_getElem?_getD]; exact hL_get a j e
   · rw [List.getElem?_append_right (by omega),hl,show j - (a + 1) = 0 by omega,show j = a + 1 by omega]; rfl
theorem room_all {l : List Int} {am : Nat} (ham : am≤300) : List.take (am + 1) (fillI (rmL l (am + 1)) (hgF l (am + 1)) (am + 1 - hgF l (am + 1))) = hL l am := by
 have hh := hg_le (l := l) (am + 1)
 have hr := rm_len (l := l) (am + 1)
 obtain ⟨g1,g2⟩ := rm_get (l := l) (am + 1) (by omega)
 have hfl := fill_len (t := rmL l (am + 1)) (n := hgF l (am + 1)) (am + 1 - hgF l (am + 1))
 refine List.ext_getElem (by rw [List.length_take,hL_len]; omega) fun j h1 h2 => ?_
 have hj : j < am + 1 := by rw [hL_len] at h2; exact h2
 have e1 : (fillI (rmL l (am + 1)) (hgF l (am + 1)) (am + 1 - hgF l (am + 1))).getD j 0 = hvF l j := by
   rw [fill_get _ (by omega)]
   by_cases e : hgF l (am + 1)≤j
   · rw [if_pos (by omega),hvF,g2 j e hj,if_neg Bool.false_ne_true]
   · rw [if_neg (by omega),g1 j (by omega)]
 have e2 := hL_get (l := l) am j (by omega)
 rw [List.getElem_take]
 rw [List.getD_eq_getElem?_getD,List.getElem?_eq_getElem (by omega)] at e1
 rw [List.getD_eq_getElem?_getD,List.getElem?_eq_getElem h2] at e2
 exact e1.trans e2.symm
theorem putL_into : ∀ (new pre rest : List Value),new.length≤rest.length→putL (pre ++ rest) pre.length new = pre ++ (new ++ rest.drop new.length)
 | [],pre,rest,_ => by simp [putL]
 | v :: vs,pre,[],h => by simp at h
 | v :: vs,pre,r :: rs,h => by
   have e : (pre ++ r :: rs).set pre.length v = (pre ++ [v]) ++ rs := by simp
   have h2 := putL_into vs (pre ++ [v]) rs (by simpa using h)
   rw [List.length_append,List.length_singleton] at h2
   show putL ((pre ++ r :: rs).set pre.length v) (pre.length + 1) vs = _
   rw [e,h2]; simp
theorem putL_all {cs new : List Value} (h : new.length = cs.length) : putL cs 0 new = new := by
 have := putL_into new [] cs (by omega)
 simp only [List.nil_append,List.length_nil] at this
 rw [this,h,List.drop_length,List.append_nil]
theorem hgV_ok (l : List Int) (c : Nat) (zl : List Int) (am : Nat) (hc : Coins l) (ham : am≤300) : hgV l c zl am := by
 unfold hgV hgV35 hgV34 hgV33 hgV32 hgV31 hgV30 hgV29 hgV28 hgV27 hgV26 hgV25 hgV24 hgV23 hgV22 hgV21 hgV20 hgV19 hgV18 hgV17 hgV16 hgV15 hgV14 hgV13 hgV12 hgV11 hgV10 hgV9 hgV8 hgV7 hgV6 hgV5 hgV4 hgV3 hgV2 hgV1 hgV0
 simp only [SS,reduceCtorEq,Arg.list,Arg.num,Arg.flag,intOf,andP,Nat.reduceLeDiff,Nat.reduceAdd,Nat.reduceMul,Nat.reduceLT,til_sc,nm_sl,uA_k,len_pred hc,putL_int]
 have hl := last_rng hc
 have hp := hc.pos
 have hw := hc.few
 have wm : IntKind.i64.wrap ((am : Int) + 1) = ((am + 1 : Nat) : Int) := wrap_succ (n := 10000) (by omega) (by omega)
 refine ⟨⟨⟨by rw [wm]; omega,by rw [wm]; omega⟩,by omega,by omega⟩,⟨(0,[],0),⟨by simp,kept_0⟩,⟨by kernel_rfl,⟨rfl,by rw [wm]; rfl⟩,rfl,rfl⟩,wm,rfl⟩,fun x hx => ⟨fun h1 => ?_,fun h1 => ?_⟩⟩
 · obtain ⟨a,es,k⟩ := x
   obtain ⟨x1,hk⟩ := hx
   simp only at x1 hk h1
   simp only [kept_bF hc hk]
   have h5 : a≤300 := by omega
   have hA : ∀ r,AtT l c zl (AObj.ro (List.map (Value.int IntKind.i64) l) :: AObj.rw (Value.slice (some (ad0 0)) l.length c :: List.map (Value.int IntKind.i64) zl) none :: r) := fun r => ⟨rfl,rfl⟩
   have wk : IntKind.i64.wrap ((a : Int) - l.getD (l.length - 1) 0) = (a : Int) - lastF l := by unfold lastF at *; rw [wrap_in (by omega) (by omega)]
   rw [wk]
   have nx : IntKind.i64.wrap ((a : Int) + 1) = ((a + 1 : Nat) : Int) := wrap_succ (n := 10000) (by omega) (by omega)
   have hg := hg_le (l := l) a
   have rl := rm_len (l := l) a
   have hfl := fill_len (t := rmL l a) (n := hgF l a) (a - hgF l a)
   have eh : hgF l a + (a - hgF l a) = a := by omega
   rw [eh]
   refine ⟨⟨hA _,rng_of hc,by omega,hk.1⟩,fun h2 => ⟨new_es hk.1 rfl (kept_fresh hc (by omega) hk),⟨by omega,by omega,by omega,by omega,by omega⟩,(bF_less hc (by omega)).small,⟨⟨by omega,by omega,by omega,by omega⟩,by omega⟩,by omega,by omega,del_es (hk.1.snoc (bF_less hc (by omega))) rfl rfl,(a + 1,delE uA (es ++ [⟨kA a,C5 (bF l a),k⟩]) ((a : Int) - lastF l),k + 1),⟨by simp; omega,kept_new hc (by omega) hk (can_of h2)⟩,by simp; omega,?_,nx⟩,fun h2 => ⟨by omega,by omega,del_es hk.1 rfl rfl,(a + 1,delE uA es ((a : Int) - lastF l),k),⟨by simp; omega,kept_old hc (by omega) hk (can_of h2)⟩,by simp; omega,?_,nx⟩⟩
   · have e1 : rmL l (a + 1) = (fillI (rmL l a) (hgF l a) (a - hgF l a)).set a (m5 (bF l a)) := by rw [rmL,can_of h2]; rfl
     have e2 : hgF l (a + 1) = a + 1 := by rw [hgF,can_of h2]; rfl
     rw [e1,e2]
     exact ⟨rfl,rfl,map_same (kept_new hc (by omega) hk (can_of h2)).1⟩
   · have e1 : rmL l (a + 1) = rmL l a := by rw [rmL,can_of h2]; rfl
     have e2 : hgF l (a + 1) = hgF l a := by rw [hgF,can_of h2]; rfl
     rw [e1,e2]
     exact ⟨rfl,rfl,map_same (kept_old hc (by omega) hk (can_of h2)).1⟩
 · have ex : x.1 = am + 1 := by omega
   rw [ex]
   have hg := hg_le (l := l) (am + 1)
   have rl := rm_len (l := l) (am + 1)
   have hfl := fill_len (t := rmL l (am + 1)) (n := hgF l (am + 1)) (am + 1 - hgF l (am + 1))
   have ra := room_all (l := l) ham
   have eh : hgF l (am + 1) + (am + 1 - hgF l (am + 1)) = am + 1 := by omega
   have w2 : IntKind.i64.wrap ((am + 1 : Nat) : Int) = ((am + 1 : Nat) : Int) := wrap_in (by omega) (by omega)
   have mn : (am + 1).min (am + 1) = am + 1 := Nat.min_self _
   have tk : List.take (am + 1) (List.map (Value.int IntKind.i64) (fillI (rmL l (am + 1)) (hgF l (am + 1)) (am + 1 - hgF l (am + 1)))) = List.map (Value.int IntKind.i64) (hL l am) := by rw [← List.map_take,ra]
   have hll := hL_len (l := l) am
   simp only [wm,w2,Int.toNat_natCast,eh,mn,tk]
   exact ⟨⟨hg,by omega,by omega,by omega,by omega⟩,⟨by omega,by omega,by omega⟩,⟨by omega,by rw [List.length_map,List.length_replicate]; omega,all_sc_int⟩,⟨rfl,putL_all (by rw [List.length_map,List.length_replicate,hll])⟩,trivial,trivial⟩
theorem h0E_ok : VOk Try.prog h0E := ⟨(CtOk.none.add maG_ok).add utCt_ok,E0_ok.cc,E0_ok.yc,orcAp_ok⟩
theorem hgE_ok {l : List Int} {c : Nat} {zl : List Int} {am : Nat} : VOk Try.prog (hgE l c zl am) := ⟨CtOk.none.add utCt_ok,ccOr_ok (ccIn_ok E0_ok mixed (inl_one Try.func93)) (ccIn_ok (chE_ok h0E_ok) mixed (inl_one Try.func104)),E0_ok.yc,orcOr_ok orcRm_ok orcCp_ok⟩
theorem hg_call (l : List Int) (c : Nat) (zl : List Int) (am : Nat) (hc : Coins l) (ham : am≤300) : Call Try.prog 76 [ptr0 1,vi (am : Int)] [ros l,tillO l.length c zl] fun v H' => v = .slice (some ⟨2,0,none⟩) (am + 1) (am + 1)∧H' = [ros l,tillO l.length c zl] ++ [.rw ((hL l am).map (.int .i64)) none] :=
 Call.ofVcR (E := hgE l c zl am) (H := [ros l,tillO l.length c zl]) (args := [ptr0 1,vi (am : Int)]) (σ := nsub 2 8) (v2 := .slice (some ⟨2,0,none⟩) (am + 1) (am + 1)) (H2 := [ros l,tillO l.length c zl,.rw ((hL l am).map (.int .i64)) none]) hgE_ok mixed (c := hgB) (inv := fun _ => none) Try.func76 (by kernel_rfl) (cast (by kernel_rfl) (hgV_ok l c zl am hc ham))
end Go.Pier.Fl
namespace Go.Pier.Fl
open Go Go.Pier Go.Proofs
end Go.Pier.Fl
namespace Go.Pier.Fl
open Go Go.Pier Go.Proofs
end Go.Pier.Fl
namespace Go.Pier.Fl
open Go Go.Pier Go.Proofs
end Go.Pier.Fl
namespace Go.Pier.Fl
open Go Go.Pier Go.Proofs
def okW (a : Int) : Leaf→Prop
 | .view cs n _ => cs = (intsOf cs).map (.int .i64)∧cs.length = n∧Coins (intsOf cs)∧0≤a∧a≤300
 | _ => False
end Go.Pier.Fl
