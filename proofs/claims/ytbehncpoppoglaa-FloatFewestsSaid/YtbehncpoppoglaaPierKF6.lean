import Derived.Test.YtbehncpoppoglaaPierKF4
import Derived.Test.YtbehncpoppoglaaPierFlwk
import Derived.KernelRfl
import Derived.Test.YtbehncpoppoglaaPierKF5
import Derived.Test.YtbehncpoppoglaaPierKF2
set_option linter.unusedSimpArgs false
set_option linter.unusedVariables false
set_option maxRecDepth 100000
namespace Go.Pier.Fl
open Go Go.Pier Go.Proofs
def worksS (r : List Arg) : Prop × Value := match r with | [] => (True,.bool true) | _ => (False,undef)
def isTrue (v : Value) (_ : Heap) : Prop := v = .bool true
theorem few_val {l : List Int} (hc : Coins l) {a : Int} (ha : 0≤a∧a≤300) : fewF l a = if canB l a.toNat = true then m5 (bF l a.toNat) else 0 := by
 have h0 : errA l a = 0 := errA_0.2 ⟨errC_ok.2 hc,ha⟩
 cases hx : canB l a.toNat with
 | true => rw [if_pos rfl,fewF_ok (errN_0 h0 hx)]
 | false => rw [if_neg Bool.false_ne_true,fewF_no (by rw [errN_5 h0 hx]; decide)]
theorem few_bd {l : List Int} (hc : Coins l) {a : Int} (ha : 0≤a∧a≤300) : 0≤fewF l a∧fewF l a≤300 := by
 have h0 : errA l a = 0 := errA_0.2 ⟨errC_ok.2 hc,ha⟩
 cases hx : canB l a.toNat with
 | true => exact (best_fact hc ha (errN_0 h0 hx)).2.2.2.2
 | false => rw [fewF_no (by rw [errN_5 h0 hx]; decide)]; omega
theorem worksG_ok : ∀ args H φ v H' l,pureG [] worksS args H = some (φ,v,H',l)→Asks φ→Call Try.prog 19 args H (fun v' H2 => v' = v∧H2 = H')∧Kept H H' l :=
 closedG_ok (works_ok.call.mono fun v H h => h.1) rfl
end Go.Pier.Fl
namespace Go.Pier.Fl
open Go Go.Pier Go.Proofs
theorem add_coin {l : List Int} (hc : Coins l) {k : Nat} (hk : k < l.length) {y : Nat} (hy : y + (l.getD k 0).toNat≤9999) (h : canB l y = true) : canB l (y + (l.getD k 0).toNat) = true := by
 have hr := coin_rng hc hk
 obtain ⟨p,q⟩ := ((best_is hc y (by omega)).1 h).1
 refine ((best_is hc _ hy).2 (up (bF l y) k 1) ⟨fun j hj => ?_,?_⟩).1
 · have := p j hj
   unfold up
   split <;> omega
 · rw [dot_up,q,if_pos hk]; omega
theorem sub_coin {l : List Int} (hc : Coins l) {x : Nat} (hx : 0 < x) (hx9 : x≤9999) (h : canB l x = true) : ∃ k,k < l.length∧(l.getD k 0).toNat≤x∧canB l (x - (l.getD k 0).toNat) = true := by
 obtain ⟨p,q⟩ := ((best_is hc x hx9).1 h).1
 obtain ⟨k,hk,hp⟩ := dot_pos (l := l) l.length (fun j hj => ⟨by have := coin_rng hc hj; omega,p j hj⟩) (by rw [q]; omega)
 have hr := coin_rng hc hk
 have hz : isCh l (x - l.getD k 0) (up (bF l x) k (-1)) := ⟨fun j hj => by
   have := p j hj
   unfold up
   split
   · rename_i e
     rw [e]; omega
   · omega,by rw [dot_up,q,if_pos hk]; omega⟩
 have h0 := dot_nonneg (l := l) l.length (fun j hj => ⟨by have := coin_rng hc hj; omega,hz.1 j hj⟩)
 rw [hz.2] at h0
 refine ⟨k,hk,by omega,((best_is hc _ (by omega)).2 (up (bF l x) k (-1)) ?_).1⟩
 have e : ((x - (l.getD k 0).toNat : Nat) : Int) = x - l.getD k 0 := by omega
 rw [e]; exact hz
theorem chain {l : List Int} (hc : Coins l) : ∀ n z,z≤n→z≤9999→canB l z = true→∃ ss : List Nat,(z : Int) + lastF l≤ss.length * lastF l∧(∀ s ∈ ss,s≤z∧canB l s = true)∧ss.Pairwise (fun s t => t < s∧canB l (z - s + t) = true) := by
 intro n
 induction n with
 | zero =>
   intro z hn _ h
   obtain rfl : z = 0 := by omega
   exact ⟨[0],by simp,fun s hs => by rw [List.mem_singleton] at hs; subst hs; exact ⟨Nat.le_refl _,h⟩,List.pairwise_singleton _ _⟩
 | succ n ih =>
   intro z hn h9 h
   by_cases hz : z = 0
   · subst hz
     exact ⟨[0],by simp,fun s hs => by rw [List.mem_singleton] at hs; subst hs; exact ⟨Nat.le_refl _,h⟩,List.pairwise_singleton _ _⟩
   · obtain ⟨k,hk,h1,h2⟩ := sub_coin hc (by omega) h9 h
     have hr := coin_rng hc hk
     have hl := coin_last hc hk
     obtain ⟨ss,a1,a2,a3⟩ := ih (z - (l.getD k 0).toNat) (by omega) (by omega) h2
     refine ⟨z :: ss,?_,?_,List.pairwise_cons.2 ⟨fun t ht => ⟨by have := (a2 t ht).1; omega,?_⟩,a3.imp_of_mem fun {s t} hs ht ⟨b1,b2⟩ => ⟨b1,?_⟩⟩⟩
     · rw [List.length_cons,Int.natCast_add,Int.add_mul]; omega
     · intro s hs
       rcases List.mem_cons.1 hs with rfl | hs
       · exact ⟨Nat.le_refl _,h⟩
       · have := a2 s hs
         exact ⟨by omega,this.2⟩
     · rw [Nat.sub_self,Nat.zero_add]; exact (a2 t ht).2
     · have hs2 := (a2 s hs).1
       have := add_coin hc hk (y := z - (l.getD k 0).toNat - s + t) (by omega) b2
       rw [show z - s + t = z - (l.getD k 0).toNat - s + t + (l.getD k 0).toNat by omega]
       exact this
end Go.Pier.Fl
namespace Go.Pier.Fl
open Go Go.Pier Go.Proofs
def nwF (r l : List Int) (a : Nat) : Nat→Int
 | 0 => -1
 | i + 1 => if l.getD i 0 > a then nwF r l a i else if r.getD ((a : Int) - l.getD i 0).toNat 0 < 0 then nwF r l a i else if nwF r l a i < 0 then r.getD ((a : Int) - l.getD i 0).toNat 0 + 1 else if r.getD ((a : Int) - l.getD i 0).toNat 0 + 1 < nwF r l a i then r.getD ((a : Int) - l.getD i 0).toNat 0 + 1 else nwF r l a i
def fR (l : List Int) : Nat→List Int
 | 0 => [0]
 | a + 1 => fR l a ++ [nwF (fR l a) l (a + 1) l.length]
def uS (b m : Nat) : Value := .slice (some ⟨b,0,some 0⟩) m 0
noncomputable def foB : Code := Try.f70.body.getD .skip
def foJ (l : List Int) (c : Nat) (am : Nat) (t5 : Value) (o : AObj) (a : Nat) : Nat→Option LInv := invOf 2 (LInv.one Nat (fun i => i≤l.length) (fun i => [(0,.slice (some ⟨0,0,none⟩) l.length c),(1,vi am),(5,t5),(6,vi a),(7,vi (nwF (fR l (a - 1)) l a i)),(8,vi i)]) (fun _ => [ros l,o]) (fun i => l.length - i))
def foI (l : List Int) (c am : Nat) : Nat → Option LInv := invOf 0 (.mk [
     ⟨Unit,fun _ => True,fun _ => [(0,.slice (some ⟨0,0,none⟩) l.length c),(1,vi am),(5,.slice (some ⟨1,0,none⟩) 1 1),(6,vi 1)],fun _ => [ros l,.rw [vi 0] none],fun _ => am + 1,fun _ => foJ l c am (.slice (some ⟨1,0,none⟩) 1 1) (.rw [vi 0] none) 1⟩,
     ⟨Nat,fun a => 2≤a∧a≤am + 1,fun a => [(0,.slice (some ⟨0,0,none⟩) l.length c),(1,vi am),(5,uS 1 a),(6,vi a)],fun a => [ros l,rws (fR l (a - 1))],fun a => am + 2 - a,fun a => foJ l c am (uS 1 a) (rws (fR l (a - 1))) a⟩]
   (fun _ b => b) (fun _ _ => [nsub 1 3]))
noncomputable def foV :=
fun (l:List Int) (c am:Nat)↦((∃ (y:Unit),Ob True∧(Ob (AObj.ro (List.map (Value.int IntKind.i64) l)=AObj.ro (List.map (nmap1 fun (b:Nat)↦b) (List.map (Value.int IntKind.i64) l))∧AObj.sc 2 (AObj.ro (List.map (Value.int IntKind.i64) l))=true)∧Ob (AObj.rw [vi (0:Int)] none=AObj.rw [vi (0:Int)] none∧true=true)∧True)∧Ob (Value.slice (some (ad0 0)) l.length c=Value.slice (some (ad0 0)) l.length c)∧Ob ((am:Int)=(am:Int))∧Ob (Value.slice (some (ad0 1)) 1 1=Value.slice (some (ad0 1)) 1 1)∧Ob ((1:Int)=(1:Int))∧True)∨∃ (y:Nat),Ob (2≤y∧y≤am+1)∧(Ob (AObj.ro (List.map (Value.int IntKind.i64) l)=AObj.ro (List.map (nmap1 fun (b:Nat)↦b) (List.map (Value.int IntKind.i64) l))∧AObj.sc 2 (AObj.ro (List.map (Value.int IntKind.i64) l))=true)∧Ob (AObj.rw [vi (0:Int)] none=AObj.rw (List.map (nmap1 fun (b:Nat)↦b) (List.map (Value.int IntKind.i64) (fR l (y-1)))) (some 1)∧AObj.sc 2 (AObj.rw (List.map (Value.int IntKind.i64) (fR l (y-1))) (some 1))=true)∧True)∧Ob (Value.slice (some (ad0 0)) l.length c=Value.slice (some (ad0 0)) l.length c)∧Ob ((am:Int)=(am:Int))∧Ob (Value.slice (some (ad0 1)) 1 1=Value.slice (some ⟨1,0,some 0⟩) y 0)∧Ob ((1:Int)=(y:Int))∧True)∧(∀ (x:Unit),Ob True→(decide ((1:Int)≤(am:Int))=true→(∃ (y:Nat),Ob (y≤l.length)∧(Ob (AObj.ro (List.map (Value.int IntKind.i64) l)=AObj.ro (List.map (nmap1 fun (b:Nat)↦b) (List.map (Value.int IntKind.i64) l))∧AObj.sc 2 (AObj.ro (List.map (Value.int IntKind.i64) l))=true)∧Ob (AObj.rw [vi (0:Int)] none=AObj.rw [vi (0:Int)] none∧true=true)∧True)∧Ob (Value.slice (some (ad0 0)) l.length c=Value.slice (some (ad0 0)) l.length c)∧Ob ((am:Int)=(am:Int))∧Ob (Value.slice (some (ad0 1)) 1 1=Value.slice (some (ad0 1)) 1 1)∧Ob ((1:Int)=(↑(1:Nat):Int))∧Ob ((-1:Int)=nwF [(0:Int)] l 1 y)∧Ob ((0:Int)=(y:Int))∧True)∧∀ (x:Nat),Ob (x≤l.length)→(decide ((x:Int)<(l.length:Int))=true→Ob ((0:Int)≤(x:Int)∧(x:Int)<(l.length:Int)∧true=true)∧Ob (IntAt IntKind.i64 (List.map (Value.int IntKind.i64) l) (0+(x:Int).toNat * 1))∧(decide ((↑(1:Nat):Int)<getI (List.map (Value.int IntKind.i64) l) (0+(x:Int).toNat * 1))=false→Ob ((0:Int)≤(x:Int)∧(x:Int)<(l.length:Int)∧true=true)∧Ob (IntAt IntKind.i64 (List.map (Value.int IntKind.i64) l) (0+(x:Int).toNat * 1))∧Ob ((0:Int)≤IntKind.i64.wrap ((↑(1:Nat):Int)-getI (List.map (Value.int IntKind.i64) l) (0+(x:Int).toNat * 1))∧IntKind.i64.wrap ((↑(1:Nat):Int)-getI (List.map (Value.int IntKind.i64) l) (0+(x:Int).toNat * 1))<(↑(1:Nat):Int)∧true=true)∧Ob (IntAt IntKind.i64 [vi (0:Int)] (0+(IntKind.i64.wrap ((↑(1:Nat):Int)-getI (List.map (Value.int IntKind.i64) l) (0+(x:Int).toNat * 1))).toNat * 1))∧(decide (getI [vi (0:Int)] (0+(IntKind.i64.wrap ((↑(1:Nat):Int)-getI (List.map (Value.int IntKind.i64) l) (0+(x:Int).toNat * 1))).toNat * 1)<(0:Int))=true→∃ (y:Nat),Ob (y≤l.length)∧Ob (l.length-y<l.length-x)∧(Ob (AObj.ro (List.map (Value.int IntKind.i64) l)=AObj.ro (List.map (nmap1 fun (b:Nat)↦b) (List.map (Value.int IntKind.i64) l))∧AObj.sc 2 (AObj.ro (List.map (Value.int IntKind.i64) l))=true)∧Ob (AObj.rw [vi (0:Int)] none=AObj.rw [vi (0:Int)] none∧true=true)∧True)∧Ob (Value.slice (some (ad0 0)) l.length c=Value.slice (some (ad0 0)) l.length c)∧Ob ((am:Int)=(am:Int))∧Ob (Value.slice (some (ad0 1)) 1 1=Value.slice (some (ad0 1)) 1 1)∧Ob ((↑(1:Nat):Int)=(↑(1:Nat):Int))∧Ob (nwF [(0:Int)] l 1 x=nwF [(0:Int)] l 1 y)∧Ob (IntKind.i64.wrap ((x:Int)+(1:Int))=(y:Int))∧True)∧(decide (getI [vi (0:Int)] (0+(IntKind.i64.wrap ((↑(1:Nat):Int)-getI (List.map (Value.int IntKind.i64) l) (0+(x:Int).toNat * 1))).toNat * 1)<(0:Int))=false→Ob ((0:Int)≤(x:Int)∧(x:Int)<(l.length:Int)∧true=true)∧Ob (IntAt IntKind.i64 (List.map (Value.int IntKind.i64) l) (0+(x:Int).toNat * 1))∧Ob ((0:Int)≤IntKind.i64.wrap ((↑(1:Nat):Int)-getI (List.map (Value.int IntKind.i64) l) (0+(x:Int).toNat * 1))∧IntKind.i64.wrap ((↑(1:Nat):Int)-getI (List.map (Value.int IntKind.i64) l) (0+(x:Int).toNat * 1))<(↑(1:Nat):Int)∧true=true)∧Ob (IntAt IntKind.i64 [vi (0:Int)] (0+(IntKind.i64.wrap ((↑(1:Nat):Int)-getI (List.map (Value.int IntKind.i64) l) (0+(x:Int).toNat * 1))).toNat * 1))∧(decide (nwF [(0:Int)] l 1 x<(0:Int))=false→(decide (IntKind.i64.wrap (getI [vi (0:Int)] (0+(IntKind.i64.wrap ((↑(1:Nat):Int)-getI (List.map (Value.int IntKind.i64) l) (0+(x:Int).toNat * 1))).toNat * 1)+(1:Int))<nwF [(0:Int)] l 1 x)=true→∃ (y:Nat),Ob (y≤l.length)∧Ob (l.length-y<l.length-x)∧(Ob (AObj.ro (List.map (Value.int IntKind.i64) l)=AObj.ro (List.map (nmap1 fun (b:Nat)↦b) (List.map (Value.int IntKind.i64) l))∧AObj.sc 2 (AObj.ro (List.map (Value.int IntKind.i64) l))=true)∧Ob (AObj.rw [vi (0:Int)] none=AObj.rw [vi (0:Int)] none∧true=true)∧True)∧Ob (Value.slice (some (ad0 0)) l.length c=Value.slice (some (ad0 0)) l.length c)∧Ob ((am:Int)=(am:Int))∧Ob (Value.slice (some (ad0 1)) 1 1=Value.slice (some (ad0 1)) 1 1)∧Ob ((↑(1:Nat):Int)=(↑(1:Nat):Int))∧Ob (IntKind.i64.wrap (getI [vi (0:Int)] (0+(IntKind.i64.wrap ((↑(1:Nat):Int)-getI (List.map (Value.int IntKind.i64) l) (0+(x:Int).toNat * 1))).toNat * 1)+(1:Int))=nwF [(0:Int)] l 1 y)∧Ob (IntKind.i64.wrap ((x:Int)+(1:Int))=(y:Int))∧True)∧(decide (IntKind.i64.wrap (getI [vi (0:Int)] (0+(IntKind.i64.wrap ((↑(1:Nat):Int)-getI (List.map (Value.int IntKind.i64) l) (0+(x:Int).toNat * 1))).toNat * 1)+(1:Int))<nwF [(0:Int)] l 1 x)=false→∃ (y:Nat),Ob (y≤l.length)∧Ob (l.length-y<l.length-x)∧(Ob (AObj.ro (List.map (Value.int IntKind.i64) l)=AObj.ro (List.map (nmap1 fun (b:Nat)↦b) (List.map (Value.int IntKind.i64) l))∧AObj.sc 2 (AObj.ro (List.map (Value.int IntKind.i64) l))=true)∧Ob (AObj.rw [vi (0:Int)] none=AObj.rw [vi (0:Int)] none∧true=true)∧True)∧Ob (Value.slice (some (ad0 0)) l.length c=Value.slice (some (ad0 0)) l.length c)∧Ob ((am:Int)=(am:Int))∧Ob (Value.slice (some (ad0 1)) 1 1=Value.slice (some (ad0 1)) 1 1)∧Ob ((↑(1:Nat):Int)=(↑(1:Nat):Int))∧Ob (nwF [(0:Int)] l 1 x=nwF [(0:Int)] l 1 y)∧Ob (IntKind.i64.wrap ((x:Int)+(1:Int))=(y:Int))∧True))∧(decide (nwF [(0:Int)] l 1 x<(0:Int))=true→∃ (y:Nat),Ob (y≤l.length)∧Ob (l.length-y<l.length-x)∧(Ob (AObj.ro (List.map (Value.int IntKind.i64) l)=AObj.ro (List.map (nmap1 fun (b:Nat)↦b) (List.map (Value.int IntKind.i64) l))∧AObj.sc 2 (AObj.ro (List.map (Value.int IntKind.i64) l))=true)∧Ob (AObj.rw [vi (0:Int)] none=AObj.rw [vi (0:Int)] none∧true=true)∧True)∧Ob (Value.slice (some (ad0 0)) l.length c=Value.slice (some (ad0 0)) l.length c)∧Ob ((am:Int)=(am:Int))∧Ob (Value.slice (some (ad0 1)) 1 1=Value.slice (some (ad0 1)) 1 1)∧Ob ((↑(1:Nat):Int)=(↑(1:Nat):Int))∧Ob (IntKind.i64.wrap (getI [vi (0:Int)] (0+(IntKind.i64.wrap ((↑(1:Nat):Int)-getI (List.map (Value.int IntKind.i64) l) (0+(x:Int).toNat * 1))).toNat * 1)+(1:Int))=nwF [(0:Int)] l 1 y)∧Ob (IntKind.i64.wrap ((x:Int)+(1:Int))=(y:Int))∧True)))∧(decide ((↑(1:Nat):Int)<getI (List.map (Value.int IntKind.i64) l) (0+(x:Int).toNat * 1))=true→∃ (y:Nat),Ob (y≤l.length)∧Ob (l.length-y<l.length-x)∧(Ob (AObj.ro (List.map (Value.int IntKind.i64) l)=AObj.ro (List.map (nmap1 fun (b:Nat)↦b) (List.map (Value.int IntKind.i64) l))∧AObj.sc 2 (AObj.ro (List.map (Value.int IntKind.i64) l))=true)∧Ob (AObj.rw [vi (0:Int)] none=AObj.rw [vi (0:Int)] none∧true=true)∧True)∧Ob (Value.slice (some (ad0 0)) l.length c=Value.slice (some (ad0 0)) l.length c)∧Ob ((am:Int)=(am:Int))∧Ob (Value.slice (some (ad0 1)) 1 1=Value.slice (some (ad0 1)) 1 1)∧Ob ((↑(1:Nat):Int)=(↑(1:Nat):Int))∧Ob (nwF [(0:Int)] l 1 x=nwF [(0:Int)] l 1 y)∧Ob (IntKind.i64.wrap ((x:Int)+(1:Int))=(y:Int))∧True))∧(decide ((x:Int)<(l.length:Int))=false→Ob (andP (some (0+1≤1∧true=true)) (2≤1099511627776∧2080≤281474976710656∧1=1∧1<2∧1≤1))∧((∃ (y:Unit),Ob True∧Ob (am+1<am+1)∧(Ob (AObj.ro (List.map (Value.int IntKind.i64) l)=AObj.ro (List.map (nmap1 (nsub 1 3)) (List.map (Value.int IntKind.i64) l))∧AObj.sc 2 (AObj.ro (List.map (Value.int IntKind.i64) l))=true)∧Ob (AObj.rw [vi (0:Int),vi (nwF [(0:Int)] l 1 x)] (some 1)=AObj.rw [vi (0:Int)] none∧true=true)∧True)∧Ob (Value.slice (some (ad0 0)) l.length c=Value.slice (some (ad0 0)) l.length c)∧Ob ((am:Int)=(am:Int))∧Ob (Value.slice (some ⟨3,0,some 0⟩) 2 0=Value.slice (some (ad0 3)) 1 1)∧Ob (IntKind.i64.wrap ((↑(1:Nat):Int)+(1:Int))=(1:Int))∧True)∨∃ (y:Nat),Ob (2≤y∧y≤am+1)∧Ob (am+2-y<am+1)∧(Ob (AObj.ro (List.map (Value.int IntKind.i64) l)=AObj.ro (List.map (nmap1 (nsub 1 3)) (List.map (Value.int IntKind.i64) l))∧AObj.sc 2 (AObj.ro (List.map (Value.int IntKind.i64) l))=true)∧Ob (AObj.rw [vi (0:Int),vi (nwF [(0:Int)] l 1 x)] (some 1)=AObj.rw (List.map (nmap1 (nsub 1 3)) (List.map (Value.int IntKind.i64) (fR l (y-1)))) (some 1)∧AObj.sc 2 (AObj.rw (List.map (Value.int IntKind.i64) (fR l (y-1))) (some 1))=true)∧True)∧Ob (Value.slice (some (ad0 0)) l.length c=Value.slice (some (ad0 0)) l.length c)∧Ob ((am:Int)=(am:Int))∧Ob (Value.slice (some ⟨3,0,some 0⟩) 2 0=Value.slice (some ⟨3,0,some 0⟩) y 0)∧Ob (IntKind.i64.wrap ((↑(1:Nat):Int)+(1:Int))=(y:Int))∧True)))∧(decide ((1:Int)≤(am:Int))=false→(Ob (AObj.ro (List.map (Value.int IntKind.i64) l)=AObj.ro (List.map (nmap1 (nsub 1 1)) (List.map (Value.int IntKind.i64) l))∧AObj.sc 2 (AObj.ro (List.map (Value.int IntKind.i64) l))=true)∧Ob (AObj.rw [vi (0:Int)] none=AObj.rw (List.map (nmap1 (nsub 1 1)) (List.map (Value.int IntKind.i64) (fR l am))) (some 1)∧AObj.sc 2 (AObj.rw (List.map (Value.int IntKind.i64) (fR l am)) (some 1))=true)∧True)∧Ob (Value.slice (some (ad0 1)) 1 1=Value.slice (some ⟨1,0,some 0⟩) (am+1) 0)∧True))∧∀ (x:Nat),Ob (2≤x∧x≤am+1)→(decide ((x:Int)≤(am:Int))=true→(∃ (y:Nat),Ob (y≤l.length)∧(Ob (AObj.ro (List.map (Value.int IntKind.i64) l)=AObj.ro (List.map (nmap1 fun (b:Nat)↦b) (List.map (Value.int IntKind.i64) l))∧AObj.sc 2 (AObj.ro (List.map (Value.int IntKind.i64) l))=true)∧Ob (AObj.rw (List.map (Value.int IntKind.i64) (fR l (x-1))) (some 1)=AObj.rw (List.map (nmap1 fun (b:Nat)↦b) (List.map (Value.int IntKind.i64) (fR l (x-1)))) (some 1)∧AObj.sc 2 (AObj.rw (List.map (Value.int IntKind.i64) (fR l (x-1))) (some 1))=true)∧True)∧Ob (Value.slice (some (ad0 0)) l.length c=Value.slice (some (ad0 0)) l.length c)∧Ob ((am:Int)=(am:Int))∧Ob (Value.slice (some ⟨1,0,some 0⟩) x 0=Value.slice (some ⟨1,0,some 0⟩) x 0)∧Ob ((x:Int)=(x:Int))∧Ob ((-1:Int)=nwF (fR l (x-1)) l x y)∧Ob ((0:Int)=(y:Int))∧True)∧∀ (x_1:Nat),Ob (x_1≤l.length)→(decide ((x_1:Int)<(l.length:Int))=true→Ob ((0:Int)≤(x_1:Int)∧(x_1:Int)<(l.length:Int)∧true=true)∧Ob (IntAt IntKind.i64 (List.map (Value.int IntKind.i64) l) (0+(x_1:Int).toNat * 1))∧(decide ((x:Int)<getI (List.map (Value.int IntKind.i64) l) (0+(x_1:Int).toNat * 1))=false→Ob ((0:Int)≤(x_1:Int)∧(x_1:Int)<(l.length:Int)∧true=true)∧Ob (IntAt IntKind.i64 (List.map (Value.int IntKind.i64) l) (0+(x_1:Int).toNat * 1))∧Ob ((0:Int)≤IntKind.i64.wrap ((x:Int)-getI (List.map (Value.int IntKind.i64) l) (0+(x_1:Int).toNat * 1))∧IntKind.i64.wrap ((x:Int)-getI (List.map (Value.int IntKind.i64) l) (0+(x_1:Int).toNat * 1))<(x:Int)∧true=true)∧Ob (IntAt IntKind.i64 (List.map (Value.int IntKind.i64) (fR l (x-1))) (0+(IntKind.i64.wrap ((x:Int)-getI (List.map (Value.int IntKind.i64) l) (0+(x_1:Int).toNat * 1))).toNat * 1))∧(decide (getI (List.map (Value.int IntKind.i64) (fR l (x-1))) (0+(IntKind.i64.wrap ((x:Int)-getI (List.map (Value.int IntKind.i64) l) (0+(x_1:Int).toNat * 1))).toNat * 1)<(0:Int))=true→∃ (y:Nat),Ob (y≤l.length)∧Ob (l.length-y<l.length-x_1)∧(Ob (AObj.ro (List.map (Value.int IntKind.i64) l)=AObj.ro (List.map (nmap1 fun (b:Nat)↦b) (List.map (Value.int IntKind.i64) l))∧AObj.sc 2 (AObj.ro (List.map (Value.int IntKind.i64) l))=true)∧Ob (AObj.rw (List.map (Value.int IntKind.i64) (fR l (x-1))) (some 1)=AObj.rw (List.map (nmap1 fun (b:Nat)↦b) (List.map (Value.int IntKind.i64) (fR l (x-1)))) (some 1)∧AObj.sc 2 (AObj.rw (List.map (Value.int IntKind.i64) (fR l (x-1))) (some 1))=true)∧True)∧Ob (Value.slice (some (ad0 0)) l.length c=Value.slice (some (ad0 0)) l.length c)∧Ob ((am:Int)=(am:Int))∧Ob (Value.slice (some ⟨1,0,some 0⟩) x 0=Value.slice (some ⟨1,0,some 0⟩) x 0)∧Ob ((x:Int)=(x:Int))∧Ob (nwF (fR l (x-1)) l x x_1=nwF (fR l (x-1)) l x y)∧Ob (IntKind.i64.wrap ((x_1:Int)+(1:Int))=(y:Int))∧True)∧(decide (getI (List.map (Value.int IntKind.i64) (fR l (x-1))) (0+(IntKind.i64.wrap ((x:Int)-getI (List.map (Value.int IntKind.i64) l) (0+(x_1:Int).toNat * 1))).toNat * 1)<(0:Int))=false→Ob ((0:Int)≤(x_1:Int)∧(x_1:Int)<(l.length:Int)∧true=true)∧Ob (IntAt IntKind.i64 (List.map (Value.int IntKind.i64) l) (0+(x_1:Int).toNat * 1))∧Ob ((0:Int)≤IntKind.i64.wrap ((x:Int)-getI (List.map (Value.int IntKind.i64) l) (0+(x_1:Int).toNat * 1))∧IntKind.i64.wrap ((x:Int)-getI (List.map (Value.int IntKind.i64) l) (0+(x_1:Int).toNat * 1))<(x:Int)∧true=true)∧Ob (IntAt IntKind.i64 (List.map (Value.int IntKind.i64) (fR l (x-1))) (0+(IntKind.i64.wrap ((x:Int)-getI (List.map (Value.int IntKind.i64) l) (0+(x_1:Int).toNat * 1))).toNat * 1))∧(decide (nwF (fR l (x-1)) l x x_1<(0:Int))=false→(decide (IntKind.i64.wrap (getI (List.map (Value.int IntKind.i64) (fR l (x-1))) (0+(IntKind.i64.wrap ((x:Int)-getI (List.map (Value.int IntKind.i64) l) (0+(x_1:Int).toNat * 1))).toNat * 1)+(1:Int))<nwF (fR l (x-1)) l x x_1)=true→∃ (y:Nat),Ob (y≤l.length)∧Ob (l.length-y<l.length-x_1)∧(Ob (AObj.ro (List.map (Value.int IntKind.i64) l)=AObj.ro (List.map (nmap1 fun (b:Nat)↦b) (List.map (Value.int IntKind.i64) l))∧AObj.sc 2 (AObj.ro (List.map (Value.int IntKind.i64) l))=true)∧Ob (AObj.rw (List.map (Value.int IntKind.i64) (fR l (x-1))) (some 1)=AObj.rw (List.map (nmap1 fun (b:Nat)↦b) (List.map (Value.int IntKind.i64) (fR l (x-1)))) (some 1)∧AObj.sc 2 (AObj.rw (List.map (Value.int IntKind.i64) (fR l (x-1))) (some 1))=true)∧True)∧Ob (Value.slice (some (ad0 0)) l.length c=Value.slice (some (ad0 0)) l.length c)∧Ob ((am:Int)=(am:Int))∧Ob (Value.slice (some ⟨1,0,some 0⟩) x 0=Value.slice (some ⟨1,0,some 0⟩) x 0)∧Ob ((x:Int)=(x:Int))∧Ob (IntKind.i64.wrap (getI (List.map (Value.int IntKind.i64) (fR l (x-1))) (0+(IntKind.i64.wrap ((x:Int)-getI (List.map (Value.int IntKind.i64) l) (0+(x_1:Int).toNat * 1))).toNat * 1)+(1:Int))=nwF (fR l (x-1)) l x y)∧Ob (IntKind.i64.wrap ((x_1:Int)+(1:Int))=(y:Int))∧True)∧(decide (IntKind.i64.wrap (getI (List.map (Value.int IntKind.i64) (fR l (x-1))) (0+(IntKind.i64.wrap ((x:Int)-getI (List.map (Value.int IntKind.i64) l) (0+(x_1:Int).toNat * 1))).toNat * 1)+(1:Int))<nwF (fR l (x-1)) l x x_1)=false→∃ (y:Nat),Ob (y≤l.length)∧Ob (l.length-y<l.length-x_1)∧(Ob (AObj.ro (List.map (Value.int IntKind.i64) l)=AObj.ro (List.map (nmap1 fun (b:Nat)↦b) (List.map (Value.int IntKind.i64) l))∧AObj.sc 2 (AObj.ro (List.map (Value.int IntKind.i64) l))=true)∧Ob (AObj.rw (List.map (Value.int IntKind.i64) (fR l (x-1))) (some 1)=AObj.rw (List.map (nmap1 fun (b:Nat)↦b) (List.map (Value.int IntKind.i64) (fR l (x-1)))) (some 1)∧AObj.sc 2 (AObj.rw (List.map (Value.int IntKind.i64) (fR l (x-1))) (some 1))=true)∧True)∧Ob (Value.slice (some (ad0 0)) l.length c=Value.slice (some (ad0 0)) l.length c)∧Ob ((am:Int)=(am:Int))∧Ob (Value.slice (some ⟨1,0,some 0⟩) x 0=Value.slice (some ⟨1,0,some 0⟩) x 0)∧Ob ((x:Int)=(x:Int))∧Ob (nwF (fR l (x-1)) l x x_1=nwF (fR l (x-1)) l x y)∧Ob (IntKind.i64.wrap ((x_1:Int)+(1:Int))=(y:Int))∧True))∧(decide (nwF (fR l (x-1)) l x x_1<(0:Int))=true→∃ (y:Nat),Ob (y≤l.length)∧Ob (l.length-y<l.length-x_1)∧(Ob (AObj.ro (List.map (Value.int IntKind.i64) l)=AObj.ro (List.map (nmap1 fun (b:Nat)↦b) (List.map (Value.int IntKind.i64) l))∧AObj.sc 2 (AObj.ro (List.map (Value.int IntKind.i64) l))=true)∧Ob (AObj.rw (List.map (Value.int IntKind.i64) (fR l (x-1))) (some 1)=AObj.rw (List.map (nmap1 fun (b:Nat)↦b) (List.map (Value.int IntKind.i64) (fR l (x-1)))) (some 1)∧AObj.sc 2 (AObj.rw (List.map (Value.int IntKind.i64) (fR l (x-1))) (some 1))=true)∧True)∧Ob (Value.slice (some (ad0 0)) l.length c=Value.slice (some (ad0 0)) l.length c)∧Ob ((am:Int)=(am:Int))∧Ob (Value.slice (some ⟨1,0,some 0⟩) x 0=Value.slice (some ⟨1,0,some 0⟩) x 0)∧Ob ((x:Int)=(x:Int))∧Ob (IntKind.i64.wrap (getI (List.map (Value.int IntKind.i64) (fR l (x-1))) (0+(IntKind.i64.wrap ((x:Int)-getI (List.map (Value.int IntKind.i64) l) (0+(x_1:Int).toNat * 1))).toNat * 1)+(1:Int))=nwF (fR l (x-1)) l x y)∧Ob (IntKind.i64.wrap ((x_1:Int)+(1:Int))=(y:Int))∧True)))∧(decide ((x:Int)<getI (List.map (Value.int IntKind.i64) l) (0+(x_1:Int).toNat * 1))=true→∃ (y:Nat),Ob (y≤l.length)∧Ob (l.length-y<l.length-x_1)∧(Ob (AObj.ro (List.map (Value.int IntKind.i64) l)=AObj.ro (List.map (nmap1 fun (b:Nat)↦b) (List.map (Value.int IntKind.i64) l))∧AObj.sc 2 (AObj.ro (List.map (Value.int IntKind.i64) l))=true)∧Ob (AObj.rw (List.map (Value.int IntKind.i64) (fR l (x-1))) (some 1)=AObj.rw (List.map (nmap1 fun (b:Nat)↦b) (List.map (Value.int IntKind.i64) (fR l (x-1)))) (some 1)∧AObj.sc 2 (AObj.rw (List.map (Value.int IntKind.i64) (fR l (x-1))) (some 1))=true)∧True)∧Ob (Value.slice (some (ad0 0)) l.length c=Value.slice (some (ad0 0)) l.length c)∧Ob ((am:Int)=(am:Int))∧Ob (Value.slice (some ⟨1,0,some 0⟩) x 0=Value.slice (some ⟨1,0,some 0⟩) x 0)∧Ob ((x:Int)=(x:Int))∧Ob (nwF (fR l (x-1)) l x x_1=nwF (fR l (x-1)) l x y)∧Ob (IntKind.i64.wrap ((x_1:Int)+(1:Int))=(y:Int))∧True))∧(decide ((x_1:Int)<(l.length:Int))=false→Ob (andP (some (0+1≤1∧true=true)) (x+1≤1099511627776∧(2 * (x+1)+256) * 8≤281474976710656∧1=1∧(List.map (Value.int IntKind.i64) (fR l (x-1))).length=x * 1))∧((∃ (y:Unit),Ob True∧Ob (am+1<am+2-x)∧(Ob (AObj.ro (List.map (Value.int IntKind.i64) l)=AObj.ro (List.map (nmap1 (nsub 1 3)) (List.map (Value.int IntKind.i64) l))∧AObj.sc 2 (AObj.ro (List.map (Value.int IntKind.i64) l))=true)∧Ob (AObj.rw (List.map (Value.int IntKind.i64) (fR l (x-1))++[vi (nwF (fR l (x-1)) l x x_1)]) (some 1)=AObj.rw [vi (0:Int)] none∧true=true)∧True)∧Ob (Value.slice (some (ad0 0)) l.length c=Value.slice (some (ad0 0)) l.length c)∧Ob ((am:Int)=(am:Int))∧Ob (Value.slice (some ⟨3,0,some 0⟩) (x+1) 0=Value.slice (some (ad0 3)) 1 1)∧Ob (IntKind.i64.wrap ((x:Int)+(1:Int))=(1:Int))∧True)∨∃ (y:Nat),Ob (2≤y∧y≤am+1)∧Ob (am+2-y<am+2-x)∧(Ob (AObj.ro (List.map (Value.int IntKind.i64) l)=AObj.ro (List.map (nmap1 (nsub 1 3)) (List.map (Value.int IntKind.i64) l))∧AObj.sc 2 (AObj.ro (List.map (Value.int IntKind.i64) l))=true)∧Ob (AObj.rw (List.map (Value.int IntKind.i64) (fR l (x-1))++[vi (nwF (fR l (x-1)) l x x_1)]) (some 1)=AObj.rw (List.map (nmap1 (nsub 1 3)) (List.map (Value.int IntKind.i64) (fR l (y-1)))) (some 1)∧AObj.sc 2 (AObj.rw (List.map (Value.int IntKind.i64) (fR l (y-1))) (some 1))=true)∧True)∧Ob (Value.slice (some (ad0 0)) l.length c=Value.slice (some (ad0 0)) l.length c)∧Ob ((am:Int)=(am:Int))∧Ob (Value.slice (some ⟨3,0,some 0⟩) (x+1) 0=Value.slice (some ⟨3,0,some 0⟩) y 0)∧Ob (IntKind.i64.wrap ((x:Int)+(1:Int))=(y:Int))∧True)))∧(decide ((x:Int)≤(am:Int))=false→(Ob (AObj.ro (List.map (Value.int IntKind.i64) l)=AObj.ro (List.map (nmap1 (nsub 1 1)) (List.map (Value.int IntKind.i64) l))∧AObj.sc 2 (AObj.ro (List.map (Value.int IntKind.i64) l))=true)∧Ob (AObj.rw (List.map (Value.int IntKind.i64) (fR l (x-1))) (some 1)=AObj.rw (List.map (nmap1 (nsub 1 1)) (List.map (Value.int IntKind.i64) (fR l am))) (some 1)∧AObj.sc 2 (AObj.rw (List.map (Value.int IntKind.i64) (fR l am)) (some 1))=true)∧True)∧Ob (Value.slice (some ⟨1,0,some 0⟩) x 0=Value.slice (some ⟨1,0,some 0⟩) (am+1) 0)∧True)
theorem foV_eq : foV = fun (l : List Int) (c am : Nat) => vc Try.prog {} 1 63 true (foI l c am) foB [] (argFr 0 [.slice (some ⟨0,0,none⟩) l.length c,vi am]) [ros l] (retR Try.prog Try.f70 1 (nsub 1 1) (uS 1 (am + 1)) [ros l,rws (fR l am)]) := by kernel_rfl
noncomputable def foZ :=
fun (l:List Int) (c:Nat)↦((∃ (y:Unit),Ob True∧(Ob (AObj.ro (List.map (Value.int IntKind.i64) l)=AObj.ro (List.map (nmap1 fun (b:Nat)↦b) (List.map (Value.int IntKind.i64) l))∧AObj.sc 2 (AObj.ro (List.map (Value.int IntKind.i64) l))=true)∧Ob (AObj.rw [vi (0:Int)] none=AObj.rw [vi (0:Int)] none∧true=true)∧True)∧Ob (Value.slice (some (ad0 0)) l.length c=Value.slice (some (ad0 0)) l.length c)∧Ob ((0:Int)=(↑(0:Nat):Int))∧Ob (Value.slice (some (ad0 1)) 1 1=Value.slice (some (ad0 1)) 1 1)∧Ob ((1:Int)=(1:Int))∧True)∨∃ (y:Nat),Ob (2≤y∧y≤1)∧(Ob (AObj.ro (List.map (Value.int IntKind.i64) l)=AObj.ro (List.map (nmap1 fun (b:Nat)↦b) (List.map (Value.int IntKind.i64) l))∧AObj.sc 2 (AObj.ro (List.map (Value.int IntKind.i64) l))=true)∧Ob (AObj.rw [vi (0:Int)] none=AObj.rw (List.map (nmap1 fun (b:Nat)↦b) (List.map (Value.int IntKind.i64) (fR l (y-1)))) (some 1)∧AObj.sc 2 (AObj.rw (List.map (Value.int IntKind.i64) (fR l (y-1))) (some 1))=true)∧True)∧Ob (Value.slice (some (ad0 0)) l.length c=Value.slice (some (ad0 0)) l.length c)∧Ob ((0:Int)=(↑(0:Nat):Int))∧Ob (Value.slice (some (ad0 1)) 1 1=Value.slice (some ⟨1,0,some 0⟩) y 0)∧Ob ((1:Int)=(y:Int))∧True)∧(∀ (x:Unit),Ob True→(false=true→(∃ (y:Nat),Ob (y≤l.length)∧(Ob (AObj.ro (List.map (Value.int IntKind.i64) l)=AObj.ro (List.map (nmap1 fun (b:Nat)↦b) (List.map (Value.int IntKind.i64) l))∧AObj.sc 2 (AObj.ro (List.map (Value.int IntKind.i64) l))=true)∧Ob (AObj.rw [vi (0:Int)] none=AObj.rw [vi (0:Int)] none∧true=true)∧True)∧Ob (Value.slice (some (ad0 0)) l.length c=Value.slice (some (ad0 0)) l.length c)∧Ob ((↑(0:Nat):Int)=(↑(0:Nat):Int))∧Ob (Value.slice (some (ad0 1)) 1 1=Value.slice (some (ad0 1)) 1 1)∧Ob ((1:Int)=(↑(1:Nat):Int))∧Ob ((-1:Int)=nwF [(0:Int)] l 1 y)∧Ob ((0:Int)=(y:Int))∧True)∧∀ (x:Nat),Ob (x≤l.length)→(decide ((x:Int)<(l.length:Int))=true→Ob ((0:Int)≤(x:Int)∧(x:Int)<(l.length:Int)∧true=true)∧Ob (IntAt IntKind.i64 (List.map (Value.int IntKind.i64) l) (0+(x:Int).toNat * 1))∧(decide ((↑(1:Nat):Int)<getI (List.map (Value.int IntKind.i64) l) (0+(x:Int).toNat * 1))=false→Ob ((0:Int)≤(x:Int)∧(x:Int)<(l.length:Int)∧true=true)∧Ob (IntAt IntKind.i64 (List.map (Value.int IntKind.i64) l) (0+(x:Int).toNat * 1))∧Ob ((0:Int)≤IntKind.i64.wrap ((↑(1:Nat):Int)-getI (List.map (Value.int IntKind.i64) l) (0+(x:Int).toNat * 1))∧IntKind.i64.wrap ((↑(1:Nat):Int)-getI (List.map (Value.int IntKind.i64) l) (0+(x:Int).toNat * 1))<(↑(1:Nat):Int)∧true=true)∧Ob (IntAt IntKind.i64 [vi (0:Int)] (0+(IntKind.i64.wrap ((↑(1:Nat):Int)-getI (List.map (Value.int IntKind.i64) l) (0+(x:Int).toNat * 1))).toNat * 1))∧(decide (getI [vi (0:Int)] (0+(IntKind.i64.wrap ((↑(1:Nat):Int)-getI (List.map (Value.int IntKind.i64) l) (0+(x:Int).toNat * 1))).toNat * 1)<(0:Int))=true→∃ (y:Nat),Ob (y≤l.length)∧Ob (l.length-y<l.length-x)∧(Ob (AObj.ro (List.map (Value.int IntKind.i64) l)=AObj.ro (List.map (nmap1 fun (b:Nat)↦b) (List.map (Value.int IntKind.i64) l))∧AObj.sc 2 (AObj.ro (List.map (Value.int IntKind.i64) l))=true)∧Ob (AObj.rw [vi (0:Int)] none=AObj.rw [vi (0:Int)] none∧true=true)∧True)∧Ob (Value.slice (some (ad0 0)) l.length c=Value.slice (some (ad0 0)) l.length c)∧Ob ((↑(0:Nat):Int)=(↑(0:Nat):Int))∧Ob (Value.slice (some (ad0 1)) 1 1=Value.slice (some (ad0 1)) 1 1)∧Ob ((↑(1:Nat):Int)=(↑(1:Nat):Int))∧Ob (nwF [(0:Int)] l 1 x=nwF [(0:Int)] l 1 y)∧Ob (IntKind.i64.wrap ((x:Int)+(1:Int))=(y:Int))∧True)∧(decide (getI [vi (0:Int)] (0+(IntKind.i64.wrap ((↑(1:Nat):Int)-getI (List.map (Value.int IntKind.i64) l) (0+(x:Int).toNat * 1))).toNat * 1)<(0:Int))=false→Ob ((0:Int)≤(x:Int)∧(x:Int)<(l.length:Int)∧true=true)∧Ob (IntAt IntKind.i64 (List.map (Value.int IntKind.i64) l) (0+(x:Int).toNat * 1))∧Ob ((0:Int)≤IntKind.i64.wrap ((↑(1:Nat):Int)-getI (List.map (Value.int IntKind.i64) l) (0+(x:Int).toNat * 1))∧IntKind.i64.wrap ((↑(1:Nat):Int)-getI (List.map (Value.int IntKind.i64) l) (0+(x:Int).toNat * 1))<(↑(1:Nat):Int)∧true=true)∧Ob (IntAt IntKind.i64 [vi (0:Int)] (0+(IntKind.i64.wrap ((↑(1:Nat):Int)-getI (List.map (Value.int IntKind.i64) l) (0+(x:Int).toNat * 1))).toNat * 1))∧(decide (nwF [(0:Int)] l 1 x<(0:Int))=false→(decide (IntKind.i64.wrap (getI [vi (0:Int)] (0+(IntKind.i64.wrap ((↑(1:Nat):Int)-getI (List.map (Value.int IntKind.i64) l) (0+(x:Int).toNat * 1))).toNat * 1)+(1:Int))<nwF [(0:Int)] l 1 x)=true→∃ (y:Nat),Ob (y≤l.length)∧Ob (l.length-y<l.length-x)∧(Ob (AObj.ro (List.map (Value.int IntKind.i64) l)=AObj.ro (List.map (nmap1 fun (b:Nat)↦b) (List.map (Value.int IntKind.i64) l))∧AObj.sc 2 (AObj.ro (List.map (Value.int IntKind.i64) l))=true)∧Ob (AObj.rw [vi (0:Int)] none=AObj.rw [vi (0:Int)] none∧true=true)∧True)∧Ob (Value.slice (some (ad0 0)) l.length c=Value.slice (some (ad0 0)) l.length c)∧Ob ((↑(0:Nat):Int)=(↑(0:Nat):Int))∧Ob (Value.slice (some (ad0 1)) 1 1=Value.slice (some (ad0 1)) 1 1)∧Ob ((↑(1:Nat):Int)=(↑(1:Nat):Int))∧Ob (IntKind.i64.wrap (getI [vi (0:Int)] (0+(IntKind.i64.wrap ((↑(1:Nat):Int)-getI (List.map (Value.int IntKind.i64) l) (0+(x:Int).toNat * 1))).toNat * 1)+(1:Int))=nwF [(0:Int)] l 1 y)∧Ob (IntKind.i64.wrap ((x:Int)+(1:Int))=(y:Int))∧True)∧(decide (IntKind.i64.wrap (getI [vi (0:Int)] (0+(IntKind.i64.wrap ((↑(1:Nat):Int)-getI (List.map (Value.int IntKind.i64) l) (0+(x:Int).toNat * 1))).toNat * 1)+(1:Int))<nwF [(0:Int)] l 1 x)=false→∃ (y:Nat),Ob (y≤l.length)∧Ob (l.length-y<l.length-x)∧(Ob (AObj.ro (List.map (Value.int IntKind.i64) l)=AObj.ro (List.map (nmap1 fun (b:Nat)↦b) (List.map (Value.int IntKind.i64) l))∧AObj.sc 2 (AObj.ro (List.map (Value.int IntKind.i64) l))=true)∧Ob (AObj.rw [vi (0:Int)] none=AObj.rw [vi (0:Int)] none∧true=true)∧True)∧Ob (Value.slice (some (ad0 0)) l.length c=Value.slice (some (ad0 0)) l.length c)∧Ob ((↑(0:Nat):Int)=(↑(0:Nat):Int))∧Ob (Value.slice (some (ad0 1)) 1 1=Value.slice (some (ad0 1)) 1 1)∧Ob ((↑(1:Nat):Int)=(↑(1:Nat):Int))∧Ob (nwF [(0:Int)] l 1 x=nwF [(0:Int)] l 1 y)∧Ob (IntKind.i64.wrap ((x:Int)+(1:Int))=(y:Int))∧True))∧(decide (nwF [(0:Int)] l 1 x<(0:Int))=true→∃ (y:Nat),Ob (y≤l.length)∧Ob (l.length-y<l.length-x)∧(Ob (AObj.ro (List.map (Value.int IntKind.i64) l)=AObj.ro (List.map (nmap1 fun (b:Nat)↦b) (List.map (Value.int IntKind.i64) l))∧AObj.sc 2 (AObj.ro (List.map (Value.int IntKind.i64) l))=true)∧Ob (AObj.rw [vi (0:Int)] none=AObj.rw [vi (0:Int)] none∧true=true)∧True)∧Ob (Value.slice (some (ad0 0)) l.length c=Value.slice (some (ad0 0)) l.length c)∧Ob ((↑(0:Nat):Int)=(↑(0:Nat):Int))∧Ob (Value.slice (some (ad0 1)) 1 1=Value.slice (some (ad0 1)) 1 1)∧Ob ((↑(1:Nat):Int)=(↑(1:Nat):Int))∧Ob (IntKind.i64.wrap (getI [vi (0:Int)] (0+(IntKind.i64.wrap ((↑(1:Nat):Int)-getI (List.map (Value.int IntKind.i64) l) (0+(x:Int).toNat * 1))).toNat * 1)+(1:Int))=nwF [(0:Int)] l 1 y)∧Ob (IntKind.i64.wrap ((x:Int)+(1:Int))=(y:Int))∧True)))∧(decide ((↑(1:Nat):Int)<getI (List.map (Value.int IntKind.i64) l) (0+(x:Int).toNat * 1))=true→∃ (y:Nat),Ob (y≤l.length)∧Ob (l.length-y<l.length-x)∧(Ob (AObj.ro (List.map (Value.int IntKind.i64) l)=AObj.ro (List.map (nmap1 fun (b:Nat)↦b) (List.map (Value.int IntKind.i64) l))∧AObj.sc 2 (AObj.ro (List.map (Value.int IntKind.i64) l))=true)∧Ob (AObj.rw [vi (0:Int)] none=AObj.rw [vi (0:Int)] none∧true=true)∧True)∧Ob (Value.slice (some (ad0 0)) l.length c=Value.slice (some (ad0 0)) l.length c)∧Ob ((↑(0:Nat):Int)=(↑(0:Nat):Int))∧Ob (Value.slice (some (ad0 1)) 1 1=Value.slice (some (ad0 1)) 1 1)∧Ob ((↑(1:Nat):Int)=(↑(1:Nat):Int))∧Ob (nwF [(0:Int)] l 1 x=nwF [(0:Int)] l 1 y)∧Ob (IntKind.i64.wrap ((x:Int)+(1:Int))=(y:Int))∧True))∧(decide ((x:Int)<(l.length:Int))=false→Ob (andP (some (0+1≤1∧true=true)) (2≤1099511627776∧2080≤281474976710656∧1=1∧1<2∧1≤1))∧((∃ (y:Unit),Ob True∧Ob (1<1)∧(Ob (AObj.ro (List.map (Value.int IntKind.i64) l)=AObj.ro (List.map (nmap1 (nsub 1 3)) (List.map (Value.int IntKind.i64) l))∧AObj.sc 2 (AObj.ro (List.map (Value.int IntKind.i64) l))=true)∧Ob (AObj.rw [vi (0:Int),vi (nwF [(0:Int)] l 1 x)] (some 1)=AObj.rw [vi (0:Int)] none∧true=true)∧True)∧Ob (Value.slice (some (ad0 0)) l.length c=Value.slice (some (ad0 0)) l.length c)∧Ob ((↑(0:Nat):Int)=(↑(0:Nat):Int))∧Ob (Value.slice (some ⟨3,0,some 0⟩) 2 0=Value.slice (some (ad0 3)) 1 1)∧Ob (IntKind.i64.wrap ((↑(1:Nat):Int)+(1:Int))=(1:Int))∧True)∨∃ (y:Nat),Ob (2≤y∧y≤1)∧Ob (2-y<1)∧(Ob (AObj.ro (List.map (Value.int IntKind.i64) l)=AObj.ro (List.map (nmap1 (nsub 1 3)) (List.map (Value.int IntKind.i64) l))∧AObj.sc 2 (AObj.ro (List.map (Value.int IntKind.i64) l))=true)∧Ob (AObj.rw [vi (0:Int),vi (nwF [(0:Int)] l 1 x)] (some 1)=AObj.rw (List.map (nmap1 (nsub 1 3)) (List.map (Value.int IntKind.i64) (fR l (y-1)))) (some 1)∧AObj.sc 2 (AObj.rw (List.map (Value.int IntKind.i64) (fR l (y-1))) (some 1))=true)∧True)∧Ob (Value.slice (some (ad0 0)) l.length c=Value.slice (some (ad0 0)) l.length c)∧Ob ((↑(0:Nat):Int)=(↑(0:Nat):Int))∧Ob (Value.slice (some ⟨3,0,some 0⟩) 2 0=Value.slice (some ⟨3,0,some 0⟩) y 0)∧Ob (IntKind.i64.wrap ((↑(1:Nat):Int)+(1:Int))=(y:Int))∧True)))∧(false=false→(Ob (AObj.ro (List.map (Value.int IntKind.i64) l)=AObj.ro (List.map (nmap1 (nsub 1 1)) (List.map (Value.int IntKind.i64) l))∧AObj.sc 2 (AObj.ro (List.map (Value.int IntKind.i64) l))=true)∧Ob (AObj.rw [vi (0:Int)] none=AObj.rw [vi (0:Int)] none∧true=true)∧True)∧Ob (Value.slice (some (ad0 1)) 1 1=Value.slice (some (ad0 1)) 1 1)∧True))∧∀ (x:Nat),Ob (2≤x∧x≤1)→(decide ((x:Int)≤(↑(0:Nat):Int))=true→(∃ (y:Nat),Ob (y≤l.length)∧(Ob (AObj.ro (List.map (Value.int IntKind.i64) l)=AObj.ro (List.map (nmap1 fun (b:Nat)↦b) (List.map (Value.int IntKind.i64) l))∧AObj.sc 2 (AObj.ro (List.map (Value.int IntKind.i64) l))=true)∧Ob (AObj.rw (List.map (Value.int IntKind.i64) (fR l (x-1))) (some 1)=AObj.rw (List.map (nmap1 fun (b:Nat)↦b) (List.map (Value.int IntKind.i64) (fR l (x-1)))) (some 1)∧AObj.sc 2 (AObj.rw (List.map (Value.int IntKind.i64) (fR l (x-1))) (some 1))=true)∧True)∧Ob (Value.slice (some (ad0 0)) l.length c=Value.slice (some (ad0 0)) l.length c)∧Ob ((↑(0:Nat):Int)=(↑(0:Nat):Int))∧Ob (Value.slice (some ⟨1,0,some 0⟩) x 0=Value.slice (some ⟨1,0,some 0⟩) x 0)∧Ob ((x:Int)=(x:Int))∧Ob ((-1:Int)=nwF (fR l (x-1)) l x y)∧Ob ((0:Int)=(y:Int))∧True)∧∀ (x_1:Nat),Ob (x_1≤l.length)→(decide ((x_1:Int)<(l.length:Int))=true→Ob ((0:Int)≤(x_1:Int)∧(x_1:Int)<(l.length:Int)∧true=true)∧Ob (IntAt IntKind.i64 (List.map (Value.int IntKind.i64) l) (0+(x_1:Int).toNat * 1))∧(decide ((x:Int)<getI (List.map (Value.int IntKind.i64) l) (0+(x_1:Int).toNat * 1))=false→Ob ((0:Int)≤(x_1:Int)∧(x_1:Int)<(l.length:Int)∧true=true)∧Ob (IntAt IntKind.i64 (List.map (Value.int IntKind.i64) l) (0+(x_1:Int).toNat * 1))∧Ob ((0:Int)≤IntKind.i64.wrap ((x:Int)-getI (List.map (Value.int IntKind.i64) l) (0+(x_1:Int).toNat * 1))∧IntKind.i64.wrap ((x:Int)-getI (List.map (Value.int IntKind.i64) l) (0+(x_1:Int).toNat * 1))<(x:Int)∧true=true)∧Ob (IntAt IntKind.i64 (List.map (Value.int IntKind.i64) (fR l (x-1))) (0+(IntKind.i64.wrap ((x:Int)-getI (List.map (Value.int IntKind.i64) l) (0+(x_1:Int).toNat * 1))).toNat * 1))∧(decide (getI (List.map (Value.int IntKind.i64) (fR l (x-1))) (0+(IntKind.i64.wrap ((x:Int)-getI (List.map (Value.int IntKind.i64) l) (0+(x_1:Int).toNat * 1))).toNat * 1)<(0:Int))=true→∃ (y:Nat),Ob (y≤l.length)∧Ob (l.length-y<l.length-x_1)∧(Ob (AObj.ro (List.map (Value.int IntKind.i64) l)=AObj.ro (List.map (nmap1 fun (b:Nat)↦b) (List.map (Value.int IntKind.i64) l))∧AObj.sc 2 (AObj.ro (List.map (Value.int IntKind.i64) l))=true)∧Ob (AObj.rw (List.map (Value.int IntKind.i64) (fR l (x-1))) (some 1)=AObj.rw (List.map (nmap1 fun (b:Nat)↦b) (List.map (Value.int IntKind.i64) (fR l (x-1)))) (some 1)∧AObj.sc 2 (AObj.rw (List.map (Value.int IntKind.i64) (fR l (x-1))) (some 1))=true)∧True)∧Ob (Value.slice (some (ad0 0)) l.length c=Value.slice (some (ad0 0)) l.length c)∧Ob ((↑(0:Nat):Int)=(↑(0:Nat):Int))∧Ob (Value.slice (some ⟨1,0,some 0⟩) x 0=Value.slice (some ⟨1,0,some 0⟩) x 0)∧Ob ((x:Int)=(x:Int))∧Ob (nwF (fR l (x-1)) l x x_1=nwF (fR l (x-1)) l x y)∧Ob (IntKind.i64.wrap ((x_1:Int)+(1:Int))=(y:Int))∧True)∧(decide (getI (List.map (Value.int IntKind.i64) (fR l (x-1))) (0+(IntKind.i64.wrap ((x:Int)-getI (List.map (Value.int IntKind.i64) l) (0+(x_1:Int).toNat * 1))).toNat * 1)<(0:Int))=false→Ob ((0:Int)≤(x_1:Int)∧(x_1:Int)<(l.length:Int)∧true=true)∧Ob (IntAt IntKind.i64 (List.map (Value.int IntKind.i64) l) (0+(x_1:Int).toNat * 1))∧Ob ((0:Int)≤IntKind.i64.wrap ((x:Int)-getI (List.map (Value.int IntKind.i64) l) (0+(x_1:Int).toNat * 1))∧IntKind.i64.wrap ((x:Int)-getI (List.map (Value.int IntKind.i64) l) (0+(x_1:Int).toNat * 1))<(x:Int)∧true=true)∧Ob (IntAt IntKind.i64 (List.map (Value.int IntKind.i64) (fR l (x-1))) (0+(IntKind.i64.wrap ((x:Int)-getI (List.map (Value.int IntKind.i64) l) (0+(x_1:Int).toNat * 1))).toNat * 1))∧(decide (nwF (fR l (x-1)) l x x_1<(0:Int))=false→(decide (IntKind.i64.wrap (getI (List.map (Value.int IntKind.i64) (fR l (x-1))) (0+(IntKind.i64.wrap ((x:Int)-getI (List.map (Value.int IntKind.i64) l) (0+(x_1:Int).toNat * 1))).toNat * 1)+(1:Int))<nwF (fR l (x-1)) l x x_1)=true→∃ (y:Nat),Ob (y≤l.length)∧Ob (l.length-y<l.length-x_1)∧(Ob (AObj.ro (List.map (Value.int IntKind.i64) l)=AObj.ro (List.map (nmap1 fun (b:Nat)↦b) (List.map (Value.int IntKind.i64) l))∧AObj.sc 2 (AObj.ro (List.map (Value.int IntKind.i64) l))=true)∧Ob (AObj.rw (List.map (Value.int IntKind.i64) (fR l (x-1))) (some 1)=AObj.rw (List.map (nmap1 fun (b:Nat)↦b) (List.map (Value.int IntKind.i64) (fR l (x-1)))) (some 1)∧AObj.sc 2 (AObj.rw (List.map (Value.int IntKind.i64) (fR l (x-1))) (some 1))=true)∧True)∧Ob (Value.slice (some (ad0 0)) l.length c=Value.slice (some (ad0 0)) l.length c)∧Ob ((↑(0:Nat):Int)=(↑(0:Nat):Int))∧Ob (Value.slice (some ⟨1,0,some 0⟩) x 0=Value.slice (some ⟨1,0,some 0⟩) x 0)∧Ob ((x:Int)=(x:Int))∧Ob (IntKind.i64.wrap (getI (List.map (Value.int IntKind.i64) (fR l (x-1))) (0+(IntKind.i64.wrap ((x:Int)-getI (List.map (Value.int IntKind.i64) l) (0+(x_1:Int).toNat * 1))).toNat * 1)+(1:Int))=nwF (fR l (x-1)) l x y)∧Ob (IntKind.i64.wrap ((x_1:Int)+(1:Int))=(y:Int))∧True)∧(decide (IntKind.i64.wrap (getI (List.map (Value.int IntKind.i64) (fR l (x-1))) (0+(IntKind.i64.wrap ((x:Int)-getI (List.map (Value.int IntKind.i64) l) (0+(x_1:Int).toNat * 1))).toNat * 1)+(1:Int))<nwF (fR l (x-1)) l x x_1)=false→∃ (y:Nat),Ob (y≤l.length)∧Ob (l.length-y<l.length-x_1)∧(Ob (AObj.ro (List.map (Value.int IntKind.i64) l)=AObj.ro (List.map (nmap1 fun (b:Nat)↦b) (List.map (Value.int IntKind.i64) l))∧AObj.sc 2 (AObj.ro (List.map (Value.int IntKind.i64) l))=true)∧Ob (AObj.rw (List.map (Value.int IntKind.i64) (fR l (x-1))) (some 1)=AObj.rw (List.map (nmap1 fun (b:Nat)↦b) (List.map (Value.int IntKind.i64) (fR l (x-1)))) (some 1)∧AObj.sc 2 (AObj.rw (List.map (Value.int IntKind.i64) (fR l (x-1))) (some 1))=true)∧True)∧Ob (Value.slice (some (ad0 0)) l.length c=Value.slice (some (ad0 0)) l.length c)∧Ob ((↑(0:Nat):Int)=(↑(0:Nat):Int))∧Ob (Value.slice (some ⟨1,0,some 0⟩) x 0=Value.slice (some ⟨1,0,some 0⟩) x 0)∧Ob ((x:Int)=(x:Int))∧Ob (nwF (fR l (x-1)) l x x_1=nwF (fR l (x-1)) l x y)∧Ob (IntKind.i64.wrap ((x_1:Int)+(1:Int))=(y:Int))∧True))∧(decide (nwF (fR l (x-1)) l x x_1<(0:Int))=true→∃ (y:Nat),Ob (y≤l.length)∧Ob (l.length-y<l.length-x_1)∧(Ob (AObj.ro (List.map (Value.int IntKind.i64) l)=AObj.ro (List.map (nmap1 fun (b:Nat)↦b) (List.map (Value.int IntKind.i64) l))∧AObj.sc 2 (AObj.ro (List.map (Value.int IntKind.i64) l))=true)∧Ob (AObj.rw (List.map (Value.int IntKind.i64) (fR l (x-1))) (some 1)=AObj.rw (List.map (nmap1 fun (b:Nat)↦b) (List.map (Value.int IntKind.i64) (fR l (x-1)))) (some 1)∧AObj.sc 2 (AObj.rw (List.map (Value.int IntKind.i64) (fR l (x-1))) (some 1))=true)∧True)∧Ob (Value.slice (some (ad0 0)) l.length c=Value.slice (some (ad0 0)) l.length c)∧Ob ((↑(0:Nat):Int)=(↑(0:Nat):Int))∧Ob (Value.slice (some ⟨1,0,some 0⟩) x 0=Value.slice (some ⟨1,0,some 0⟩) x 0)∧Ob ((x:Int)=(x:Int))∧Ob (IntKind.i64.wrap (getI (List.map (Value.int IntKind.i64) (fR l (x-1))) (0+(IntKind.i64.wrap ((x:Int)-getI (List.map (Value.int IntKind.i64) l) (0+(x_1:Int).toNat * 1))).toNat * 1)+(1:Int))=nwF (fR l (x-1)) l x y)∧Ob (IntKind.i64.wrap ((x_1:Int)+(1:Int))=(y:Int))∧True)))∧(decide ((x:Int)<getI (List.map (Value.int IntKind.i64) l) (0+(x_1:Int).toNat * 1))=true→∃ (y:Nat),Ob (y≤l.length)∧Ob (l.length-y<l.length-x_1)∧(Ob (AObj.ro (List.map (Value.int IntKind.i64) l)=AObj.ro (List.map (nmap1 fun (b:Nat)↦b) (List.map (Value.int IntKind.i64) l))∧AObj.sc 2 (AObj.ro (List.map (Value.int IntKind.i64) l))=true)∧Ob (AObj.rw (List.map (Value.int IntKind.i64) (fR l (x-1))) (some 1)=AObj.rw (List.map (nmap1 fun (b:Nat)↦b) (List.map (Value.int IntKind.i64) (fR l (x-1)))) (some 1)∧AObj.sc 2 (AObj.rw (List.map (Value.int IntKind.i64) (fR l (x-1))) (some 1))=true)∧True)∧Ob (Value.slice (some (ad0 0)) l.length c=Value.slice (some (ad0 0)) l.length c)∧Ob ((↑(0:Nat):Int)=(↑(0:Nat):Int))∧Ob (Value.slice (some ⟨1,0,some 0⟩) x 0=Value.slice (some ⟨1,0,some 0⟩) x 0)∧Ob ((x:Int)=(x:Int))∧Ob (nwF (fR l (x-1)) l x x_1=nwF (fR l (x-1)) l x y)∧Ob (IntKind.i64.wrap ((x_1:Int)+(1:Int))=(y:Int))∧True))∧(decide ((x_1:Int)<(l.length:Int))=false→Ob (andP (some (0+1≤1∧true=true)) (x+1≤1099511627776∧(2 * (x+1)+256) * 8≤281474976710656∧1=1∧(List.map (Value.int IntKind.i64) (fR l (x-1))).length=x * 1))∧((∃ (y:Unit),Ob True∧Ob (1<2-x)∧(Ob (AObj.ro (List.map (Value.int IntKind.i64) l)=AObj.ro (List.map (nmap1 (nsub 1 3)) (List.map (Value.int IntKind.i64) l))∧AObj.sc 2 (AObj.ro (List.map (Value.int IntKind.i64) l))=true)∧Ob (AObj.rw (List.map (Value.int IntKind.i64) (fR l (x-1))++[vi (nwF (fR l (x-1)) l x x_1)]) (some 1)=AObj.rw [vi (0:Int)] none∧true=true)∧True)∧Ob (Value.slice (some (ad0 0)) l.length c=Value.slice (some (ad0 0)) l.length c)∧Ob ((↑(0:Nat):Int)=(↑(0:Nat):Int))∧Ob (Value.slice (some ⟨3,0,some 0⟩) (x+1) 0=Value.slice (some (ad0 3)) 1 1)∧Ob (IntKind.i64.wrap ((x:Int)+(1:Int))=(1:Int))∧True)∨∃ (y:Nat),Ob (2≤y∧y≤1)∧Ob (2-y<2-x)∧(Ob (AObj.ro (List.map (Value.int IntKind.i64) l)=AObj.ro (List.map (nmap1 (nsub 1 3)) (List.map (Value.int IntKind.i64) l))∧AObj.sc 2 (AObj.ro (List.map (Value.int IntKind.i64) l))=true)∧Ob (AObj.rw (List.map (Value.int IntKind.i64) (fR l (x-1))++[vi (nwF (fR l (x-1)) l x x_1)]) (some 1)=AObj.rw (List.map (nmap1 (nsub 1 3)) (List.map (Value.int IntKind.i64) (fR l (y-1)))) (some 1)∧AObj.sc 2 (AObj.rw (List.map (Value.int IntKind.i64) (fR l (y-1))) (some 1))=true)∧True)∧Ob (Value.slice (some (ad0 0)) l.length c=Value.slice (some (ad0 0)) l.length c)∧Ob ((↑(0:Nat):Int)=(↑(0:Nat):Int))∧Ob (Value.slice (some ⟨3,0,some 0⟩) (x+1) 0=Value.slice (some ⟨3,0,some 0⟩) y 0)∧Ob (IntKind.i64.wrap ((x:Int)+(1:Int))=(y:Int))∧True)))∧(decide ((x:Int)≤(↑(0:Nat):Int))=false→(Ob (AObj.ro (List.map (Value.int IntKind.i64) l)=AObj.ro (List.map (nmap1 (nsub 1 1)) (List.map (Value.int IntKind.i64) l))∧AObj.sc 2 (AObj.ro (List.map (Value.int IntKind.i64) l))=true)∧Ob (AObj.rw (List.map (Value.int IntKind.i64) (fR l (x-1))) (some 1)=AObj.rw [vi (0:Int)] none∧true=true)∧True)∧Ob (Value.slice (some ⟨1,0,some 0⟩) x 0=Value.slice (some (ad0 1)) 1 1)∧True)
theorem foZ_eq : foZ = fun (l : List Int) (c : Nat) => vc Try.prog {} 1 63 true (foI l c 0) foB [] (argFr 0 [.slice (some ⟨0,0,none⟩) l.length c,vi 0]) [ros l] (retR Try.prog Try.f70 1 (nsub 1 1) (.slice (some ⟨1,0,none⟩) 1 1) [ros l,.rw [vi 0] none]) := by kernel_rfl
theorem fR_len {l : List Int} : ∀ a,(fR l a).length = a + 1
 | 0 => rfl
 | a + 1 => by rw [fR,List.length_append,fR_len a]; rfl
theorem add_few {l : List Int} (hc : Coins l) {k : Nat} (hk : k < l.length) {y : Nat} (hy : y + (l.getD k 0).toNat≤9999) (h : canB l y = true) : m5 (bF l (y + (l.getD k 0).toNat))≤m5 (bF l y) + 1 := by
 have hr := coin_rng hc hk
 obtain ⟨p,q⟩ := ((best_is hc y (by omega)).1 h).1
 have := ((best_is hc _ hy).2 (up (bF l y) k 1) ⟨fun j hj => by
   have := p j hj
   unfold up
   split <;> omega,by rw [dot_up,q,if_pos hk]; omega⟩).2
 rw [pf_up,if_pos hk,← best_m5 hc (by omega) h] at this
 exact this
theorem sub_few {l : List Int} (hc : Coins l) {x : Nat} (hx : 0 < x) (hx9 : x≤9999) (h : canB l x = true) : ∃ k,k < l.length∧(l.getD k 0).toNat≤x∧canB l (x - (l.getD k 0).toNat) = true∧m5 (bF l (x - (l.getD k 0).toNat)) + 1≤m5 (bF l x) := by
 obtain ⟨p,q⟩ := ((best_is hc x hx9).1 h).1
 obtain ⟨k,hk,hp⟩ := dot_pos (l := l) l.length (fun j hj => ⟨by have := coin_rng hc hj; omega,p j hj⟩) (by rw [q]; omega)
 have hr := coin_rng hc hk
 have hz : isCh l (x - l.getD k 0) (up (bF l x) k (-1)) := ⟨fun j hj => by
   have := p j hj
   unfold up
   split
   · rename_i e
     rw [e]; omega
   · omega,by rw [dot_up,q,if_pos hk]; omega⟩
 have h0 := dot_nonneg (l := l) l.length (fun j hj => ⟨by have := coin_rng hc hj; omega,hz.1 j hj⟩)
 rw [hz.2] at h0
 have e : ((x - (l.getD k 0).toNat : Nat) : Int) = x - l.getD k 0 := by omega
 have hb := (best_is hc (x - (l.getD k 0).toNat) (by omega)).2 (up (bF l x) k (-1)) (by rw [e]; exact hz)
 rw [pf_up,if_pos hk,← best_m5 hc hx9 h] at hb
 exact ⟨k,hk,by omega,hb.1,by omega⟩
def fvA (l : List Int) (b : Nat) : Int := if canB l b = true then m5 (bF l b) else -1
theorem m5_pos {l : List Int} (hc : Coins l) {b : Nat} (hb : b≤9999) (h : canB l b = true) : 0≤m5 (bF l b) := by
 rw [best_m5 hc hb h]
 obtain ⟨p,_⟩ := ((best_is hc b hb).1 h).1
 have : ∀ n,n≤l.length→0≤pf (bF l b) n := fun n => by
   induction n with
   | zero => intro _; exact Int.le_refl _
   | succ n ih =>
     intro hn
     have := ih (by omega)
     have := p n (by omega)
     rw [pf]; omega
 exact this _ (Nat.le_refl _)
theorem nw_val {l r : List Int} (hc : Coins l) {a : Nat} (ha9 : a≤9999) (h : ∀ b,b < a→r.getD b 0 = fvA l b) : ∀ i,i≤l.length →
   (nwF r l a i = -1∧∀ k,k < i→(l.getD k 0).toNat≤a→canB l (a - (l.getD k 0).toNat) = false) ∨
   ((∃ k,k < i∧(l.getD k 0).toNat≤a∧canB l (a - (l.getD k 0).toNat) = true∧nwF r l a i = m5 (bF l (a - (l.getD k 0).toNat)) + 1)∧∀ k,k < i→(l.getD k 0).toNat≤a→canB l (a - (l.getD k 0).toNat) = true→nwF r l a i≤m5 (bF l (a - (l.getD k 0).toNat)) + 1)
 | 0,_ => .inl ⟨rfl,fun k hk => by omega⟩
 | i + 1,hi => by
   have cr := coin_rng hc (j := i) (by omega)
   have ih := nw_val hc ha9 h i (by omega)
   have ext : ∀ {P : Nat→Prop},(∀ k,k < i→P k)→P i→∀ k,k < i + 1→P k := fun h1 h2 k hk => by
     by_cases e : k = i
     · rw [e]; exact h2
     · exact h1 k (by omega)
   rw [nwF]
   by_cases h1 : l.getD i 0 > a
   · rw [if_pos h1]
     rcases ih with ⟨i1,i2⟩ | ⟨⟨k,k1,k2⟩,i2⟩
     · exact .inl ⟨i1,ext i2 fun h2 => by omega⟩
     · exact .inr ⟨⟨k,by omega,k2⟩,ext i2 fun h2 => by omega⟩
   · have e : ((a : Int) - l.getD i 0).toNat = a - (l.getD i 0).toNat := by omega
     rw [if_neg h1,e,h _ (by omega)]
     unfold fvA
     cases hb : canB l (a - (l.getD i 0).toNat) with
     | false =>
       rw [if_neg Bool.false_ne_true,if_pos (by decide)]
       rcases ih with ⟨i1,i2⟩ | ⟨⟨k,k1,k2⟩,i2⟩
       · exact .inl ⟨i1,ext i2 fun _ => hb⟩
       · exact .inr ⟨⟨k,by omega,k2⟩,ext i2 fun _ h2 => by rw [hb] at h2; cases h2⟩
     | true =>
       have hp := m5_pos hc (b := a - (l.getD i 0).toNat) (by omega) hb
       rw [if_pos rfl,if_neg (by omega)]
       rcases ih with ⟨i1,i2⟩ | ⟨⟨k,k1,k2,k3,k4⟩,i2⟩
       · rw [i1,if_pos (by decide)]
         exact .inr ⟨⟨i,by omega,by omega,hb,rfl⟩,ext (fun k hk h2 h3 => by rw [i2 k hk h2] at h3; cases h3) fun _ _ => Int.le_refl _⟩
       · have hq := m5_pos hc (b := a - (l.getD k 0).toNat) (by omega) k3
         rw [if_neg (show ¬ nwF r l a i < 0 by omega)]
         by_cases h5 : m5 (bF l (a - (l.getD i 0).toNat)) + 1 < nwF r l a i
         · rw [if_pos h5]
           exact .inr ⟨⟨i,by omega,by omega,hb,rfl⟩,ext (fun k hk h2 h3 => by have := i2 k hk h2 h3; omega) fun _ _ => Int.le_refl _⟩
         · rw [if_neg h5]
           exact .inr ⟨⟨k,by omega,k2,k3,k4⟩,ext i2 fun _ _ => by omega⟩
theorem nw_few {l r : List Int} (hc : Coins l) {a : Nat} (ha : 0 < a) (ha9 : a≤9999) (h : ∀ b,b < a→r.getD b 0 = fvA l b) : nwF r l a l.length = fvA l a := by
 unfold fvA
 rcases nw_val hc ha9 h l.length (Nat.le_refl _) with ⟨i1,i2⟩ | ⟨⟨k,k1,k2,k3,k4⟩,i2⟩
 · cases hb : canB l a with
   | false => rw [i1,if_neg Bool.false_ne_true]
   | true =>
     obtain ⟨k,k1,k2,k3⟩ := sub_coin hc ha ha9 hb
     rw [i2 k k1 k2] at k3; cases k3
 · have h1 := add_coin hc k1 (y := a - (l.getD k 0).toNat) (by omega) k3
   have h2 := add_few hc k1 (y := a - (l.getD k 0).toNat) (by omega) k3
   rw [show a - (l.getD k 0).toNat + (l.getD k 0).toNat = a by omega] at h1 h2
   obtain ⟨j,j1,j2,j3,j4⟩ := sub_few hc ha ha9 h1
   have := i2 j j1 j2 j3
   rw [if_pos h1]; omega
theorem fR_get {l : List Int} (hc : Coins l) : ∀ a,a≤9999→∀ b,b < a + 1→(fR l a).getD b 0 = fvA l b
 | 0,_,b,hb => by
   obtain rfl : b = 0 := by omega
   have h00 : canB l 0 = true := rfl
   have hz := (best_is hc 0 (by omega)).2 (fun _ => 0) ⟨fun _ _ => Int.le_refl _,by
     have : ∀ n,dotF l (fun _ => 0) n = 0 := fun n => by
       induction n with
       | zero => rfl
       | succ n ih => rw [dotF,ih]; simp
     exact this _⟩
   have hpz : ∀ n,pf (fun _ => (0 : Int)) n = 0 := fun n => by
     induction n with
     | zero => rfl
     | succ n ih => rw [pf,ih]; rfl
   rw [hpz] at hz
   have := m5_pos hc (b := 0) (by omega) h00
   unfold fvA
   rw [if_pos h00]
   show (0 : Int) = _
   omega
 | a + 1,ha,b,hb => by
   rw [fR,List.getD_eq_getElem?_getD]
   by_cases e : b < a + 1
   · rw [List.getElem?_append_left (by rw [fR_len]; omega),← List.getD_eq_getElem?_getD]
     exact fR_get hc a (by omega) b e
   · obtain rfl : b = a + 1 := by omega
     rw [List.getElem?_append_right (by rw [fR_len]; omega),fR_len,Nat.sub_self]
     exact nw_few hc (by omega) ha fun b hb => fR_get hc a (by omega) b hb
theorem fvA_bd {l : List Int} (hc : Coins l) {b : Nat} (hb : b≤300) : -1≤fvA l b∧fvA l b≤300 := by
 have h := few_bd hc (a := (b : Int)) (by omega)
 have h2 := few_val hc (a := (b : Int)) (by omega)
 rw [Int.toNat_natCast] at h2
 unfold fvA
 cases hx : canB l b with
 | false => rw [if_neg Bool.false_ne_true]; omega
 | true => rw [hx,if_pos rfl] at h2; rw [if_pos rfl]; omega
theorem foZ_ok (l : List Int) (c : Nat) : foZ l c := by
 unfold foZ
 simp only [SS,reduceCtorEq,Arg.list,Arg.num,Arg.flag,intOf,andP,Nat.reduceLeDiff,Nat.reduceAdd,Nat.reduceMul,Nat.reduceLT,nm_sl,uS]
 exact ⟨rfl,fun x hx => by omega⟩
theorem foV_ok (l : List Int) (c am : Nat) (hc : Coins l) (ha : 1≤am) (ha2 : am≤300) : foV l c am := by
 unfold foV
 simp only [SS,reduceCtorEq,Arg.list,Arg.num,Arg.flag,intOf,andP,Nat.reduceLeDiff,Nat.reduceAdd,Nat.reduceMul,Nat.reduceLT,nm_sl,uS]
 have hp := hc.pos
 have hfew := hc.few
 have cr : ∀ j,j < l.length→1≤l.getD j 0∧l.getD j 0≤50 := fun j hj => coin_rng hc hj
 refine ⟨⟨fun _ => ⟨⟨0,by omega,rfl,rfl,rfl⟩,fun x hx => ⟨fun h => ⟨by omega,by omega,fun h1 => ?_,fun h1 => ⟨x + 1,by omega,by omega,by rw [nwF,if_pos h1],wrap_succ (n := 100) (by omega) (by omega)⟩⟩,fun h => ⟨2,by omega,by omega,?_,rfl,by rw [wrap_in (by omega) (by omega)]; rfl⟩⟩⟩,fun h => h (by omega)⟩,fun x hx => ⟨fun h5 => ⟨⟨0,by omega,rfl,rfl⟩,fun i hi => ⟨fun h => ⟨by omega,by omega,fun h1 => ?_,fun h1 => ⟨i + 1,by omega,by omega,by rw [nwF,if_pos h1],wrap_succ (n := 100) (by omega) (by omega)⟩⟩,fun h => ⟨by rw [fR_len]; omega,x + 1,by omega,by omega,?_,rfl,wrap_succ (n := 9999) (by omega) (by omega)⟩⟩⟩,fun h5 => ⟨by rw [show x - 1 = am by omega],by omega⟩⟩⟩
 · have c1 := cr x (by omega)
   have e : l.getD x 0 = 1 := by omega
   have w0 : IntKind.i64.wrap (((1 : Nat) : Int) - l.getD x 0) = 0 := by rw [e,wrap_in (by omega) (by omega)]; rfl
   have w1 : IntKind.i64.wrap (getI [vi 0] (Int.toNat 0) + 1) = 1 := by
     show IntKind.i64.wrap ((0 : Int) + 1) = 1
     rw [wrap_in (by omega) (by omega)]; rfl
   have ws : IntKind.i64.wrap ((x : Int) + 1) = ((x + 1 : Nat) : Int) := wrap_succ (n := 100) (by omega) (by omega)
   have nx : nwF [0] l 1 (x + 1) = if nwF [0] l 1 x < 0 then 1 else if 1 < nwF [0] l 1 x then 1 else nwF [0] l 1 x := by
     rw [nwF,if_neg h1,e]; rfl
   rw [w0,w1]
   refine ⟨by omega,by omega,by omega,rfl,fun h2 => absurd h2 (by show ¬ (0 : Int) < 0; omega),fun _ => ⟨by omega,by omega,by omega,rfl,fun h3 => ⟨fun h4 => ⟨x + 1,by omega,by omega,by rw [nx,if_neg h3,if_pos h4],ws⟩,fun h4 => ⟨x + 1,by omega,by omega,by rw [nx,if_neg h3,if_neg h4],ws⟩⟩,fun h3 => ⟨x + 1,by omega,by omega,by rw [nx,if_pos h3],ws⟩⟩⟩
 · rw [show x = l.length by omega]; rfl
 · have c1 := cr i (by omega)
   have w0 : IntKind.i64.wrap ((x : Int) - l.getD i 0) = (x : Int) - l.getD i 0 := wrap_in (by omega) (by omega)
   have hv := fvA_bd hc (b := ((x : Int) - l.getD i 0).toNat) (by omega)
   rw [← fR_get hc (x - 1) (by omega) _ (by omega)] at hv
   have w1 : IntKind.i64.wrap ((fR l (x - 1)).getD ((x : Int) - l.getD i 0).toNat 0 + 1) = (fR l (x - 1)).getD ((x : Int) - l.getD i 0).toNat 0 + 1 := wrap_in (by omega) (by omega)
   have ws : IntKind.i64.wrap ((i : Int) + 1) = ((i + 1 : Nat) : Int) := wrap_succ (n := 100) (by omega) (by omega)
   have hlt : ((x : Int) - l.getD i 0).toNat < (fR l (x - 1)).length := by rw [fR_len]; omega
   rw [w0,w1]
   exact ⟨by omega,by omega,by omega,hlt,fun h2 => ⟨i + 1,by omega,by omega,by rw [nwF,if_neg h1,if_pos h2],ws⟩,fun h2 => ⟨by omega,by omega,by omega,hlt,fun h3 => ⟨fun h4 => ⟨i + 1,by omega,by omega,by rw [nwF,if_neg h1,if_neg h2,if_neg h3,if_pos h4],ws⟩,fun h4 => ⟨i + 1,by omega,by omega,by rw [nwF,if_neg h1,if_neg h2,if_neg h3,if_neg h4],ws⟩⟩,fun h3 => ⟨i + 1,by omega,by omega,by rw [nwF,if_neg h1,if_neg h2,if_pos h3],ws⟩⟩⟩
 · obtain ⟨a,rfl⟩ : ∃ a,x = a + 1 := ⟨x - 1,by omega⟩
   simp only [Nat.add_sub_cancel]
   rw [show i = l.length by omega]; rfl
theorem fo_call (l : List Int) (c am : Nat) (hc : Coins l) (ha : 1≤am) (ha2 : am≤300) : Call Try.prog 70 [.slice (some ⟨0,0,none⟩) l.length c,vi am] [ros l] fun v H' => v = uS 1 (am + 1)∧H' = [ros l] ++ [rws (fR l am)] :=
 Call.ofVcR (E := {}) (H := [ros l]) (args := [.slice (some ⟨0,0,none⟩) l.length c,vi am]) (σ := nsub 1 1) (v2 := uS 1 (am + 1)) (H2 := [ros l,rws (fR l am)]) E0_ok mixed (c := foB) (inv := foI l c am) Try.func70 (by kernel_rfl) (cast (congrFun (congrFun (congrFun foV_eq l) c) am) (foV_ok l c am hc ha ha2))
theorem foz_call (l : List Int) (c : Nat) : Call Try.prog 70 [.slice (some ⟨0,0,none⟩) l.length c,vi 0] [ros l] fun v H' => v = .slice (some ⟨1,0,none⟩) 1 1∧H' = [ros l] ++ [.rw [vi 0] none] :=
 Call.ofVcR (E := {}) (H := [ros l]) (args := [.slice (some ⟨0,0,none⟩) l.length c,vi 0]) (σ := nsub 1 1) (v2 := .slice (some ⟨1,0,none⟩) 1 1) (H2 := [ros l,.rw [vi 0] none]) E0_ok mixed (c := foB) (inv := foI l c 0) Try.func70 (by kernel_rfl) (cast (congrFun (congrFun foZ_eq l) c) (foZ_ok l c))
end Go.Pier.Fl
namespace Go.Pier.Fl
open Go Go.Pier Go.Proofs
def lxF (n : Nat) (f g : Nat→Int) : Prop := ∀ j,j < n→(∀ k,k < j→g k = f k)→f j≤g j
theorem lx_trans {n : Nat} {f g h : Nat→Int} (a : lxF n f g) (b : lxF n g h) : lxF n f h := fun j hj hp => by
 have e : ∀ m,m≤j→∀ k,k < m→g k = f k := by
   intro m
   induction m with
   | zero => intro _ k hk; omega
   | succ m ih =>
     intro hm k hk
     by_cases e : k = m
     · subst e
       have i := ih (by omega)
       have a1 := a k (by omega) i
       have b1 := b k (by omega) fun q hq => by rw [hp q (by omega),i q hq]
       rw [hp k (by omega)] at b1
       omega
     · exact ih (by omega) k (by omega)
 have i := e j (Nat.le_refl _)
 have a1 := a j hj i
 have b1 := b j hj fun q hq => by rw [hp q hq,i q hq]
 omega
theorem lx_congr {n : Nat} {f f' g g' : Nat→Int} (hf : ∀ k,k < n→f k = f' k) (hg : ∀ k,k < n→g k = g' k) (h : lxF n f g) : lxF n f' g' := fun j hj hp => by
 rw [← hf j hj,← hg j hj]
 exact h j hj fun k hk => by rw [hf k (by omega),hg k (by omega)]; exact hp k hk
theorem lx_up {n i : Nat} {d : Int} {f g : Nat→Int} (h : lxF n f g) : lxF n (up f i d) (up g i d) := fun j hj hp => by
 have := h j hj fun k hk => by
   have := hp k hk
   unfold up at this
   split at this <;> omega
 unfold up
 split <;> omega
def lxL (l m : List Int) : Prop := ∀ j,j < l.length→(∀ k,k < j→m.getD k 0 = l.getD k 0)→l.getD j 0≤m.getD j 0
theorem cmp_neg : ∀ l m : List Int,l.length = m.length→(cmpF l m < 0→lxL l m)∧(¬ cmpF l m < 0→lxL m l)
 | [],[],_ => ⟨fun _ j hj => by simp at hj,fun _ j hj => by simp at hj⟩
 | [],b :: m,h => by simp at h
 | a :: l,[],h => by simp at h
 | a :: l,b :: m,h => by
   obtain ⟨i1,i2⟩ := cmp_neg l m (by simpa using h)
   rw [cmpF]
   by_cases h1 : a < b
   · rw [if_pos h1]
     refine ⟨fun _ j hj hp => ?_,fun k => by omega⟩
     cases j with
     | zero => show a≤b; omega
     | succ j =>
       have : b = a := hp 0 (by omega)
       omega
   · rw [if_neg h1]
     by_cases h2 : b < a
     · rw [if_pos h2]
       refine ⟨fun k => by omega,fun _ j hj hp => ?_⟩
       cases j with
       | zero => show b≤a; omega
       | succ j =>
         have : a = b := hp 0 (by omega)
         omega
     · rw [if_neg h2]
       refine ⟨fun k j hj hp => ?_,fun k j hj hp => ?_⟩
       · cases j with
         | zero => show a≤b; omega
         | succ j => exact i1 k j (by simpa using hj) fun q hq => hp (q + 1) (by omega)
       · cases j with
         | zero => show b≤a; omega
         | succ j => exact i2 k j (by simpa using hj) fun q hq => hp (q + 1) (by omega)
theorem L5_get {f : Nat→Int} {n k : Nat} (h5 : n≤5) (hk : k < n) : ((L5 f).take n).getD k 0 = f k := by
 rw [List.getD_eq_getElem?_getD,List.getElem?_take,if_pos hk]
 unfold L5
 rcases k with _ | _ | _ | _ | _ | k <;> first | rfl | omega
theorem lx_of {f g : Nat→Int} {n : Nat} (h5 : n≤5) (h : lxL ((L5 f).take n) ((L5 g).take n)) : lxF n f g := fun j hj hp => by
 have hl : ((L5 f).take n).length = n := tk_len h5
 have := h j (by omega) fun k hk => by rw [L5_get h5 (by omega),L5_get h5 (by omega)]; exact hp k hk
 rw [L5_get h5 hj,L5_get h5 hj] at this
 exact this
def leB (n : Nat) (f g : Nat→Int) : Prop := m5 f < m5 g∨(m5 f = m5 g∧lxF n f g)
theorem leB_trans {n : Nat} {f g h : Nat→Int} (a : leB n f g) (b : leB n g h) : leB n f h := by
 rcases a with a | ⟨a,a2⟩ <;> rcases b with b | ⟨b,b2⟩
 · exact .inl (by omega)
 · exact .inl (by omega)
 · exact .inl (by omega)
 · exact .inr ⟨by omega,lx_trans a2 b2⟩
theorem btr_le {n : Nat} {f g : Nat→Int} (h5 : n≤5) : (btrV n f g = true→leB n f g)∧(btrV n f g = false→leB n g f) := by
 have hl : ((L5 f).take n).length = ((L5 g).take n).length := by
   have h1 : ((L5 f).take n).length = n := tk_len h5
   have h2 : ((L5 g).take n).length = n := tk_len h5
   omega
 obtain ⟨c1,c2⟩ := cmp_neg ((L5 f).take n) ((L5 g).take n) hl
 unfold btrV
 cases e : m5 f == m5 g with
 | true =>
   rw [beq_iff_eq] at e
   rw [cond_true]
   exact ⟨fun h => .inr ⟨e,lx_of h5 (c1 (of_decide_eq_true h))⟩,fun h => .inr ⟨e.symm,lx_of h5 (c2 (of_decide_eq_false h))⟩⟩
 | false =>
   rw [cond_false]
   have e : m5 f ≠ m5 g := fun k => by rw [k,beq_self_eq_true] at e; cases e
   exact ⟨fun h => .inl (of_decide_eq_true h),fun h => .inl (by have := of_decide_eq_false h; omega)⟩
theorem leB_refl {n : Nat} {f : Nat→Int} : leB n f f := .inr ⟨rfl,fun _ _ _ => Int.le_refl _⟩
theorem bst_lx {l : List Int} (h5 : l.length≤5) {q : Int→Option Value} {a : Int} : ∀ i,∀ j,j < i→(q (a - l.getD j 0)).isSome = true→(bstF l q a i).2 = false∧leB l.length (bstF l q a i).1 (inc5 (cntF (q (a - l.getD j 0))) j)
 | 0,j,hj,_ => by omega
 | i + 1,j,hj,hs => by
   by_cases e : j = i
   · subst e
     cases hb : (bstF l q a j).2 || btrV l.length (inc5 (cntF (q (a - l.getD j 0))) j) (bstF l q a j).1 with
     | true => rw [bst_yes hs hb]; exact ⟨rfl,leB_refl⟩
     | false =>
       rw [bst_no2 hb]
       rw [Bool.or_eq_false_iff] at hb
       exact ⟨hb.1,(btr_le h5).2 hb.2⟩
   · have ih := bst_lx h5 i j (by omega) hs
     cases hs2 : (q (a - l.getD i 0)).isSome with
     | false => rw [bst_no1 hs2]; exact ih
     | true =>
       cases hb : (bstF l q a i).2 || btrV l.length (inc5 (cntF (q (a - l.getD i 0))) i) (bstF l q a i).1 with
       | true =>
         rw [bst_yes hs2 hb]
         rw [ih.1,Bool.false_or] at hb
         exact ⟨rfl,leB_trans ((btr_le h5).1 hb) ih.2⟩
       | false => rw [bst_no2 hb]; exact ih
theorem best_lx {l : List Int} (hc : Coins l) : ∀ a : Nat,a≤9999→∀ y,isCh l a y→pf y l.length = m5 (bF l a)→lxF l.length (bF l a) y := by
 intro a
 induction a using Nat.strongRecOn with
 | _ a ih =>
   intro ha y hy hm
   have h5 := hc.few
   by_cases h0 : a = 0
   · subst h0
     have b0 := nought_ch hc ((best_is hc 0 (by omega)).1 ((best_is hc 0 (by omega)).2 y hy).1).1
     exact fun j hj _ => by rw [b0 j hj]; exact hy.1 j hj
   · obtain ⟨i,hi,hyi⟩ := dot_pos (l := l) (y := y) l.length (fun k hk => ⟨by have := coin_rng hc hk; omega,hy.1 k hk⟩) (by rw [hy.2]; omega)
     have hr := coin_rng hc hi
     have hy2 : isCh l (a - l.getD i 0) (up y i (-1)) := ⟨fun k hk => by
       by_cases e2 : k = i
       · subst e2; rw [up_own]; omega
       · rw [up_else e2]; exact hy.1 k hk,by rw [dot_up,if_pos hi,hy.2]; omega⟩
     have hnn := dot_nonneg (l := l) l.length fun k hk => ⟨by have := coin_rng hc hk; omega,hy2.1 k hk⟩
     rw [hy2.2] at hnn
     obtain ⟨m,hmm⟩ := Int.eq_ofNat_of_zero_le hnn
     rw [hmm] at hy2
     have hih := (best_is hc m (by omega)).2 _ hy2
     have h6 := hih.2
     rw [pf_up,if_pos hi,hm] at h6
     have h7 := add_few hc hi (y := m) (by omega) hih.1
     rw [show m + (l.getD i 0).toNat = a by omega] at h7
     have hx := ih m (by omega) (by omega) _ hy2 (by rw [pf_up,if_pos hi,hm]; omega)
     have hsome : (qF l a (a - l.getD i 0)).isSome = true := by rw [hmm,q_lt a m (by omega),hih.1]; rfl
     have hq : qF l a (a - l.getD i 0) = some (C5 (bF l m)) := by rw [hmm,q_lt a m (by omega),hih.1]; rfl
     have hmin := (bst_lx h5 (q := qF l a) (a := (a : Int)) l.length i hi hsome).2
     have hless := bF_less hc (a := m) (by omega)
     have e' : inc5 (cntF (qF l a (a - l.getD i 0))) i = up (cntF (some (C5 (bF l m)))) i 1 := by
       rw [hq]
       exact inc_up (by rw [cnt_eq (by omega)]; have := hless.at (a := i) (by omega); omega)
     rw [e'] at hmin
     have m5e : m5 (up (cntF (some (C5 (bF l m)))) i 1) = m5 (bF l m) + 1 := by
       rw [← pf_m5,pf_up,if_pos (by omega),pf_m5,m5_congr (f := cntF (some (C5 (bF l m)))) (g := bF l m) fun k hk => cnt_eq hk]
     have hb : leB l.length (bF l a) (up (cntF (some (C5 (bF l m)))) i 1) := hmin
     have hlx : lxF l.length (bF l a) (up (cntF (some (C5 (bF l m)))) i 1) := by
       rcases hb with h | h
       · omega
       · exact h.2
     have hlx2 : lxF l.length (up (bF l m) i 1) (up (up y i (-1)) i 1) := lx_up hx
     refine lx_trans hlx (lx_congr (fun k hk => ?_) (fun k hk => ?_) hlx2)
     · unfold up
       split
       · rw [cnt_eq (by omega)]
       · rw [cnt_eq (by omega)]
     · unfold up
       split <;> omega
theorem drop_get {l : List Int} {n k : Nat} : (l.drop n).getD k 0 = l.getD (n + k) 0 := by
 rw [List.getD_eq_getElem?_getD,List.getElem?_drop,List.getD_eq_getElem?_getD]
theorem dot_split {l : List Int} {y : Nat→Int} {n : Nat} : ∀ d,dotF l y (n + d) = dotF l y n + dotF (l.drop n) (fun k => y (n + k)) d
 | 0 => by rw [Nat.add_zero]; show _ = _ + 0; omega
 | d + 1 => by
   show dotF l y (n + d) + l.getD (n + d) 0 * y (n + d) = _
   rw [dot_split d,dotF,drop_get]; omega
theorem pf_split {y : Nat→Int} {n : Nat} : ∀ d,pf y (n + d) = pf y n + pf (fun k => y (n + k)) d
 | 0 => by rw [Nat.add_zero]; show _ = _ + 0; omega
 | d + 1 => by
   show pf y (n + d) + y (n + d) = _
   rw [pf_split d,pf]; omega
theorem coins_drop {l : List Int} (hc : Coins l) {n : Nat} (hn : n < l.length) : Coins (l.drop n) := by
 have hf := hc.few
 refine ⟨by rw [List.length_drop]; omega,by rw [List.length_drop]; omega,fun x hx => hc.rng x (List.mem_of_mem_drop hx),fun j hj h0 => ?_⟩
 rw [List.length_drop] at hj
 rw [drop_get,drop_get,show n + (j - 1) = n + j - 1 by omega]
 exact hc.inc (n + j) (by omega) (by omega)
def fvS (s : List Int) (x : Nat) : Int := (fR s x).getD x 0
theorem fvS_nil (x : Nat) : fvS [] x = if x = 0 then 0 else -1 := by
 cases x with
 | zero => rfl
 | succ x =>
   rw [if_neg (by omega),fvS,fR,List.getD_eq_getElem?_getD,List.getElem?_append_right (by rw [fR_len]; omega),fR_len,Nat.sub_self]; rfl
theorem fvS_ok {s : List Int} (hc : Coins s) {x : Nat} (hx : x≤9999) : fvS s x = fvA s x := fR_get hc x hx x (by omega)
def mixY (f : Nat→Int) (i : Nat) (n : Int) (z : Nat→Int) : Nat→Int := fun k => if k < i then f k else if k = i then n else z (k - (i + 1))
theorem mix_lo {f z : Nat→Int} {i k : Nat} {n : Int} (h : k < i) : mixY f i n z k = f k := if_pos h
theorem mix_at {f z : Nat→Int} {i : Nat} {n : Int} : mixY f i n z i = n := by rw [mixY,if_neg (by omega),if_pos rfl]
theorem mix_hi {f z : Nat→Int} {i k : Nat} {n : Int} : mixY f i n z (i + 1 + k) = z k := by rw [mixY,if_neg (by omega),if_neg (by omega),show i + 1 + k - (i + 1) = k by omega]
theorem mix_ch {l : List Int} {a n x : Int} {f z : Nat→Int} {i : Nat} (hi : i < l.length) (hf : ∀ k,k < i→0≤f k) (hn : 0≤n) (hz : isCh (l.drop (i + 1)) x z) (he : dotF l f i + l.getD i 0 * n + x = a) : isCh l a (mixY f i n z)∧pf (mixY f i n z) l.length = pf f i + n + pf z (l.length - (i + 1)) := by
 have hl : l.length = i + 1 + (l.length - (i + 1)) := by omega
 have hd : (l.drop (i + 1)).length = l.length - (i + 1) := List.length_drop
 refine ⟨⟨fun k hk => ?_,?_⟩,?_⟩
 · by_cases h1 : k < i
   · rw [mix_lo h1]; exact hf k h1
   · by_cases h2 : k = i
     · rw [h2,mix_at]; exact hn
     · have := hz.1 (k - (i + 1)) (by omega)
       rw [show k = i + 1 + (k - (i + 1)) by omega,mix_hi]; exact this
 · rw [hl,dot_split,dotF,mix_at,dot_congr (z := f) i fun k hk => mix_lo hk,dot_congr (z := z) _ fun k _ => mix_hi]
   have := hz.2
   rw [hd] at this
   omega
 · conv => lhs; rw [hl]
   rw [pf_split,pf,mix_at,pf_congr (z := f) i fun k hk => mix_lo hk,pf_congr (z := z) _ fun k _ => mix_hi]
theorem is_best {l : List Int} (hc : Coins l) {a : Nat} (ha : a≤9999) (hcan : canB l a = true) {i : Nat} (hi : i < l.length) {n : Int} (h0 : 0≤n) (hn : n≤bF l a i) :
   0≤(a : Int) - dotF l (bF l a) i - n * l.getD i 0∧(fvS (l.drop (i + 1)) ((a : Int) - dotF l (bF l a) i - n * l.getD i 0).toNat = m5 (bF l a) - pf (bF l a) i - n ↔ n = bF l a i) := by
 have hci := coin_rng hc hi
 obtain ⟨p,q⟩ := ((best_is hc a ha).1 hcan).1
 have hl : l.length = i + 1 + (l.length - (i + 1)) := by omega
 have hd : (l.drop (i + 1)).length = l.length - (i + 1) := List.length_drop
 have q2 := q
 rw [hl,dot_split,dotF] at q2
 have m2 := best_m5 hc ha hcan
 rw [hl,pf_split,pf] at m2
 have tch : ∀ k,k < (l.drop (i + 1)).length→0≤bF l a (i + 1 + k) := fun k hk => p _ (by omega)
 have T0 := dot_nonneg (l := l.drop (i + 1)) (y := fun k => bF l a (i + 1 + k)) (l.length - (i + 1)) fun k hk => ⟨by rw [drop_get]; have := coin_rng hc (j := i + 1 + k) (by omega); omega,p _ (by omega)⟩
 have P0 : 0≤pf (fun k => bF l a (i + 1 + k)) (l.length - (i + 1)) := by
   have : ∀ d,d≤l.length - (i + 1)→0≤pf (fun k => bF l a (i + 1 + k)) d := by
     intro d
     induction d with
     | zero => intro _; exact Int.le_refl _
     | succ d ih => intro hd2; rw [pf]; have := ih (by omega); have := p (i + 1 + d) (by omega); omega
   exact this _ (Nat.le_refl _)
 have hmul : n * l.getD i 0≤bF l a i * l.getD i 0 := Int.mul_le_mul_of_nonneg_right hn (by omega)
 have cm : l.getD i 0 * bF l a i = bF l a i * l.getD i 0 := Int.mul_comm _ _
 have cn : l.getD i 0 * n = n * l.getD i 0 := Int.mul_comm _ _
 have hD0 := dot_nonneg (l := l) (y := bF l a) i fun k hk => ⟨by have := coin_rng hc (j := k) (by omega); omega,p k (by omega)⟩
 have hn0 : 0≤n * l.getD i 0 := Int.mul_nonneg h0 (by omega)
 refine ⟨by omega,fun h => ?_,fun h => ?_⟩
 · by_cases e : n = bF l a i
   · exact e
   · exfalso
     have hlt : (n + 1) * l.getD i 0≤bF l a i * l.getD i 0 := Int.mul_le_mul_of_nonneg_right (by omega) (by omega)
     rw [Int.add_mul,Int.one_mul] at hlt
     obtain ⟨x,hx⟩ := Int.eq_ofNat_of_zero_le (show 0≤(a : Int) - dotF l (bF l a) i - n * l.getD i 0 by omega)
     rw [hx,Int.toNat_natCast] at h
     by_cases hs : i + 1 < l.length
     · have hcs := coins_drop hc hs
       rw [fvS_ok hcs (by omega),fvA] at h
       cases hb : canB (l.drop (i + 1)) x with
       | false => rw [hb,if_neg Bool.false_ne_true] at h; omega
       | true =>
         rw [hb,if_pos rfl,best_m5 hcs (by omega) hb,hd] at h
         obtain ⟨z1,z2⟩ := mix_ch (a := (a : Int)) (f := bF l a) (n := n) hi (fun k hk => p k (by omega)) h0 ((best_is hcs x (by omega)).1 hb).1 (by omega)
         have := best_lx hc a ha _ z1 (by rw [z2,h,best_m5 hc ha hcan,hl,pf_split,pf]; have := best_m5 hc ha hcan; omega) i hi fun k hk => mix_lo hk
         rw [mix_at] at this
         omega
     · have es : l.drop (i + 1) = [] := List.drop_of_length_le (by omega)
       rw [es,fvS_nil,if_neg (by omega)] at h
       omega
 · subst h
   obtain ⟨x,hx⟩ := Int.eq_ofNat_of_zero_le (show 0≤(a : Int) - dotF l (bF l a) i - bF l a i * l.getD i 0 by omega)
   rw [hx,Int.toNat_natCast]
   have hxT : dotF (l.drop (i + 1)) (fun k => bF l a (i + 1 + k)) (l.length - (i + 1)) = x := by omega
   by_cases hs : i + 1 < l.length
   · have hcs := coins_drop hc hs
     have t1 := (best_is hcs x (by omega)).2 (fun k => bF l a (i + 1 + k)) ⟨tch,by rw [hd]; exact hxT⟩
     rw [fvS_ok hcs (by omega),fvA,t1.1,if_pos rfl]
     have t2 := t1.2
     rw [hd] at t2
     obtain ⟨z1,z2⟩ := mix_ch (a := (a : Int)) (f := bF l a) (n := bF l a i) hi (fun k hk => p k (by omega)) h0 ((best_is hcs x (by omega)).1 t1.1).1 (by omega)
     have t3 := ((best_is hc a ha).2 _ z1).2
     rw [z2,← hd,← best_m5 hcs (by omega) t1.1] at t3
     omega
   · have es : l.length - (i + 1) = 0 := by omega
     have es2 : l.drop (i + 1) = [] := List.drop_of_length_le (by omega)
     rw [es] at m2 hxT
     have m2 : m5 (bF l a) = pf (bF l a) i + bF l a i + 0 := m2
     rw [es2] at hxT ⊢
     have hxT : (0 : Int) = x := hxT
     rw [fvS_nil,if_pos (by omega)]
     omega
end Go.Pier.Fl
namespace Go.Pier.Fl
open Go Go.Pier Go.Proofs
theorem gr_up {l : List Int} {a : Int} {d : Nat} (h0 : (grF l a d).1 (l.length - 1 - d) = 0) : (grF l a (d + 1)).1 = up (grF l a d).1 (l.length - 1 - d) ((grF l a d).2.tdiv (l.getD (l.length - 1 - d) 0)) := by
 funext k
 show (bif Nat.beq k (l.length - 1 - d) then _ else (grF l a d).1 k) = if k = l.length - 1 - d then (grF l a d).1 k + _ else (grF l a d).1 k
 by_cases e : k = l.length - 1 - d
 · rw [if_pos e,e,Nat.beq_refl,h0,Int.zero_add]; rfl
 · rw [if_neg e]
   cases hb : Nat.beq k (l.length - 1 - d) with
   | true => exact absurd (Nat.eq_of_beq_eq_true hb) e
   | false => rfl
theorem gr_all {l : List Int} {a : Int} (hc : Coins l) (ha : 0≤a) : ∀ d,d≤l.length→(∀ k,k < l.length - d→(grF l a d).1 k = 0)∧(∀ k,l.length≤k→(grF l a d).1 k = 0)∧dotF l (grF l a d).1 l.length + (grF l a d).2 = a
 | 0,_ => ⟨fun _ _ => rfl,fun _ _ => rfl,by
   have z : ∀ n,dotF l (grF l a 0).1 n = 0 := by
     intro n
     induction n with
     | zero => rfl
     | succ n ih => rw [dotF,ih]; show 0 + l.getD n 0 * 0 = 0; simp
   rw [z]; show 0 + a = a; omega⟩
 | d + 1,h => by
   obtain ⟨i1,i2,i3⟩ := gr_all hc ha d (by omega)
   have hv := coin_rng hc (j := l.length - 1 - d) (by omega)
   have hb := (gr_bd hc ha d (by omega)).1
   rw [gr_up (i1 _ (by omega))]
   refine ⟨fun k hk => by rw [up_else (by omega)]; exact i1 k (by omega),fun k hk => by rw [up_else (by omega)]; exact i2 k hk,?_⟩
   rw [dot_up,if_pos (by omega)]
   have e : (grF l a (d + 1)).2 = (grF l a d).2.tmod (l.getD (l.length - 1 - d) 0) := rfl
   have := Int.mul_tdiv_add_tmod (grF l a d).2 (l.getD (l.length - 1 - d) 0)
   rw [e]; omega
end Go.Pier.Fl
namespace Go.Pier.Fl
open Go Go.Pier Go.Proofs
def greL (l : List Int) (a : Int) : List Int := List.take l.length (L5 (grF l a l.length).1)
noncomputable def gdT (l : List Int) (c : Nat) : Ct := (Ct.none.add 73 (gyCt l c)).add 74 (born3 [.agg [.rows [.i .i64] false],ps5] liS)
noncomputable def gdE (l : List Int) (c : Nat) : VEnv := { ct := gdT l c,cc := ccIn Try.prog (tiE l c) [⟨66,Try.f66,fun _ _ _ => none⟩] }
noncomputable def gdB : Code := Try.f28.body.getD .skip
noncomputable def gdV :=
fun (l:List Int) (c:Nat) (a:Int)↦Ob (some (AObj.ro (List.map (Value.int IntKind.i64) l))=some (AObj.ro (List.map (Value.int IntKind.i64) l))∧l.length=l.length∧c=c∧l.length≤1000000)∧(Ob (errC l≠(0:Int))→((errC l==(0:Int))=true→Ob (([vi a]=[vi (intOf (vi a))]∧0+1≤1∧true=true)∧1≤1000000)∧((!wiF (Arg.plain (vi (0:Int))).num (Arg.plain (vi (300:Int))).num [intOf (vi a)])=true→(true=true→(Ob (AObj.ro (List.map (Value.int IntKind.i64) l)=AObj.ro (List.map (nmap1 (nsub 1 4)) (List.map (Value.int IntKind.i64) l))∧AObj.sc 2 (AObj.ro (List.map (Value.int IntKind.i64) l))=true)∧False)∧Ob (Value.tuple ⟨[Value.slice none 0 0,vi (0:Int),vi (3:Int)]⟩=Value.tuple ⟨[Value.slice (some ⟨4,0,some 0⟩) l.length 0,vi (grF l a l.length).snd,vi (0:Int)]⟩)∧True)∧(true=false→False))∧((!wiF (Arg.plain (vi (0:Int))).num (Arg.plain (vi (300:Int))).num [intOf (vi a)])=false→((errC l !=(0:Int))=true→(Ob (AObj.ro (List.map (Value.int IntKind.i64) l)=AObj.ro (List.map (nmap1 (nsub 1 4)) (List.map (Value.int IntKind.i64) l))∧AObj.sc 2 (AObj.ro (List.map (Value.int IntKind.i64) l))=true)∧False)∧Ob (Value.tuple ⟨[Value.slice none 0 0,vi (0:Int),vi (errC l)]⟩=Value.tuple ⟨[Value.slice (some ⟨4,0,some 0⟩) l.length 0,vi (grF l a l.length).snd,vi (0:Int)]⟩)∧True)∧((errC l !=(0:Int))=false→False)))∧((errC l==(0:Int))=false→((errC l !=(0:Int))=true→(Ob (AObj.ro (List.map (Value.int IntKind.i64) l)=AObj.ro (List.map (nmap1 (nsub 1 4)) (List.map (Value.int IntKind.i64) l))∧AObj.sc 2 (AObj.ro (List.map (Value.int IntKind.i64) l))=true)∧False)∧Ob (Value.tuple ⟨[Value.slice none 0 0,vi (0:Int),vi (errC l)]⟩=Value.tuple ⟨[Value.slice (some ⟨4,0,some 0⟩) l.length 0,vi (grF l a l.length).snd,vi (0:Int)]⟩)∧True)∧((errC l !=(0:Int))=false→False)))∧(Ob (errC l=(0:Int))→∀ (zl:List Int),Ob (isZ zl)→(true=true→Ob (([vi a]=[vi (intOf (vi a))]∧0+1≤1∧true=true)∧1≤1000000)∧((!wiF (Arg.plain (vi (0:Int))).num (Arg.plain (vi (300:Int))).num [intOf (vi a)])=true→(true=true→(Ob (AObj.ro (List.map (Value.int IntKind.i64) l)=AObj.ro (List.map (nmap1 (nsub 1 4)) (List.map (Value.int IntKind.i64) l))∧AObj.sc 2 (AObj.ro (List.map (Value.int IntKind.i64) l))=true)∧False)∧Ob (Value.tuple ⟨[Value.slice none 0 0,vi (0:Int),vi (3:Int)]⟩=Value.tuple ⟨[Value.slice (some ⟨4,0,some 0⟩) l.length 0,vi (grF l a l.length).snd,vi (0:Int)]⟩)∧True)∧(true=false→False))∧((!wiF (Arg.plain (vi (0:Int))).num (Arg.plain (vi (300:Int))).num [intOf (vi a)])=false→(false=true→(Ob (AObj.ro (List.map (Value.int IntKind.i64) l)=AObj.ro (List.map (nmap1 (nsub 1 4)) (List.map (Value.int IntKind.i64) l))∧AObj.sc 2 (AObj.ro (List.map (Value.int IntKind.i64) l))=true)∧False)∧Ob (Value.tuple ⟨[Value.slice none 0 0,vi (0:Int),vi (0:Int)]⟩=Value.tuple ⟨[Value.slice (some ⟨4,0,some 0⟩) l.length 0,vi (grF l a l.length).snd,vi (0:Int)]⟩)∧True)∧(false=false→Ob (AtZ l c [AObj.ro (List.map (Value.int IntKind.i64) l),AObj.rw (Value.slice (some (ad0 0)) l.length c::List.map (Value.int IntKind.i64) zl) none,AObj.rw [vi a] none]∧Coins l∧(0:Int)≤a∧a≤(100000:Int))∧Ob (0+5≤5)∧Ob ((true=true∧Flat (List.map (Value.int IntKind.i64) l))∧okC (Leaf.view (List.map (Value.int IntKind.i64) l) l.length false))∧(Ob (AObj.ro (List.map (Value.int IntKind.i64) l)=AObj.ro (List.map (nmap1 (nsub 1 4)) (List.map (Value.int IntKind.i64) l))∧AObj.sc 2 (AObj.ro (List.map (Value.int IntKind.i64) l))=true)∧Ob (AObj.rw (List.map (Value.int IntKind.i64) (List.take l.length [l5 ((grF l a l.length).fst 0) ((grF l a l.length).fst 1) ((grF l a l.length).fst 2) ((grF l a l.length).fst 3) ((grF l a l.length).fst 4) 0,l5 ((grF l a l.length).fst 0) ((grF l a l.length).fst 1) ((grF l a l.length).fst 2) ((grF l a l.length).fst 3) ((grF l a l.length).fst 4) 1,l5 ((grF l a l.length).fst 0) ((grF l a l.length).fst 1) ((grF l a l.length).fst 2) ((grF l a l.length).fst 3) ((grF l a l.length).fst 4) 2,l5 ((grF l a l.length).fst 0) ((grF l a l.length).fst 1) ((grF l a l.length).fst 2) ((grF l a l.length).fst 3) ((grF l a l.length).fst 4) 3,l5 ((grF l a l.length).fst 0) ((grF l a l.length).fst 1) ((grF l a l.length).fst 2) ((grF l a l.length).fst 3) ((grF l a l.length).fst 4) 4])) (some 1)=AObj.rw (List.map (nmap1 (nsub 1 4)) (List.map (Value.int IntKind.i64) (greL l a))) (some 1)∧AObj.sc 2 (AObj.rw (List.map (Value.int IntKind.i64) (greL l a)) (some 1))=true)∧True)∧Ob (Value.tuple ⟨[Value.slice (some ⟨4,0,some 0⟩) l.length 0,vi (grF l a l.length).snd,vi (0:Int)]⟩=Value.tuple ⟨[Value.slice (some ⟨4,0,some 0⟩) l.length 0,vi (grF l a l.length).snd,vi (0:Int)]⟩)∧True)))∧(true=false→(false=true→(Ob (AObj.ro (List.map (Value.int IntKind.i64) l)=AObj.ro (List.map (nmap1 (nsub 1 4)) (List.map (Value.int IntKind.i64) l))∧AObj.sc 2 (AObj.ro (List.map (Value.int IntKind.i64) l))=true)∧False)∧Ob (Value.tuple ⟨[Value.slice none 0 0,vi (0:Int),vi (0:Int)]⟩=Value.tuple ⟨[Value.slice (some ⟨4,0,some 0⟩) l.length 0,vi (grF l a l.length).snd,vi (0:Int)]⟩)∧True)∧(false=false→Ob (AtZ l c [AObj.ro (List.map (Value.int IntKind.i64) l),AObj.rw (Value.slice (some (ad0 0)) l.length c::List.map (Value.int IntKind.i64) zl) none]∧Coins l∧(0:Int)≤a∧a≤(100000:Int))∧Ob (0+5≤5)∧Ob ((true=true∧Flat (List.map (Value.int IntKind.i64) l))∧okC (Leaf.view (List.map (Value.int IntKind.i64) l) l.length false))∧(Ob (AObj.ro (List.map (Value.int IntKind.i64) l)=AObj.ro (List.map (nmap1 (nsub 1 4)) (List.map (Value.int IntKind.i64) l))∧AObj.sc 2 (AObj.ro (List.map (Value.int IntKind.i64) l))=true)∧False)∧Ob (Value.tuple ⟨[Value.slice (some ⟨3,0,some 0⟩) l.length 0,vi (grF l a l.length).snd,vi (0:Int)]⟩=Value.tuple ⟨[Value.slice (some ⟨4,0,some 0⟩) l.length 0,vi (grF l a l.length).snd,vi (0:Int)]⟩)∧True)))
theorem gre_len {l : List Int} {a : Int} (h : l.length≤5) : (greL l a).length = l.length := tk_len h
theorem gre_gt {l : List Int} {a : Int} {k : Nat} (hk : k < l.length) (h5 : l.length≤5) : gt (greL l a) k = (grF l a l.length).1 k := by
 unfold gt greL
 rw [List.getD_eq_getElem?_getD,List.getElem?_take,if_pos hk]
 unfold L5
 rcases k with _ | _ | _ | _ | _ | k <;> first | rfl | omega
theorem gdV_ok (l : List Int) (c : Nat) (a : Int) (h0 : errA l a = 0) : gdV l c a := by
 unfold gdV
 simp only [SS,reduceCtorEq,Arg.list,Arg.num,Arg.flag,intOf,andP,Nat.reduceLeDiff,Nat.reduceAdd,Nat.reduceMul,Nat.reduceLT,til_sc,nm_sl]
 obtain ⟨he,hr⟩ := errA_0.1 h0
 have hc := errC_ok.1 he
 have := hc.few
 refine ⟨by omega,fun h => absurd he h,fun _ zl hz => ⟨fun h => (wi_300 h).2 rfl hr,fun h => ⟨⟨at_z,hc,by omega,by omega⟩,⟨all_sc_int,okC_of hc⟩,rfl⟩⟩⟩
theorem gdE_ok {l : List Int} {c : Nat} : VOk Try.prog (gdE l c) := ⟨(CtOk.none.add gyCt_ok).add liG_ok,ccIn_ok tiE_ok mixed (inl_one Try.func66),E0_ok.yc,E0_ok.orc⟩
def gdOS (r : List Arg) : Option (Prop × Back) := match r with
 | [.ints _ l,.plain (.int .i64 a)] => some (errA l a = 0,.both (greL l a) [vi (grF l a l.length).2,vi 0])
 | _ => none
theorem gdOG_ok : ∀ args H φ v H' l,newG [.ints .i64,.int .i64] gdOS args H = some (φ,v,H',l)→Asks φ→Call Try.prog 28 args H (fun v' H2 => v' = v∧H2 = H')∧Kept H H' l :=
 newG_ok fun r ψ b hk hs hψ => match r,hk with
   | [_,_],⟨hl,⟨a,ha⟩,_⟩ => by
     subst ha
     rcases hl with rfl | ⟨s,rfl⟩ | ⟨l,rfl⟩
     · cases hs
     · cases hs
     · cases hs
       refine ⟨rfl,fun caps => ?_⟩
       have hc := errC_ok.1 (errA_0.1 hψ).1
       have h := Call.ofVcR (E := gdE l (caps 0)) (H := [ros l]) (args := [.slice (some ⟨0,0,none⟩) l.length (caps 0),vi a]) (σ := nsub 1 4) (v2 := .tuple #[newSlice 1 l.length,vi (grF l a l.length).2,vi 0]) (H2 := [ros l,.rw ((greL l a).map (.int .i64)) (some 1)]) gdE_ok mixed (c := gdB) (inv := fun _ => none) Try.func28 (by kernel_rfl) (cast (by kernel_rfl) (gdV_ok l (caps 0) a hψ))
       have h' : Call Try.prog 28 [.slice (some ⟨0,0,none⟩) l.length (caps 0),vi a] [ros l] fun v H' => v = .tuple #[newSlice 1 (greL l a).length,vi (grF l a l.length).2,vi 0]∧H' = [ros l] ++ [.rw ((greL l a).map (.int .i64)) (some 1)] := by
         rw [gre_len hc.few]
         exact h
       exact h'
end Go.Pier.Fl
namespace Go.Pier.Fl
open Go Go.Pier Go.Proofs
noncomputable def raE : VEnv := { ct := Ct.none.add 23 (pureG [.ints .i64] ciS) }
noncomputable def raB : Code := Try.f69.body.getD .skip
noncomputable def raV0 (l:List Int) := (List.take l.length (List.drop 0 (intsOf (List.map (Value.int IntKind.i64) l))))
noncomputable def raV1 (l:List Int):Prop := ((List.take l.length (List.drop 0 (List.map (Value.int IntKind.i64) l))=List.map (Value.int IntKind.i64) (raV0 l)∧0+l.length≤(List.map (Value.int IntKind.i64) l).length∧true=true)∧(raV0 l).length≤1000000)
noncomputable def raV :=
fun (l:List Int) (c:Nat) (a:Int)↦Ob (raV1 l)∧((errC (raV0 l) !=(0:Int))=true→Ob (raV1 l)∧True∧Ob (vi (errC (raV0 l))=vi (errA l a)))∧((errC (raV0 l) !=(0:Int))=false→(decide (a<(0:Int))=false→(decide ((300:Int)<a)=true→True∧Ob (vi (3:Int)=vi (errA l a)))∧(decide ((300:Int)<a)=false→True∧Ob (vi (0:Int)=vi (errA l a))))∧(decide (a<(0:Int))=true→True∧Ob (vi (3:Int)=vi (errA l a))))
theorem raV_eq : raV = fun (l : List Int) (c : Nat) (a : Int) => vc Try.prog raE 1 16 true (fun _ => none) raB [] (argFr 0 [.slice (some ⟨0,0,none⟩) l.length c,vi a]) [ros l] (retK Try.prog Try.f69 (fun v H => v = vi (errA l a))) := by kernel_rfl
noncomputable def raN :=
fun (a:Int)↦Ob True∧(true=true→Ob True∧True∧Ob (vi (6:Int)=vi (6:Int)))∧(true=false→(decide (a<(0:Int))=false→(decide ((300:Int)<a)=true→True∧Ob (vi (3:Int)=vi (6:Int)))∧(decide ((300:Int)<a)=false→True∧Ob (vi (0:Int)=vi (6:Int))))∧(decide (a<(0:Int))=true→True∧Ob (vi (3:Int)=vi (6:Int))))
theorem raN_eq : raN = fun (a : Int) => vc Try.prog raE 0 16 true (fun _ => none) raB [] (argFr 0 [.slice none 0 0,vi a]) [] (retK Try.prog Try.f69 (fun v H => v = vi 6)) := by kernel_rfl
noncomputable def raH :=
fun (s:Option Nat) (c:Nat) (a:Int)↦Ob True∧(true=true→Ob True∧True∧Ob (vi (6:Int)=vi (6:Int)))∧(true=false→(decide (a<(0:Int))=false→(decide ((300:Int)<a)=true→True∧Ob (vi (3:Int)=vi (6:Int)))∧(decide ((300:Int)<a)=false→True∧Ob (vi (0:Int)=vi (6:Int))))∧(decide (a<(0:Int))=true→True∧Ob (vi (3:Int)=vi (6:Int))))
theorem raH_eq : raH = fun (s : Option Nat) (c : Nat) (a : Int) => vc Try.prog raE 1 16 true (fun _ => none) raB [] (argFr 0 [.slice (some ⟨0,0,s⟩) 0 c,vi a]) [.gone] (retK Try.prog Try.f69 (fun v H => v = vi 6)) := by kernel_rfl
def raS (r : List Arg) : Prop × Value := match r with
 | [.ints _ l,.plain (.int .i64 a)] => (l.length≤1000000,vi (errA l a))
 | [_,.plain (.int .i64 _)] => (True,vi 6)
 | _ => (False,undef)
def foS (r : List Arg) : Option (Prop × Back) := match r with
 | [.ints _ l,.plain (.int .i64 a)] => some (Coins l∧1≤a∧a≤300,.list (fR l a.toNat))
 | _ => none
noncomputable def rwE : VEnv := { ct := (Ct.none.add 69 (pureG [.ints .i64,.int .i64] raS)).add 70 (newG [.ints .i64,.int .i64] foS) }
noncomputable def fzCt (l : List Int) (c : Nat) : List Value→Heap→Option (Option Prop × Value × Heap × List Nat) := fun args H => match args with
 | [.slice (some ⟨0,0,none⟩) n d,.int .i64 a] => some (some (H = [ros l]∧n = l.length∧d = c∧a = 0),.slice (some ⟨H.length,0,none⟩) 1 1,H ++ [.rw [vi 0] none],[])
 | _ => none
noncomputable def rwZE (l : List Int) (c : Nat) : VEnv := { ct := (Ct.none.add 69 (pureG [.ints .i64,.int .i64] raS)).add 70 (fzCt l c) }
noncomputable def rwB : Code := Try.f25.body.getD .skip
noncomputable def rwV0 (l:List Int) := (List.take l.length (List.drop 0 (intsOf (List.map (Value.int IntKind.i64) l))))
noncomputable def rwV1 (l:List Int):Prop := (List.take l.length (List.drop 0 (List.map (Value.int IntKind.i64) l))=List.map (Value.int IntKind.i64) (rwV0 l)∧0+l.length≤(List.map (Value.int IntKind.i64) l).length∧true=true)
noncomputable def rwV2 (l:List Int) (a:Int) := (List.map (Value.int IntKind.i64) (fR (rwV0 l) a.toNat))
noncomputable def rwV3 (a:Int) := (0+a.toNat * 1)
noncomputable def rwV :=
fun (l:List Int) (c:Nat) (a:Int)↦Ob ((rwV1 l)∧(rwV0 l).length≤1000000)∧((errA (rwV0 l) a !=(0:Int))=true→Ob ((rwV1 l)∧(rwV0 l).length≤1000000)∧True∧Ob (Value.tuple ⟨[vi (0:Int),vi (errA (rwV0 l) a)]⟩=Value.tuple ⟨[vi (fewF l a),vi (errN l a)]⟩))∧((errA (rwV0 l) a !=(0:Int))=false→Ob ((rwV1 l)∧Coins (rwV0 l)∧(1:Int)≤a∧a≤(300:Int))∧Ob ((0:Int)≤a∧a<(↑(fR (rwV0 l) a.toNat).length:Int)∧true=true)∧Ob (IntAt IntKind.i64 (rwV2 l a) (rwV3 a))∧(decide (getI (rwV2 l a) (rwV3 a)<(0:Int))=true→True∧Ob (Value.tuple ⟨[vi (0:Int),vi (5:Int)]⟩=Value.tuple ⟨[vi (fewF l a),vi (errN l a)]⟩))∧(decide (getI (rwV2 l a) (rwV3 a)<(0:Int))=false→True∧Ob (Value.tuple ⟨[vi (getI (rwV2 l a) (rwV3 a)),vi (0:Int)]⟩=Value.tuple ⟨[vi (fewF l a),vi (errN l a)]⟩)))
theorem rwV_eq : rwV = fun (l : List Int) (c : Nat) (a : Int) => vc Try.prog rwE 1 23 true (fun _ => none) rwB [] (argFr 0 [.slice (some ⟨0,0,none⟩) l.length c,vi a]) [ros l] (retK Try.prog Try.f25 (fun v H => v = .tuple #[vi (fewF l a),vi (errN l a)])) := by kernel_rfl
noncomputable def rwZ0 (l:List Int) := (List.take l.length (List.drop 0 (intsOf (List.map (Value.int IntKind.i64) l))))
noncomputable def rwZ1 (l:List Int):Prop := ((List.take l.length (List.drop 0 (List.map (Value.int IntKind.i64) l))=List.map (Value.int IntKind.i64) (rwZ0 l)∧0+l.length≤(List.map (Value.int IntKind.i64) l).length∧true=true)∧(rwZ0 l).length≤1000000)
noncomputable def rwZ2 (l:List Int):Array Value := ⟨[vi (fewF l (0:Int)),vi (errN l (0:Int))]⟩
noncomputable def rwZ :=
fun (l:List Int) (c:Nat)↦Ob (rwZ1 l)∧((errA (rwZ0 l) (0:Int) !=(0:Int))=true→Ob (rwZ1 l)∧True∧Ob (Value.tuple ⟨[vi (0:Int),vi (errA (rwZ0 l) (0:Int))]⟩=Value.tuple (rwZ2 l)))∧((errA (rwZ0 l) (0:Int) !=(0:Int))=false→Ob ([AObj.ro (List.map (Value.int IntKind.i64) l)]=[AObj.ro (List.map (Value.int IntKind.i64) l)]∧l.length=l.length∧c=c∧(0:Int)=(0:Int))∧Ob ((0:Int)≤(0:Int)∧(0:Int)<(↑(1:Nat):Int)∧true=true)∧Ob (IntAt IntKind.i64 [vi (0:Int)] (0+0))∧(decide (getI [vi (0:Int)] (0+0)<(0:Int))=true→True∧Ob (Value.tuple ⟨[vi (0:Int),vi (5:Int)]⟩=Value.tuple (rwZ2 l)))∧(decide (getI [vi (0:Int)] (0+0)<(0:Int))=false→True∧Ob (Value.tuple ⟨[vi (getI [vi (0:Int)] (0+0)),vi (0:Int)]⟩=Value.tuple (rwZ2 l))))
theorem rwZ_eq : rwZ = fun (l : List Int) (c : Nat) => vc Try.prog (rwZE l c) 1 23 true (fun _ => none) rwB [] (argFr 0 [.slice (some ⟨0,0,none⟩) l.length c,vi 0]) [ros l] (retK Try.prog Try.f25 (fun v H => v = .tuple #[vi (fewF l 0),vi (errN l 0)])) := by kernel_rfl
noncomputable def rwN :=
fun (a:Int)↦Ob True∧(true=true→Ob True∧True∧Ob (Value.tuple ⟨[vi (0:Int),vi (6:Int)]⟩=Value.tuple ⟨[vi (0:Int),vi (6:Int)]⟩))∧(true=false→False)
theorem rwN_eq : rwN = fun (a : Int) => vc Try.prog rwE 0 23 true (fun _ => none) rwB [] (argFr 0 [.slice none 0 0,vi a]) [] (retK Try.prog Try.f25 (fun v H => v = .tuple #[vi 0,vi 6])) := by kernel_rfl
noncomputable def rwH :=
fun (s:Option Nat) (c:Nat) (a:Int)↦Ob True∧(true=true→Ob True∧True∧Ob (Value.tuple ⟨[vi (0:Int),vi (6:Int)]⟩=Value.tuple ⟨[vi (0:Int),vi (6:Int)]⟩))∧(true=false→False)
theorem rwH_eq : rwH = fun (s : Option Nat) (c : Nat) (a : Int) => vc Try.prog rwE 1 23 true (fun _ => none) rwB [] (argFr 0 [.slice (some ⟨0,0,s⟩) 0 c,vi a]) [.gone] (retK Try.prog Try.f25 (fun v H => v = .tuple #[vi 0,vi 6])) := by kernel_rfl
structure GP (l : List Int) (f : Nat→Int) (G : List Int) : Prop where
 len : G.length = l.length
 val : ∀ k,k < l.length→G.getD k 0 = f k
noncomputable def rgB : Code := Try.f75.body.getD .skip
def rgI (l : List Int) (c : Nat) (a : Int) : Nat→Option LInv := invOf 0 (LInv.one (Nat × List Int) (fun q => q.1≤l.length∧GP l (grF l a q.1).1 q.2) (fun q => [(0,.slice (some ⟨0,0,none⟩) l.length c),(6,.slice (some ⟨1,0,none⟩) l.length l.length),(7,vi (grF l a q.1).2),(8,vi ((l.length : Int) - 1 - q.1))]) (fun q => [ros l,.rw (q.2.map (.int .i64)) none]) (fun q => l.length - q.1)
 (fun d => invOf 2 (LInv.one (Nat × List Int) (fun q => 0≤(grF l a d.1).2 - q.1 * l.getD (l.length - 1 - d.1) 0∧GP l (fun k => if k = l.length - 1 - d.1 then (q.1 : Int) else (grF l a d.1).1 k) q.2) (fun q => [(0,.slice (some ⟨0,0,none⟩) l.length c),(6,.slice (some ⟨1,0,none⟩) l.length l.length),(7,vi ((grF l a d.1).2 - q.1 * l.getD (l.length - 1 - d.1) 0)),(8,vi ((l.length : Int) - 1 - d.1))]) (fun q => [ros l,.rw (q.2.map (.int .i64)) none]) (fun q => ((grF l a d.1).2 - q.1 * l.getD (l.length - 1 - d.1) 0).toNat))))
noncomputable def rgV0  := (Value.int IntKind.i64)
noncomputable def rgV1 (l:List Int) (x:Nat × List Int) := (0+((l.length:Int)-(1:Int)-(x.fst:Int)).toNat * 1)
noncomputable def rgV2 (l:List Int) (x:Nat × List Int) := (l.length-1-x.fst)
noncomputable def rgV3 (l:List Int) (c:Nat):Prop := (Value.slice (some (ad0 0)) l.length c=Value.slice (some (ad0 0)) l.length c)
noncomputable def rgV4 (l:List Int):Prop := (Value.slice (some (ad0 1)) l.length l.length=Value.slice (some (ad0 1)) l.length l.length)
noncomputable def rgV5  (y:Nat × List Int) := (List.map rgV0 y.snd)
noncomputable def rgV6 (l:List Int) (x:Nat × List Int):Prop := ((l.length:Int)-(1:Int)-(x.fst:Int)=(l.length:Int)-(1:Int)-(x.fst:Int))
noncomputable def rgV7  (x_1:Nat × List Int) := (List.map rgV0 x_1.snd)
noncomputable def rgV8 (l:List Int) := (AObj.ro (List.map rgV0 l))
noncomputable def rgV :=
fun (l:List Int) (c:Nat) (a:Int)↦Ob ((0:Int)≤IntKind.i64.wrap (l.length:Int)∧IntKind.i64.wrap (l.length:Int)≤IntKind.i64.wrap (l.length:Int)∧(↑(8:Nat):Int) * IntKind.i64.wrap (l.length:Int)≤(281474976710656:Int))∧(∃ (y:Nat × List Int),Ob (y.fst≤l.length∧GP l (grF l a y.fst).fst y.snd)∧(Ob (AObj.ro (List.map rgV0 l)=AObj.ro (List.map (nmap1 fun (b:Nat)↦b) (List.map rgV0 l))∧AObj.sc 2 (rgV8 l)=true)∧Ob (AObj.rw (List.replicate (IntKind.i64.wrap (l.length:Int)).toNat (vi (0:Int))) none=AObj.rw (List.map (nmap1 fun (b:Nat)↦b) (rgV5 y)) none∧AObj.sc 2 (AObj.rw (rgV5 y) none)=true)∧True)∧Ob (rgV3 l c)∧Ob (Value.slice (some (ad0 1)) (IntKind.i64.wrap (l.length:Int)).toNat (IntKind.i64.wrap (l.length:Int)).toNat=Value.slice (some (ad0 1)) l.length l.length)∧Ob (a=(grF l a y.fst).snd)∧Ob (IntKind.i64.wrap ((l.length:Int)-(1:Int))=(l.length:Int)-(1:Int)-(y.fst:Int))∧True)∧∀ (x:Nat × List Int),Ob (x.fst≤l.length∧GP l (grF l a x.fst).fst x.snd)→(decide ((0:Int)≤(l.length:Int)-(1:Int)-(x.fst:Int))=true→(∃ (y:Nat × List Int),Ob ((0:Int)≤(grF l a x.fst).snd-(y.fst:Int) * l.getD (rgV2 l x) (0:Int)∧GP l (fun (k:Nat)↦if k=l.length-1-x.fst then (y.fst:Int) else (grF l a x.fst).fst k) y.snd)∧(Ob (AObj.ro (List.map rgV0 l)=AObj.ro (List.map (nmap1 fun (b:Nat)↦b) (List.map rgV0 l))∧AObj.sc 2 (rgV8 l)=true)∧Ob (AObj.rw (List.map rgV0 x.snd) none=AObj.rw (List.map (nmap1 fun (b:Nat)↦b) (rgV5 y)) none∧AObj.sc 2 (AObj.rw (rgV5 y) none)=true)∧True)∧Ob (rgV3 l c)∧Ob (rgV4 l)∧Ob ((grF l a x.fst).snd=(grF l a x.fst).snd-(y.fst:Int) * l.getD (rgV2 l x) (0:Int))∧Ob (rgV6 l x)∧True)∧∀ (x_1:Nat × List Int),Ob ((0:Int)≤(grF l a x.fst).snd-(x_1.fst:Int) * l.getD (rgV2 l x) (0:Int)∧GP l (fun (k:Nat)↦if k=l.length-1-x.fst then (x_1.fst:Int) else (grF l a x.fst).fst k) x_1.snd)→Ob ((0:Int)≤(l.length:Int)-(1:Int)-(x.fst:Int)∧(l.length:Int)-(1:Int)-(x.fst:Int)<(l.length:Int)∧true=true)∧Ob (IntAt IntKind.i64 (List.map rgV0 l) (rgV1 l x))∧(decide (getI (List.map rgV0 l) (rgV1 l x)≤(grF l a x.fst).snd-(x_1.fst:Int) * l.getD (rgV2 l x) (0:Int))=true→Ob ((0:Int)≤(l.length:Int)-(1:Int)-(x.fst:Int)∧(l.length:Int)-(1:Int)-(x.fst:Int)<(l.length:Int)∧true=true)∧Ob (IntAt IntKind.i64 (rgV7 x_1) (rgV1 l x))∧Ob ((0:Int)≤(l.length:Int)-(1:Int)-(x.fst:Int)∧(l.length:Int)-(1:Int)-(x.fst:Int)<(l.length:Int)∧true=true)∧Ob (0+((l.length:Int)-(1:Int)-(x.fst:Int)).toNat * 1+1≤(rgV7 x_1).length)∧Ob ((0:Int)≤(l.length:Int)-(1:Int)-(x.fst:Int)∧(l.length:Int)-(1:Int)-(x.fst:Int)<(l.length:Int)∧true=true)∧Ob (IntAt IntKind.i64 (List.map rgV0 l) (rgV1 l x))∧∃ (y:Nat × List Int),Ob ((0:Int)≤(grF l a x.fst).snd-(y.fst:Int) * l.getD (rgV2 l x) (0:Int)∧GP l (fun (k:Nat)↦if k=l.length-1-x.fst then (y.fst:Int) else (grF l a x.fst).fst k) y.snd)∧Ob (((grF l a x.fst).snd-(y.fst:Int) * l.getD (rgV2 l x) (0:Int)).toNat<((grF l a x.fst).snd-(x_1.fst:Int) * l.getD (rgV2 l x) (0:Int)).toNat)∧(Ob (AObj.ro (List.map rgV0 l)=AObj.ro (List.map (nmap1 fun (b:Nat)↦b) (List.map rgV0 l))∧AObj.sc 2 (rgV8 l)=true)∧Ob (AObj.rw (putL (rgV7 x_1) (rgV1 l x) [vi (IntKind.i64.wrap (getI (rgV7 x_1) (rgV1 l x)+(1:Int)))]) none=AObj.rw (List.map (nmap1 fun (b:Nat)↦b) (rgV5 y)) none∧AObj.sc 2 (AObj.rw (rgV5 y) none)=true)∧True)∧Ob (rgV3 l c)∧Ob (rgV4 l)∧Ob (IntKind.i64.wrap ((grF l a x.fst).snd-(x_1.fst:Int) * l.getD (rgV2 l x) (0:Int)-getI (List.map rgV0 l) (rgV1 l x))=(grF l a x.fst).snd-(y.fst:Int) * l.getD (rgV2 l x) (0:Int))∧Ob (rgV6 l x)∧True)∧(decide (getI (List.map rgV0 l) (rgV1 l x)≤(grF l a x.fst).snd-(x_1.fst:Int) * l.getD (rgV2 l x) (0:Int))=false→∃ (y:Nat × List Int),Ob (y.fst≤l.length∧GP l (grF l a y.fst).fst y.snd)∧Ob (l.length-y.fst<l.length-x.fst)∧(Ob (AObj.ro (List.map rgV0 l)=AObj.ro (List.map (nmap1 fun (b:Nat)↦b) (List.map rgV0 l))∧AObj.sc 2 (rgV8 l)=true)∧Ob (AObj.rw (rgV7 x_1) none=AObj.rw (List.map (nmap1 fun (b:Nat)↦b) (rgV5 y)) none∧AObj.sc 2 (AObj.rw (rgV5 y) none)=true)∧True)∧Ob (rgV3 l c)∧Ob (rgV4 l)∧Ob ((grF l a x.fst).snd-(x_1.fst:Int) * l.getD (rgV2 l x) (0:Int)=(grF l a y.fst).snd)∧Ob (IntKind.i64.wrap ((l.length:Int)-(1:Int)-(x.fst:Int)-(1:Int))=(l.length:Int)-(1:Int)-(y.fst:Int))∧True))∧(decide ((0:Int)≤(l.length:Int)-(1:Int)-(x.fst:Int))=false→(Ob (AObj.ro (List.map rgV0 l)=AObj.ro (List.map (nmap1 fun (b:Nat)↦b) (List.map rgV0 l))∧AObj.sc 2 (rgV8 l)=true)∧Ob (AObj.rw (List.map rgV0 x.snd) none=AObj.rw (List.map (nmap1 fun (b:Nat)↦b) (List.map rgV0 (greL l a))) none∧AObj.sc 2 (AObj.rw (List.map rgV0 (greL l a)) none)=true)∧True)∧Ob (Value.tuple ⟨[Value.slice (some (ad0 1)) l.length l.length,vi (grF l a x.fst).snd]⟩=Value.tuple ⟨[Value.slice (some (ad0 1)) l.length l.length,vi (grF l a l.length).snd]⟩)∧True)
theorem raV_ok (l : List Int) (c : Nat) (a : Int) (hl : l.length≤1000000) : raV l c a := by
 unfold raV raV1 raV0
 simp only [SS,reduceCtorEq,Arg.list,Arg.num,Arg.flag,intOf,andP,Nat.reduceLeDiff,Nat.reduceAdd,Nat.reduceMul,Nat.reduceLT]
 exact ⟨hl,fun h => ⟨hl,(errA_c h).symm⟩,fun h => ⟨fun h1 => ⟨fun h2 => (errA_3 h (by omega)).symm,fun h2 => (errA_0.2 ⟨h,by omega,by omega⟩).symm⟩,fun h1 => (errA_3 h (by omega)).symm⟩⟩
theorem raN_ok (a : Int) : raN a := by
 unfold raN
 simp only [SS,reduceCtorEq,Arg.list,Arg.num,Arg.flag,intOf,andP,Nat.reduceLeDiff,Nat.reduceAdd,Nat.reduceMul,Nat.reduceLT]
theorem raH_ok (s : Option Nat) (c : Nat) (a : Int) : raH s c a := by
 unfold raH
 simp only [SS,reduceCtorEq,Arg.list,Arg.num,Arg.flag,intOf,andP,Nat.reduceLeDiff,Nat.reduceAdd,Nat.reduceMul,Nat.reduceLT]
theorem rwV_ok (l : List Int) (c : Nat) (a : Int) (hl : l.length≤1000000) (ha : a ≠ 0) : rwV l c a := by
 unfold rwV rwV3 rwV2 rwV1 rwV0
 simp only [SS,reduceCtorEq,Arg.list,Arg.num,Arg.flag,intOf,andP,Nat.reduceLeDiff,Nat.reduceAdd,Nat.reduceMul,Nat.reduceLT]
 refine ⟨hl,fun h => ⟨hl,two_eq (fewF_no (by rw [errN_a h]; exact h)).symm (errN_a h).symm⟩,fun h => ?_⟩
 obtain ⟨he,hr⟩ := errA_0.1 h
 have hc := errC_ok.1 he
 obtain ⟨A,rfl⟩ := Int.eq_ofNat_of_zero_le hr.1
 have g := fR_get hc A (by omega) A (by omega)
 have e : ((A : Int)).toNat = A := rfl
 have hb := fvA_bd hc (b := A) (by omega)
 have hL := fR_len (l := l) A
 rw [e,g]
 refine ⟨⟨hc,by omega,by omega⟩,⟨by omega,by omega⟩,by omega,fun k => ?_,fun k => ?_⟩
 · have hx : canB l A = false := by
     cases hx : canB l A with
     | false => rfl
     | true =>
       rw [fvA,hx,if_pos rfl] at k
       have := (bF_less hc (a := A) (by omega)).small
       obtain ⟨k0,k1,k2,k3,k4⟩ := this
       unfold m5 at k; omega
   exact two_eq (fewF_no (by rw [errN_5 h hx]; decide)).symm (errN_5 h hx).symm
 · have hx : canB l A = true := by
     cases hx : canB l A with
     | true => rfl
     | false => rw [fvA,hx,if_neg Bool.false_ne_true] at k; omega
   have hN := errN_0 h hx
   refine two_eq ?_ hN.symm
   rw [fewF_ok hN,fvA,hx,if_pos rfl]; rfl
theorem rwZ_ok (l : List Int) (c : Nat) (hl : l.length≤1000000) : rwZ l c := by
 unfold rwZ rwZ2 rwZ1 rwZ0
 simp only [SS,reduceCtorEq,Arg.list,Arg.num,Arg.flag,intOf,andP,Nat.reduceLeDiff,Nat.reduceAdd,Nat.reduceMul,Nat.reduceLT]
 refine ⟨hl,fun h => ⟨hl,two_eq (fewF_no (by rw [errN_a h]; exact h)).symm (errN_a h).symm⟩,fun h => ⟨by omega,rfl,fun k => absurd k (by show ¬ (0 : Int) < 0; omega),fun _ => ?_⟩⟩
 have hc := errC_ok.1 (errA_0.1 h).1
 have g := fR_get hc 0 (by omega) 0 (by omega)
 have hx : canB l 0 = true := rfl
 have hN := errN_0 h (show canB l ((0 : Int)).toNat = true from hx)
 refine two_eq ?_ hN.symm
 rw [fewF_ok hN]
 show (0 : Int) = m5 (bF l 0)
 have g : (0 : Int) = fvA l 0 := g
 rw [fvA,hx,if_pos rfl] at g
 exact g
theorem rwN_ok (a : Int) : rwN a := by
 unfold rwN
 simp only [SS,reduceCtorEq,Arg.list,Arg.num,Arg.flag,intOf,andP,Nat.reduceLeDiff,Nat.reduceAdd,Nat.reduceMul,Nat.reduceLT]
theorem rwH_ok (s : Option Nat) (c : Nat) (a : Int) : rwH s c a := by
 unfold rwH
 simp only [SS,reduceCtorEq,Arg.list,Arg.num,Arg.flag,intOf,andP,Nat.reduceLeDiff,Nat.reduceAdd,Nat.reduceMul,Nat.reduceLT]
theorem div_un {r v q : Int} (hv : 1≤v) (h0 : 0≤r) (h1 : 0≤r - q * v) (h2 : r - q * v < v) : r.tdiv v = q∧r.tmod v = r - q * v := by
 have e : r = (r - q * v) + v * q := by rw [Int.mul_comm v q]; omega
 have d : r / v = q := by
   rw [e,Int.add_mul_ediv_left _ _ (by omega),Int.ediv_eq_zero_of_lt h1 h2]; omega
 have m := Int.mul_ediv_add_emod r v
 rw [d,Int.mul_comm v q] at m
 rw [Int.tdiv_eq_ediv_of_nonneg h0,Int.tmod_eq_emod_of_nonneg h0]
 exact ⟨d,by omega⟩
theorem gp_ext {l : List Int} {f : Nat→Int} {G M : List Int} (h : GP l f G) (hM : M.length = l.length) (h2 : ∀ k,k < l.length→M.getD k 0 = f k) : G = M := by
 refine List.ext_getElem (by rw [h.len,hM]) fun k h1 h3 => ?_
 have a := h.val k (by rw [← h.len]; exact h1)
 have b := h2 k (by rw [← h.len]; exact h1)
 rw [List.getD_eq_getElem?_getD,List.getElem?_eq_getElem h1] at a
 rw [List.getD_eq_getElem?_getD,List.getElem?_eq_getElem h3] at b
 exact a.trans b.symm
theorem getD_put {t : List Int} {i j : Nat} {v : Int} (hi : i < t.length) : (t.set i v).getD j 0 = if j = i then v else t.getD j 0 := by
 rw [List.getD_eq_getElem?_getD,List.getElem?_set,List.getD_eq_getElem?_getD]
 by_cases e : i = j
 · rw [if_pos e,if_pos hi,if_pos e.symm]; rfl
 · rw [if_neg e,if_neg (Ne.symm e)]
theorem rgV_ok (l : List Int) (c : Nat) (a : Int) (hc : Coins l) (ha : 0≤a∧a≤300) : rgV l c a := by
 unfold rgV rgV8 rgV7 rgV6 rgV5 rgV4 rgV3 rgV2 rgV1 rgV0
 simp only [SS,reduceCtorEq,Arg.list,Arg.num,Arg.flag,intOf,andP,Nat.reduceLeDiff,Nat.reduceAdd,Nat.reduceMul,Nat.reduceLT]
 have hf := hc.few
 have hp := hc.pos
 have wl : IntKind.i64.wrap (l.length : Int) = l.length := wrap_in (by omega) (by omega)
 simp only [wl,Int.toNat_natCast]
 refine ⟨⟨by omega,by omega,by omega⟩,⟨(0,List.replicate l.length 0),⟨Nat.zero_le _,⟨List.length_replicate,fun k hk => by rw [List.getD_eq_getElem?_getD,List.getElem?_replicate,if_pos hk]; rfl⟩⟩,by rw [List.map_replicate],⟨trivial,trivial⟩,rfl,by rw [wrap_in (by omega) (by omega)]; show _ = (l.length : Int) - 1 - ((0 : Nat) : Int); omega⟩,?_⟩
 rintro ⟨d,G⟩ ⟨hd,hG⟩
 have hd : d≤l.length := hd
 have hG : GP l (grF l a d).1 G := hG
 have hb := gr_bd hc ha.1 d hd
 dsimp only
 refine ⟨fun h1 => ⟨⟨(0,G),⟨by show 0≤(grF l a d).2 - ((0 : Nat) : Int) * _; rw [Int.natCast_zero,Int.zero_mul]; omega,hG.len,fun k hk => ?_⟩,rfl,by show _ = (grF l a d).2 - ((0 : Nat) : Int) * _; rw [Int.natCast_zero,Int.zero_mul,Int.sub_zero]⟩,?_⟩,fun h1 => ?_⟩
 · rw [hG.val k hk]
   by_cases e : k = l.length - 1 - d
   · rw [if_pos e,(gr_all hc ha.1 d hd).1 k (by omega)]; rfl
   · rw [if_neg e]
 · rintro ⟨q,M⟩ ⟨hq,hM⟩
   have hq : 0≤(grF l a d).2 - (q : Int) * l.getD (l.length - 1 - d) 0 := hq
   have hM : GP l (fun k => if k = l.length - 1 - d then (q : Int) else (grF l a d).1 k) M := hM
   have hml := hM.len
   dsimp only
   have e : ((l.length : Int) - 1 - (d : Int)).toNat = l.length - 1 - d := by omega
   simp only [e]
   have hv := coin_rng hc (j := l.length - 1 - d) (by omega)
   have hMp : M.getD (l.length - 1 - d) 0 = q := by rw [hM.val _ (by omega),if_pos rfl]
   have hqv : (q : Int) * 1≤(q : Int) * l.getD (l.length - 1 - d) 0 := Int.mul_le_mul_of_nonneg_left hv.1 (by omega)
   refine ⟨⟨by omega,by omega⟩,by omega,fun h2 => ?_,fun h2 => ?_⟩
   · have e2 : ((q + 1 : Nat) : Int) * l.getD (l.length - 1 - d) 0 = (q : Int) * l.getD (l.length - 1 - d) 0 + l.getD (l.length - 1 - d) 0 := by rw [Int.natCast_add,Int.add_mul]; simp
     refine ⟨⟨by omega,by omega⟩,by omega,⟨by omega,by omega⟩,by omega,⟨by omega,by omega⟩,by omega,(q + 1,M.set (l.length - 1 - d) ((q + 1 : Nat) : Int)),⟨by show 0≤(grF l a d).2 - ((q + 1 : Nat) : Int) * _; rw [e2]; omega,by rw [List.length_set]; exact hml,fun k hk => ?_⟩,by show ((grF l a d).2 - ((q + 1 : Nat) : Int) * _).toNat < _; rw [e2]; omega,?_,?_⟩
     · rw [getD_put (by omega)]
       by_cases c1 : k = l.length - 1 - d
       · rw [if_pos c1,if_pos c1]
       · rw [if_neg c1,if_neg c1,hM.val k hk,if_neg c1]
     · rw [hMp,putL_int,wrap_in (by omega) (by omega)]; rfl
     · show _ = (grF l a d).2 - ((q + 1 : Nat) : Int) * _
       rw [e2,wrap_in (by omega) (by omega)]; omega
   · obtain ⟨u1,u2⟩ := div_un hv.1 hb.1.1 hq (by omega)
     refine ⟨(d + 1,M),⟨by show d + 1≤_; omega,hml,fun k hk => ?_⟩,by show l.length - (d + 1) < l.length - d; omega,rfl,u2.symm,by rw [wrap_in (by omega) (by omega)]; show _ = (l.length : Int) - 1 - ((d + 1 : Nat) : Int); omega⟩
     rw [hM.val k hk]
     show _ = bif Nat.beq k (l.length - 1 - d) then (grF l a d).2.tdiv (l.getD (l.length - 1 - d) 0) else (grF l a d).1 k
     by_cases c1 : k = l.length - 1 - d
     · rw [if_pos c1,c1,Nat.beq_refl,u1]; rfl
     · rw [if_neg c1]
       cases hb2 : Nat.beq k (l.length - 1 - d) with
       | true => exact absurd (Nat.eq_of_beq_eq_true hb2) c1
       | false => rfl
 · obtain rfl : d = l.length := by omega
   refine ⟨by rw [gp_ext hG (gre_len hf) fun k hk => gre_gt hk hf],rfl⟩
end Go.Pier.Fl
namespace Go.Pier.Fl
open Go Go.Pier Go.Proofs
def okW (a : Int) : Leaf→Prop
 | .view cs n _ => cs = (intsOf cs).map (.int .i64)∧cs.length = n∧Coins (intsOf cs)∧0≤a∧a≤300
 | _ => False
def rgS : List Arg3→Option Born
 | [.one (.view cs n r),.one (.plain (.int .i64 a))] => some ⟨okW a (.view cs n r),fun b => .tuple #[.slice (some ⟨b,0,none⟩) n n,vi (grF (intsOf cs) a n).2],[.rw ((greL (intsOf cs) a).map (.int .i64)) none]⟩
 | _ => none
theorem raE_ok : VOk Try.prog raE := VOk.ofCt (CtOk.none.add rcG_ok)
theorem raG_ok : ∀ args H φ v H' l,pureG [.ints .i64,.int .i64] raS args H = some (φ,v,H',l)→Asks φ→Call Try.prog 69 args H (fun v' H2 => v' = v∧H2 = H')∧Kept H H' l :=
 pureG_ok fun r hk hs => match r,hk with
   | [_,_],⟨hl,⟨a,ha⟩,_⟩ => by
     subst ha
     rcases hl with rfl | ⟨s,rfl⟩ | ⟨l,rfl⟩
     · exact ⟨rfl,fun caps => Call.ofVc raE_ok mixed (c := raB) (inv := fun _ => none) Try.func69 (by kernel_rfl) (cast (congrFun raN_eq a) (raN_ok a))⟩
     · exact ⟨rfl,fun caps => Call.ofVc raE_ok mixed (c := raB) (inv := fun _ => none) Try.func69 (by kernel_rfl) (cast (congrFun (congrFun (congrFun raH_eq s) (caps 0)) a) (raH_ok s _ a))⟩
     · exact ⟨rfl,fun caps => Call.ofVc raE_ok mixed (c := raB) (inv := fun _ => none) Try.func69 (by kernel_rfl) (cast (congrFun (congrFun (congrFun raV_eq l) (caps 0)) a) (raV_ok l _ a hs))⟩
theorem foG_ok : ∀ args H φ v H' l,newG [.ints .i64,.int .i64] foS args H = some (φ,v,H',l)→Asks φ→Call Try.prog 70 args H (fun v' H2 => v' = v∧H2 = H')∧Kept H H' l :=
 newG_ok fun r ψ b hk hs hψ => match r,hk with
   | [_,_],⟨hl,⟨a,ha⟩,_⟩ => by
     subst ha
     rcases hl with rfl | ⟨s,rfl⟩ | ⟨l,rfl⟩
     · cases hs
     · cases hs
     · cases hs
       obtain ⟨hc,h1,h2⟩ := hψ
       obtain ⟨A,rfl⟩ := Int.eq_ofNat_of_zero_le (show 0≤a by omega)
       refine ⟨rfl,fun caps => ?_⟩
       have h := fo_call l (caps 0) A hc (by omega) (by omega)
       have h' : Call Try.prog 70 [.slice (some ⟨0,0,none⟩) l.length (caps 0),vi (A : Int)] [ros l] fun v H' => v = newSlice 1 (fR l A).length∧H' = [ros l] ++ [.rw ((fR l A).map (.int .i64)) (some 1)] := by
         rw [fR_len]
         exact h
       exact h'
theorem fzCt_ok {l : List Int} {c : Nat} : ∀ args H φ v H' k,fzCt l c args H = some (φ,v,H',k)→Asks φ→Call Try.prog 70 args H (fun v' H2 => v' = v∧H2 = H')∧Kept H H' k := fun args H φ v H' k h hφ => by
 unfold fzCt at h
 split at h <;> cases h
 obtain ⟨rfl,rfl,rfl,rfl⟩ := hφ
 exact ⟨foz_call l _,Kept.append _ _ _⟩
theorem rwE_ok : VOk Try.prog rwE := VOk.ofCt ((CtOk.none.add raG_ok).add foG_ok)
theorem rwZE_ok {l : List Int} {c : Nat} : VOk Try.prog (rwZE l c) := VOk.ofCt ((CtOk.none.add raG_ok).add fzCt_ok)
theorem rwG_ok : ∀ args H φ v H' l,pureG [.ints .i64,.int .i64] fwS args H = some (φ,v,H',l)→Asks φ→Call Try.prog 25 args H (fun v' H2 => v' = v∧H2 = H')∧Kept H H' l :=
 pureG_ok fun r hk hs => match r,hk with
   | [_,_],⟨hl,⟨a,ha⟩,_⟩ => by
     subst ha
     rcases hl with rfl | ⟨s,rfl⟩ | ⟨l,rfl⟩
     · exact ⟨by simp [fwS,sc,sc2,sc1,sc0],fun caps => Call.ofVc rwE_ok mixed (c := rwB) (inv := fun _ => none) Try.func25 (by kernel_rfl) (cast (congrFun rwN_eq a) (rwN_ok a))⟩
     · exact ⟨by simp [fwS,sc,sc2,sc1,sc0],fun caps => Call.ofVc rwE_ok mixed (c := rwB) (inv := fun _ => none) Try.func25 (by kernel_rfl) (cast (congrFun (congrFun (congrFun rwH_eq s) (caps 0)) a) (rwH_ok s _ a))⟩
     · refine ⟨by simp [fwS,sc,sc2,sc1,sc0],fun caps => ?_⟩
       by_cases e : a = 0
       · subst e
         exact Call.ofVc rwZE_ok mixed (c := rwB) (inv := fun _ => none) Try.func25 (by kernel_rfl) (cast (congrFun (congrFun rwZ_eq l) (caps 0)) (rwZ_ok l _ hs))
       · exact Call.ofVc rwE_ok mixed (c := rwB) (inv := fun _ => none) Try.func25 (by kernel_rfl) (cast (congrFun (congrFun (congrFun rwV_eq l) (caps 0)) a) (rwV_ok l _ a hs e))
theorem rg_call (l : List Int) (c : Nat) (a : Int) (hc : Coins l) (ha : 0≤a∧a≤300) : Call Try.prog 75 [.slice (some ⟨0,0,none⟩) l.length c,vi a] [ros l] fun v H' => v = .tuple #[.slice (some ⟨1,0,none⟩) l.length l.length,vi (grF l a l.length).2]∧H' = [ros l] ++ [.rw ((greL l a).map (.int .i64)) none] :=
 Call.ofVcR (E := {}) (H := [ros l]) (args := [.slice (some ⟨0,0,none⟩) l.length c,vi a]) (σ := fun b => b) (v2 := .tuple #[.slice (some ⟨1,0,none⟩) l.length l.length,vi (grF l a l.length).2]) (H2 := [ros l,.rw ((greL l a).map (.int .i64)) none]) E0_ok mixed (c := rgB) (inv := rgI l c a) Try.func75 (by kernel_rfl) (cast (by kernel_rfl) (rgV_ok l c a hc ha))
theorem rgG_ok : ∀ args H φ v H' l,born3 [.one (.rows [.i .i64] false),.one (.int .i64)] rgS args H = some (φ,v,H',l)→Asks φ→Call Try.prog 75 args H (fun v' H2 => v' = v∧H2 = H')∧Kept H H' l :=
 born3_ok fun r s hk hs hψ => match r,hk with
   | [.one x,.one y],⟨hx,⟨a,hy⟩,_⟩ => by
     subst hy
     rcases hx with rfl | ⟨s,rfl⟩ | ⟨cs,n,rfl⟩
     · cases hs
     · cases hs
     · cases hs
       obtain ⟨k1,k2,k3,k4⟩ := hψ
       have kl : (intsOf cs).length = n := by rw [intsOf,List.length_map]; exact k2
       have ke : AObj.ro cs = ros (intsOf cs) := by show AObj.ro cs = .ro ((intsOf cs).map (.int .i64)); rw [← k1]
       refine ⟨⟨plainNew_ints,fun ρ b ρ' c h => ?_,fun n => ?_⟩,fun caps hcaps => ?_⟩
       · obtain ⟨h1,h2,h3⟩ := h 0 (by simp)
         simp only [Nat.add_zero] at h1 h2 h3
         simp [ren,ren2,ren1,ren0,Ren.addr,Ren.adr,Ren.cap,h1,h2,h3]
       · simp [sc,sc2,sc1,sc0]
       · have h := rg_call (intsOf cs) (caps 0) a k3 k4
         rw [kl] at h
         have e : canonH3 [Arg3.one (Leaf.view cs n false),Arg3.one (Leaf.plain (vi a))] = [ros (intsOf cs)] := by
           show [AObj.ro cs] = _
           rw [ke]
         rw [e]
         exact h
end Go.Pier.Fl
namespace Go.Pier
open Go
variable {P : Program} {H : Heap} {f : FuncId}
def roomy (H : Heap) : Value→Option (Option Prop)
 | .slice (some a) m c => match a.spot with
   | none => some (some (m≤c))
   | some k => match c with
     | 0 => match H[a.block]? with
       | some (.rw cs (some 1)) => some (some (k + m≤cs.length∧0 < m))
       | _ => none
     | _ + 1 => some none
 | _ => some none
def rooms (H : Heap) : List Value→Option (Option Prop)
 | [] => some none
 | v :: vs => match roomy H v with
   | some φ => match rooms H vs with
     | some ψ => some (andO φ ψ)
     | none => none
   | none => none
def capsOk (caps : Nat→Nat) : Nat→List Arg2→Prop
 | _,[] => True
 | i,.val _ :: r => capsOk caps i r
 | i,.ints _ l :: r => l.length≤caps i∧capsOk caps (i + 1) r
 | i,.hole s :: r => (s.isSome = true→0 < caps i)∧capsOk caps (i + 1) r
theorem roomy_ok {ρ ρ1 : Ren} {w : World} (R : Rel ρ H w) {k : IntKind} {v : Value} {ψ : Option Prop} {l : List Int} {i c : Nat} {p : Prop} (hs : sliceInts k H v = some (p,l)) (hp : p)
   (hr : roomy H v = some ψ) (hψ : Asks ψ) (he : ren ρ1 (.slice (some ⟨i,0,none⟩) l.length c) = ren ρ v) : l.length≤c := by
 unfold sliceInts at hs
 split at hs <;> try (cases hs; done)
 rename_i a n c'
 split at hs <;> simp only [Option.some.injEq,Prod.mk.injEq,reduceCtorEq] at hs
 rename_i cs hc
 obtain ⟨rfl,rfl⟩ := hs
 obtain ⟨h1,h2,h3⟩ := hp
 have hlen : (((intsOf cs).drop a.off).take n).length = n := by
   rw [List.length_take,List.length_drop,intsOf,List.length_map]; omega
 have he2 : c = ρ.cap a c' := by
   have h0 : Value.slice (some (Ren.adr ρ1 ⟨i,0,none⟩ c)) (((intsOf cs).drop a.off).take n).length (Ren.cap ρ1 ⟨i,0,none⟩ c) = Value.slice (some (Ren.adr ρ a c')) n (Ren.cap ρ a c') := he
   exact (Value.slice.inj h0).2.2
 rw [hlen,he2]
 unfold roomy at hr
 unfold Ren.cap
 cases ha : a.spot with
 | none =>
   simp only [ha,Option.some.injEq] at hr
   subst hr
   exact hψ
 | some k' =>
   cases c' with
   | succ c' => unfold std at h3; rw [ha] at h3; cases h3
   | zero =>
     simp only [ha] at hr
     split at hr <;> simp only [Option.some.injEq,reduceCtorEq] at hr
     rename_i cs2 hb
     subst hr
     obtain ⟨_,cs',t,_,_,h5,h6⟩ := R.obj _ _ hb
     have h7 : k' + n≤cs2.length := (show k' + n≤cs2.length∧0 < n from hψ).1
     simp only
     omega
theorem rooms_ok {ρ ρ1 : Ren} {w : World} (R : Rel ρ H w) {σ : Nat→Nat} {B : List Nat} {m : Nat} {caps : Nat→Nat} : ∀ {ags : List Arg2} {vs : List Value} {i : Nat} {φ : Option Prop},ReadA2 H σ B m ags vs→rooms H vs = some φ→Asks φ →
   (canonA2 caps i ags).map (ren ρ1) = vs.map (ren ρ)→capsOk caps i ags
 | [],_,_,_,_,_,_,_ => trivial
 | .val _ :: _,[],_,_,h,_,_,_ => h.elim
 | .ints _ _ :: _,[],_,_,h,_,_,_ => h.elim
 | .hole _ :: _,[],_,_,h,_,_,_ => h.elim
 | a :: r,v :: vs,i,φ,h,hr,hφ,he => by
   unfold rooms at hr
   split at hr <;> try (cases hr; done)
   rename_i φ1 h1
   split at hr <;> cases hr
   rename_i φ2 h2
   obtain ⟨k1,k2⟩ := andO_iff.1 hφ
   cases a with
   | val u =>
     simp only [canonA2,List.map_cons,List.cons.injEq] at he
     exact rooms_ok (ags := r) R (show ReadA2 H σ B m r vs from h.2.2) h2 k2 he.2
   | ints k l =>
     simp only [canonA2,List.map_cons,List.cons.injEq] at he
     obtain ⟨⟨p,hs,hp⟩,_,h3⟩ := h
     exact ⟨roomy_ok R hs hp h1 k1 he.1,rooms_ok (ags := r) R h3 h2 k2 he.2⟩
   | hole s =>
     simp only [canonA2,List.map_cons,List.cons.injEq] at he
     refine ⟨fun hs => ?_,rooms_ok (ags := r) R (show ReadA2 H σ B m r vs from h.2) h2 k2 he.2⟩
     obtain ⟨⟨b,c,rfl⟩,_⟩ := h
     cases s with
     | none => cases hs
     | some k =>
       cases c with
       | zero =>
         unfold roomy at h1
         simp only at h1
         split at h1 <;> simp only [Option.some.injEq,reduceCtorEq] at h1
         subst h1
         exact absurd (show 0 + 0 < 0 from by have : _∧0 < 0 := k1; exact this.2) (by omega)
       | succ c =>
         rcases Nat.eq_zero_or_pos (caps i) with h0 | h0
         · rw [h0] at he
           have h4 : Value.slice (some (Ren.adr ρ1 ⟨i,0,some k⟩ 0)) 0 (Ren.cap ρ1 ⟨i,0,some k⟩ 0) = Value.slice (some (Ren.adr ρ ⟨b,0,some k⟩ (c + 1))) 0 (Ren.cap ρ ⟨b,0,some k⟩ (c + 1)) := he.1
           have h5 := congrArg Addr.spot (Option.some.inj (Value.slice.inj h4).1)
           simp [Ren.adr,Ren.addr] at h5
         · exact h0
theorem Fresh.callC {s : Fresh} (g : s.Good) {r : List Arg} {args : List Value} {φ : Option Prop} (h4 : ∀ caps,capsOk caps 0 (r.map Arg.two)→Call P f (canonA caps 0 r) (canonH r) fun v H' => v = s.val (canonH r).length∧H' = canonH r ++ s.new (canonH r).length) (hR : ReadA H r args)
   (hr : rooms H args = some φ) (hφ : Asks φ) :
   Call P f args H (fun v' H2 => v' = s.val H.length∧H2 = H ++ s.new H.length)∧Kept H (H ++ s.new H.length) [] := by
 refine ⟨?_,Kept.append _ _ _⟩
 have h5 : ∀ caps,capsOk caps 0 (r.map Arg.two)→Call P f (canonA2 caps 0 (r.map Arg.two)) ([] ++ canonH2 (r.map Arg.two)) fun v' F' => v' = s.val (canonH r).length∧F' = [] ++ canonH2 (r.map Arg.two) ++ s.new (canonH r).length := fun caps hc => by
   rw [canonA_two,canonH_two,List.nil_append]; exact h4 caps hc
 have hR2 : ReadA2 H (fun c => [].getD c 0) [] 0 (r.map Arg.two) args := read_two rfl hR
 have := Call.frameC (P := P) (f := f) (H := H) (Et := []) (Ft := []) (N := s.new (canonH r).length) (L := []) (ags := r.map Arg.two) (vs := args) (v := s.val (canonH r).length)
   (fun caps => capsOk caps 0 (r.map Arg.two)) (fun ρ w ρ1 caps R he => rooms_ok R hR2 hr hφ he) rfl rfl (by simp) (fun _ h => by cases h) (fun c o h => by simp at h) (fun _ h => by cases h)
   hR2 h5
   (by rw [List.nil_append,List.nil_append,canonH_two]; simp only [List.length_nil,nm_weak]; exact g.nmn _)
   (g.ro _)
   (by rw [List.nil_append,canonH_two]; simp only [List.length_nil,nm_weak]; exact g.nmv _)
   (by
     rw [List.nil_append,List.nil_append,canonH_two,nameL_nil]
     intro o ho
     have hm := List.mem_map_of_mem (f := omap fun c => H.length + (c - (canonH r).length)) ho
     rw [g.new] at hm
     have := g.scn H.length _ hm
     rw [show (s.new (canonH r).length).length = (s.new H.length).length by rw [← g.new (canonH r).length H.length,List.length_map]]
     exact this)
   (by
     rw [List.nil_append,canonH_two,nameL_nil,g.val]
     have := g.scv H.length
     rw [show (s.new (canonH r).length).length = (s.new H.length).length by rw [← g.new (canonH r).length H.length,List.length_map]]
     exact this)
 rw [List.nil_append,canonH_two,nameL_nil,g.val,g.new] at this
 exact this.1
def freshC (ps : List PK) (spec : List Arg→Option Fresh) : List Value→Heap→Option (Option Prop × Value × Heap × List Nat) := fun args H => match toArgs H ps args with
 | some (φ,r) => match rooms H args with
   | some ψ => match spec r with
     | some s => some (andO φ (andO ψ (some s.ask)),s.val H.length,H ++ s.new H.length,[])
     | none => none
   | none => none
 | none => none
theorem freshC_ok {ps : List PK} {spec : List Arg→Option Fresh} (h : ∀ r s,kinds ps r→spec r = some s→s.ask→s.Good∧∀ caps,capsOk caps 0 (r.map Arg.two)→Call P f (canonA caps 0 r) (canonH r) fun v H' => v = s.val (canonH r).length∧H' = canonH r ++ s.new (canonH r).length) :
   ∀ args H φ v H' l,freshC ps spec args H = some (φ,v,H',l)→Asks φ→Call P f args H (fun v' H2 => v' = v∧H2 = H')∧Kept H H' l := by
 intro args H φ v H' l hg hφ
 unfold freshC at hg
 split at hg <;> try (cases hg; done)
 rename_i φ1 r hr
 split at hg <;> try (cases hg; done)
 rename_i ψ hr2
 split at hg <;> cases hg
 rename_i s hb
 obtain ⟨h1,h2⟩ := andO_iff.1 hφ
 obtain ⟨h3,h5⟩ := andO_iff.1 h2
 obtain ⟨g,h4⟩ := h r s (toArgs_kinds hr) hb h5
 exact Fresh.callC g h4 (toArgs_ok hr h1) hr2 h3
theorem rooms_of {K : Type} {t : TypeId} {v : Value} {d : DataW K} {p : PK} (hp : pkOf P t = some p) (h : ReadsV P H t v d) : ∃ φ,roomy H v = some φ∧Asks φ := by
 obtain ⟨hs,f,hr⟩ := h
 unfold pkOf at hp
 cases f with
 | zero => exact hr.elim
 | succ f =>
 unfold shapeV at hs
 unfold Reads at hr
 split at hp
 · rename_i hu
   rw [hu] at hs hr
   simp only at hs hr
   rw [cells_plain hs] at hr
   obtain ⟨b,hb,_⟩ := hr
   cases hb
   exact ⟨none,rfl,trivial⟩
 · rename_i k hu
   rw [hu] at hs hr
   simp only at hs hr
   rw [cells_plain hs] at hr
   obtain ⟨n,hb,hw,_⟩ := hr
   cases hb
   exact ⟨none,rfl,trivial⟩
 · rename_i e hu
   rw [hu] at hs hr
   simp only at hs hr
   rw [cells_plain hs] at hr
   rcases hr with ⟨h1,_⟩ | ⟨b,s,h1,_⟩ | ⟨b,len,cap,cells,ds,sp,h1,h2,_⟩
   · cases h1; exact ⟨none,rfl,trivial⟩
   · cases h1; exact ⟨none,rfl,trivial⟩
   · cases h1; exact ⟨some (len≤cap),rfl,h2⟩
 · cases hp
theorem roomsAll {K : Type} : ∀ {ts : List TypeId} {ps : List PK} {vs : List Value} {ds : List (DataW K)},pksOf P ts = some ps→ReadsAll P H ts vs ds→∃ φ,rooms H vs = some φ∧Asks φ
 | [],_,[],_,_,_ => ⟨none,rfl,trivial⟩
 | [],_,_ :: _,[],_,h => h.elim
 | [],_,_ :: _,_ :: _,_,h => h.elim
 | _ :: _,_,[],_,_,h => h.elim
 | _ :: _,_,_ :: _,[],_,h => h.elim
 | t :: ts,ps,v :: vs,d :: ds,hp,h => by
   unfold pksOf at hp
   split at hp <;> try (cases hp; done)
   rename_i p q h1 h2
   obtain ⟨φ,k1,k2⟩ := rooms_of h1 h.1
   obtain ⟨ψ,k3,k4⟩ := roomsAll h2 h.2
   exact ⟨andO φ ψ,by unfold rooms; rw [k1,k3],andO_iff.2 ⟨k2,k4⟩⟩
theorem Call.ofArgsC {f : FuncId} {C : (Nat→Nat)→Prop} {v0 : Value} {ags : List Arg} {vs : List Value} (hr : ReadA H ags vs) (hC : ∀ caps ρ w ρ1,Rel ρ H w→(canonA caps 0 ags).map (ren ρ1) = vs.map (ren ρ)→C caps)
   (h : ∀ caps,C caps→Call P f (canonA caps 0 ags) (canonH ags) fun v _ => v = v0) (hv : sc 0 v0 = true) : Call P f vs H fun v H' => v = v0∧H' = H := fun ρ w R _ => by
 have R00 : Rel ρ [] w := ⟨fun b o hb => by simp at hb,fun b b' hb => by simp [wr] at hb,fun b b' hb => by simp [isRo] at hb,fun b b' hb => by simp [isMix] at hb,fun b o hb => by simp at hb⟩
 obtain ⟨ρ0,caps,_,R0,hst,e,s0⟩ := handAll R ags vs ρ [] hr R00 Still.nil
 simp only [List.nil_append,List.length_nil] at R0 hst e s0
 have := h caps (hC caps ρ w ρ0 R e) ρ0 w R0 s0
 rw [e] at this
 refine this.mono ?_
 rintro e' w' ⟨ρ',v,H',rfl,rfl,R',X,s'⟩
 have hk := hst.kept X
 exact ⟨ρ,v,H,by rw [ren_closed hv,ren_closed hv],⟨rfl,rfl⟩,R.keep X.size hk,Ext.keep' X.size hk X.os X.tape X.output,sc_mono (Nat.zero_le _) hv⟩
theorem law_ofC {K : Type} {f : FuncId} {ts : List TypeId} {ps : List PK} (hp : pksOf P ts = some ps) (h : ∀ r,fitsAll ps r→∀ caps,capsOk caps 0 (r.map Arg.two)→Call P f (canonA caps 0 r) (canonH r) fun v _ => v = .bool true) :
   ∀ (H : Heap) (avs : List Value) (ds : List (DataW K)),Still H→ReadsAll P H ts avs ds→Call P f avs H fun v _ => v = .bool true := fun H avs ds _ hr => by
 obtain ⟨r,h1,h2⟩ := readsAll_args hp hr
 obtain ⟨φ,h3,h4⟩ := roomsAll hp hr
 exact (Call.ofArgsC (C := fun caps => capsOk caps 0 (r.map Arg.two)) h2 (fun caps ρ w ρ1 R he => rooms_ok R (read_two (σ := fun c => c) rfl h2) h3 h4 (by rw [canonA_two]; exact he)) (h r h1) rfl).mono fun v H hv => hv.1
end Go.Pier
namespace Go.Pier.Fl
open Go Go.Pier Go.Proofs
def fyS (r : List Arg) : Option (Prop × Back) := match r with
 | [.ints _ l,.plain (.int .i64 a)] => some ((Coins l∨l = [])∧1≤a∧a≤300,.list (fR l a.toNat))
 | _ => none
noncomputable def isE : VEnv := { ct := Ct.none.add 70 (newG [.ints .i64,.int .i64] fyS) }
noncomputable def isZE (l : List Int) (c : Nat) : VEnv := { ct := Ct.none.add 70 (fzCt l c) }
noncomputable def isB : Code := Try.f72.body.getD .skip
noncomputable def isV0 (l:List Int) := (List.take l.length (List.drop 0 (intsOf (List.map (Value.int IntKind.i64) l))))
noncomputable def isV1  := (Value.int IntKind.i64)
noncomputable def isV :=
fun (l:List Int) (c:Nat) (a m:Int)↦Ob ((List.take l.length (List.drop 0 (List.map isV1 l))=List.map isV1 (isV0 l)∧0+l.length≤(List.map isV1 l).length∧true=true)∧(Coins (isV0 l)∨List.take l.length (List.drop 0 (intsOf (List.map isV1 l)))=[])∧(1:Int)≤a∧a≤(300:Int))∧Ob ((0:Int)≤a∧a<(↑(fR (isV0 l) a.toNat).length:Int)∧true=true)∧Ob (IntAt IntKind.i64 (List.map isV1 (fR (isV0 l) a.toNat)) (0+a.toNat * 1))∧True∧Ob (Value.bool (getI (List.map isV1 (fR (isV0 l) a.toNat)) (0+a.toNat * 1)==m)=Value.bool (fvS l a.toNat==m))
theorem isV_eq : isV = fun (l : List Int) (c : Nat) (a m : Int) => vc Try.prog isE 1 15 true (fun _ => none) isB [] (argFr 0 [.slice (some ⟨0,0,none⟩) l.length c,vi a,vi m]) [ros l] (retK Try.prog Try.f72 (fun v H => v = .bool (fvS l a.toNat == m))) := by kernel_rfl
noncomputable def isW :=
fun (l:List Int) (c:Nat) (m:Int)↦Ob ([AObj.ro (List.map (Value.int IntKind.i64) l)]=[AObj.ro (List.map (Value.int IntKind.i64) l)]∧l.length=l.length∧c=c∧(0:Int)=(0:Int))∧Ob ((0:Int)≤(0:Int)∧(0:Int)<(↑(1:Nat):Int)∧true=true)∧Ob (IntAt IntKind.i64 [vi (0:Int)] (0+0))∧True∧Ob (Value.bool (getI [vi (0:Int)] (0+0)==m)=Value.bool (fvS l 0==m))
theorem isW_eq : isW = fun (l : List Int) (c : Nat) (m : Int) => vc Try.prog (isZE l c) 1 15 true (fun _ => none) isB [] (argFr 0 [.slice (some ⟨0,0,none⟩) l.length c,vi 0,vi m]) [ros l] (retK Try.prog Try.f72 (fun v H => v = .bool (fvS l 0 == m))) := by kernel_rfl
def isS (r : List Arg) : Prop × Value := match r with
 | [.ints _ l,.plain (.int .i64 a),.plain (.int .i64 m)] => ((Coins l∨l = [])∧0≤a∧a≤300,.bool (fvS l a.toNat == m))
 | _ => (False,undef)
noncomputable def rfE : VEnv := { ct := (Ct.none.add 25 (pureG [.ints .i64,.int .i64] fwS)).add 72 (pureG [.ints .i64,.int .i64,.int .i64] isS) }
noncomputable def rfB : Code := Try.f27.body.getD .skip
def rfJ (l : List Int) (c : Nat) (a : Int) (t8 : Value) (H : Heap) (i : Nat) : Nat→Option LInv := invOf 2 (LInv.one Nat (fun n => (n : Int)≤bF l a.toNat i) (fun n => [(0,.slice (some ⟨0,0,none⟩) l.length c),(6,vi (fewF l a - pf (bF l a.toNat) i)),(8,t8),(9,vi (a - dotF l (bF l a.toNat) i)),(10,vi i),(11,vi n)]) (fun _ => H) (fun n => (bF l a.toNat i - n).toNat))
def rfI (l : List Int) (c : Nat) (a : Int) : Nat → Option LInv := invOf 0 (.mk [
     ⟨Unit,fun _ => True,fun _ => [(0,.slice (some ⟨0,0,none⟩) l.length c),(6,vi (fewF l a)),(8,.slice none 0 0),(9,vi a),(10,vi 0)],fun _ => [ros l],fun _ => 20,fun _ => invOf 2 (LInv.one Nat (fun n => (n : Int)≤bF l a.toNat 0) (fun n => [(0,.slice (some ⟨0,0,none⟩) l.length c),(6,vi (fewF l a)),(8,.slice none 0 0),(9,vi a),(10,vi 0),(11,vi n)]) (fun _ => [ros l]) (fun n => (bF l a.toNat 0 - n).toNat))⟩,
     ⟨Nat,fun i => 0 < i∧i≤l.length,fun i => [(0,.slice (some ⟨0,0,none⟩) l.length c),(6,vi (fewF l a - pf (bF l a.toNat) i)),(8,uS 1 i),(9,vi (a - dotF l (bF l a.toNat) i)),(10,vi i)],fun i => [ros l,rws ((bestL l a).take i)],fun i => 12 - i,fun i => rfJ l c a (uS 1 i) [ros l,rws ((bestL l a).take i)] i⟩]
   (fun _ b => b) (fun i _ => [nsub 1 (i + 2)]))
noncomputable def rfV0 (l:List Int) := (List.take l.length (List.drop 0 (intsOf (List.map (Value.int IntKind.i64) l))))
noncomputable def rfV :=
fun (l:List Int) (c:Nat) (a:Int)↦Ob ((List.take l.length (List.drop 0 (List.map (Value.int IntKind.i64) l))=List.map (Value.int IntKind.i64) (rfV0 l)∧0+l.length≤(List.map (Value.int IntKind.i64) l).length∧true=true)∧(rfV0 l).length≤1000000)∧((errN (rfV0 l) a !=(0:Int))=true→True∧Ob (Value.tuple ⟨[Value.slice none 0 0,vi (errN (rfV0 l) a)]⟩=Value.tuple ⟨[Value.slice none 0 0,vi (errN l a)]⟩))∧((errN (rfV0 l) a !=(0:Int))=false→False)
theorem rfV_eq : rfV = fun (l : List Int) (c : Nat) (a : Int) => vc Try.prog rfE 1 63 true (fun _ => none) rfB [] (argFr 0 [.slice (some ⟨0,0,none⟩) l.length c,vi a]) [ros l] (retK Try.prog Try.f27 (fun v H => v = .tuple #[.slice none 0 0,vi (errN l a)])) := by kernel_rfl
noncomputable def rfO0 (l:List Int) := (List.map (Value.int IntKind.i64) l)
noncomputable def rfO1 (l:List Int) (c:Nat) (xqq:Nat) := (List.take (l.length-(IntKind.i64.wrap ((xqq:Int)+(1:Int))).toNat) (List.drop (if c=(IntKind.i64.wrap ((xqq:Int)+(1:Int))).toNat then 0 else 0+(IntKind.i64.wrap ((xqq:Int)+(1:Int))).toNat * 1) (intsOf (rfO0 l))))
noncomputable def rfO2 (l:List Int) (c:Nat):Prop := (Value.slice (some (ad0 0)) l.length c=Value.slice (some (ad0 0)) l.length c)
noncomputable def rfO3 (l:List Int) (a:Int) (x_1:Nat) (xqq:Nat) := (a-dotF l (bF l a.toNat) xqq-IntKind.i64.wrap ((x_1:Int) * getI (rfO0 l) (0+(xqq:Int).toNat * 1)))
noncomputable def rfO4 (l:List Int) (a:Int) (xqq:Nat) := (List.map (Value.int IntKind.i64) (List.take xqq (bestL l a)))
noncomputable def rfO5 (l:List Int) := (List.take l.length (List.drop 0 (intsOf (rfO0 l))))
noncomputable def rfO6  (xqq:Nat) := (IntKind.i64.wrap ((xqq:Int)+(1:Int)))
noncomputable def rfO7 (l:List Int) (c:Nat) := (List.take (l.length-1) (List.drop (if c=1 then 0 else 1) (intsOf (rfO0 l))))
noncomputable def rfO8 (l:List Int) (a:Int) (xq:Nat) := (a-IntKind.i64.wrap ((xq:Int) * getI (rfO0 l) 0))
noncomputable def rfO9 (l:List Int):Array Value := ⟨[Value.slice (some ⟨1,0,some 0⟩) l.length 0,vi (0:Int)]⟩
noncomputable def rfO10  (xqq:Nat):Prop := (Value.slice (some ⟨1,0,some 0⟩) xqq 0=Value.slice (some ⟨1,0,some 0⟩) xqq 0)
noncomputable def rfO11  : Prop := (Value.slice none (0 : Nat) (0 : Nat) = Value.slice none (0 : Nat) (0 : Nat))
noncomputable def rfO12  := (Value.int IntKind.i64)
noncomputable def rfO13 (l:List Int) (c:Nat) (a:Int) (x_1:Nat) (xqq:Nat):Bool := (!fvS (rfO1 l c xqq) (IntKind.i64.wrap (rfO3 l a x_1 xqq)).toNat==IntKind.i64.wrap (fewF l a-pf (bF l a.toNat) xqq-(x_1:Int)))
noncomputable def rfO14 (l:List Int) (c:Nat) (a:Int) (xq:Nat):Bool := (!fvS (rfO7 l c) (IntKind.i64.wrap (rfO8 l a xq)).toNat==IntKind.i64.wrap (fewF l a-(xq:Int)))
noncomputable def rfO :=
fun (l:List Int) (c:Nat) (a:Int)↦Ob ((List.take l.length (List.drop 0 (rfO0 l))=List.map rfO12 (rfO5 l)∧0+l.length≤(rfO0 l).length∧true=true)∧(rfO5 l).length≤1000000)∧((errN (rfO5 l) a !=(0:Int))=true→(Ob (AObj.ro (rfO0 l)=AObj.ro (List.map (nmap1 fun (b:Nat)↦b) (rfO0 l))∧AObj.sc 2 (AObj.ro (rfO0 l))=true)∧False)∧Ob (Value.tuple ⟨[Value.slice none 0 0,vi (errN (rfO5 l) a)]⟩=Value.tuple (rfO9 l))∧True)∧((errN (rfO5 l) a !=(0:Int))=false→((∃ (y:Unit),Ob True∧(Ob (AObj.ro (rfO0 l)=AObj.ro (List.map (nmap1 fun (b:Nat)↦b) (rfO0 l))∧AObj.sc 1 (AObj.ro (rfO0 l))=true)∧True)∧Ob (rfO2 l c)∧Ob (fewF (rfO5 l) a=fewF l a)∧Ob rfO11∧Ob (a=a)∧Ob ((0:Int)=(0:Int))∧True)∨∃ (yq:Nat),Ob (0<yq∧yq≤l.length)∧(Ob (AObj.ro (rfO0 l)=AObj.ro (List.map (nmap1 fun (b:Nat)↦b) (rfO0 l))∧AObj.sc 2 (AObj.ro (rfO0 l))=true)∧False)∧Ob (rfO2 l c)∧Ob (fewF (rfO5 l) a=fewF l a-pf (bF l a.toNat) yq)∧Ob (Value.slice none 0 0=Value.slice (some ⟨1,0,some 0⟩) yq 0)∧Ob (a=a-dotF l (bF l a.toNat) yq)∧Ob ((0:Int)=(yq:Int))∧True)∧(∀ (x:Unit),Ob True→(decide ((0:Int)<(l.length:Int))=true→(∃ (yqq:Nat),Ob ((yqq:Int)≤bF l a.toNat 0)∧(Ob (AObj.ro (rfO0 l)=AObj.ro (List.map (nmap1 fun (b:Nat)↦b) (rfO0 l))∧AObj.sc 1 (AObj.ro (rfO0 l))=true)∧True)∧Ob (rfO2 l c)∧Ob (fewF l a=fewF l a)∧Ob rfO11∧Ob (a=a)∧Ob ((0:Int)=(0:Int))∧Ob ((0:Int)=(yqq:Int))∧True)∧∀ (xq:Nat),Ob ((xq:Int)≤bF l a.toNat 0)→Ob (l.length≤c∧(0:Int)≤IntKind.i64.wrap ((0:Int)+(1:Int))∧IntKind.i64.wrap ((0:Int)+(1:Int))≤(l.length:Int))∧Ob ((0:Int)≤(0:Int)∧(0:Int)<(l.length:Int)∧true=true)∧Ob (IntAt IntKind.i64 (rfO0 l) 0)∧Ob ((List.take (l.length-1) (List.drop (if c=1 then 0 else 1) (rfO0 l))=List.map rfO12 (rfO7 l c)∧(if c=1 then 0 else 1)+(l.length-1)≤(rfO0 l).length∧true=true)∧(Coins (rfO7 l c)∨List.take (l.length-1) (List.drop (if c=1 then 0 else 1) (intsOf (rfO0 l)))=[])∧(0:Int)≤IntKind.i64.wrap (rfO8 l a xq)∧IntKind.i64.wrap (rfO8 l a xq)≤(300:Int))∧((rfO14 l c a xq)=true→∃ (yqqq:Nat),Ob ((yqqq:Int)≤bF l a.toNat 0)∧Ob ((bF l a.toNat 0-(yqqq:Int)).toNat<(bF l a.toNat 0-(xq:Int)).toNat)∧(Ob (AObj.ro (rfO0 l)=AObj.ro (List.map (nmap1 fun (b:Nat)↦b) (rfO0 l))∧AObj.sc 1 (AObj.ro (rfO0 l))=true)∧True)∧Ob (rfO2 l c)∧Ob (fewF l a=fewF l a)∧Ob rfO11∧Ob (a=a)∧Ob ((0:Int)=(0:Int))∧Ob (IntKind.i64.wrap ((xq:Int)+(1:Int))=(yqqq:Int))∧True)∧((rfO14 l c a xq)=false→Ob (andP (some (0+1≤1∧true=true)) (1≤1099511627776∧2064≤281474976710656∧1=1∧0=0∧0<1))∧Ob ((0:Int)≤(0:Int)∧(0:Int)<(l.length:Int)∧true=true)∧Ob (IntAt IntKind.i64 (rfO0 l) 0)∧((∃ (y:Unit),Ob True∧Ob (20<20)∧(Ob (AObj.ro (rfO0 l)=AObj.ro (List.map (nmap1 (nsub 1 2)) (rfO0 l))∧AObj.sc 1 (AObj.ro (rfO0 l))=true)∧True)∧Ob (rfO2 l c)∧Ob (IntKind.i64.wrap (fewF l a-(xq:Int))=fewF l a)∧Ob (Value.slice (some ⟨2,0,some 0⟩) 1 0=Value.slice none 0 0)∧Ob (IntKind.i64.wrap (rfO8 l a xq)=a)∧Ob (IntKind.i64.wrap ((0:Int)+(1:Int))=(0:Int))∧True)∨∃ (yqqqq:Nat),Ob (0<yqqqq∧yqqqq≤l.length)∧Ob (12-yqqqq<20)∧(Ob (AObj.ro (rfO0 l)=AObj.ro (List.map (nmap1 (nsub 1 2)) (rfO0 l))∧AObj.sc 2 (AObj.ro (rfO0 l))=true)∧Ob (AObj.rw [vi (xq:Int)] (some 1)=AObj.rw (List.map (nmap1 (nsub 1 2)) (List.map rfO12 (List.take yqqqq (bestL l a)))) (some 1)∧AObj.sc 2 (AObj.rw (List.map rfO12 (List.take yqqqq (bestL l a))) (some 1))=true)∧True)∧Ob (rfO2 l c)∧Ob (IntKind.i64.wrap (fewF l a-(xq:Int))=fewF l a-pf (bF l a.toNat) yqqqq)∧Ob (Value.slice (some ⟨2,0,some 0⟩) 1 0=Value.slice (some ⟨2,0,some 0⟩) yqqqq 0)∧Ob (IntKind.i64.wrap (rfO8 l a xq)=a-dotF l (bF l a.toNat) yqqqq)∧Ob (IntKind.i64.wrap ((0:Int)+(1:Int))=(yqqqq:Int))∧True)))∧(decide ((0:Int)<(l.length:Int))=false→(Ob (AObj.ro (rfO0 l)=AObj.ro (List.map (nmap1 fun (b:Nat)↦b) (rfO0 l))∧AObj.sc 2 (AObj.ro (rfO0 l))=true)∧False)∧Ob (Value.tuple ⟨[Value.slice none 0 0,vi (0:Int)]⟩=Value.tuple (rfO9 l))∧True))∧∀ (xqq:Nat),Ob (0<xqq∧xqq≤l.length)→(decide ((xqq:Int)<(l.length:Int))=true→(∃ (yqqqqq:Nat),Ob ((yqqqqq:Int)≤bF l a.toNat xqq)∧(Ob (AObj.ro (rfO0 l)=AObj.ro (List.map (nmap1 fun (b:Nat)↦b) (rfO0 l))∧AObj.sc 2 (AObj.ro (rfO0 l))=true)∧Ob (AObj.rw (rfO4 l a xqq) (some 1)=AObj.rw (List.map (nmap1 fun (b:Nat)↦b) (rfO4 l a xqq)) (some 1)∧AObj.sc 2 (AObj.rw (rfO4 l a xqq) (some 1))=true)∧True)∧Ob (rfO2 l c)∧Ob (fewF l a-pf (bF l a.toNat) xqq=fewF l a-pf (bF l a.toNat) xqq)∧Ob (rfO10 xqq)∧Ob (a-dotF l (bF l a.toNat) xqq=a-dotF l (bF l a.toNat) xqq)∧Ob ((xqq:Int)=(xqq:Int))∧Ob ((0:Int)=(yqqqqq:Int))∧True)∧∀ (x_1:Nat),Ob ((x_1:Int)≤bF l a.toNat xqq)→Ob (l.length≤c∧(0:Int)≤IntKind.i64.wrap ((xqq:Int)+(1:Int))∧IntKind.i64.wrap ((xqq:Int)+(1:Int))≤(l.length:Int))∧Ob ((0:Int)≤(xqq:Int)∧(xqq:Int)<(l.length:Int)∧true=true)∧Ob (IntAt IntKind.i64 (rfO0 l) (0+(xqq:Int).toNat * 1))∧Ob ((List.take (l.length-(rfO6 xqq).toNat) (List.drop (if c=(rfO6 xqq).toNat then 0 else 0+(rfO6 xqq).toNat * 1) (rfO0 l))=List.map rfO12 (rfO1 l c xqq)∧(if c=(rfO6 xqq).toNat then 0 else 0+(rfO6 xqq).toNat * 1)+(l.length-(rfO6 xqq).toNat)≤(rfO0 l).length∧true=true)∧(Coins (rfO1 l c xqq)∨List.take (l.length-(rfO6 xqq).toNat) (List.drop (if c=(rfO6 xqq).toNat then 0 else 0+(rfO6 xqq).toNat * 1) (intsOf (rfO0 l)))=[])∧(0:Int)≤IntKind.i64.wrap (rfO3 l a x_1 xqq)∧IntKind.i64.wrap (rfO3 l a x_1 xqq)≤(300:Int))∧((rfO13 l c a x_1 xqq)=true→∃ (yqqqqqq:Nat),Ob ((yqqqqqq:Int)≤bF l a.toNat xqq)∧Ob ((bF l a.toNat xqq-(yqqqqqq:Int)).toNat<(bF l a.toNat xqq-(x_1:Int)).toNat)∧(Ob (AObj.ro (rfO0 l)=AObj.ro (List.map (nmap1 fun (b:Nat)↦b) (rfO0 l))∧AObj.sc 2 (AObj.ro (rfO0 l))=true)∧Ob (AObj.rw (rfO4 l a xqq) (some 1)=AObj.rw (List.map (nmap1 fun (b:Nat)↦b) (rfO4 l a xqq)) (some 1)∧AObj.sc 2 (AObj.rw (rfO4 l a xqq) (some 1))=true)∧True)∧Ob (rfO2 l c)∧Ob (fewF l a-pf (bF l a.toNat) xqq=fewF l a-pf (bF l a.toNat) xqq)∧Ob (rfO10 xqq)∧Ob (a-dotF l (bF l a.toNat) xqq=a-dotF l (bF l a.toNat) xqq)∧Ob ((xqq:Int)=(xqq:Int))∧Ob (IntKind.i64.wrap ((x_1:Int)+(1:Int))=(yqqqqqq:Int))∧True)∧((rfO13 l c a x_1 xqq)=false→Ob (andP (some (0+1≤1∧true=true)) (xqq+1≤1099511627776∧(2 * (xqq+1)+256) * 8≤281474976710656∧1=1∧(rfO4 l a xqq).length=xqq * 1))∧Ob ((0:Int)≤(xqq:Int)∧(xqq:Int)<(l.length:Int)∧true=true)∧Ob (IntAt IntKind.i64 (rfO0 l) (0+(xqq:Int).toNat * 1))∧((∃ (y:Unit),Ob True∧Ob (20<12-xqq)∧(Ob (AObj.ro (rfO0 l)=AObj.ro (List.map (nmap1 (nsub 1 3)) (rfO0 l))∧AObj.sc 1 (AObj.ro (rfO0 l))=true)∧True)∧Ob (rfO2 l c)∧Ob (IntKind.i64.wrap (fewF l a-pf (bF l a.toNat) xqq-(x_1:Int))=fewF l a)∧Ob (Value.slice (some ⟨3,0,some 0⟩) (xqq+1) 0=Value.slice none 0 0)∧Ob (IntKind.i64.wrap (rfO3 l a x_1 xqq)=a)∧Ob (IntKind.i64.wrap ((xqq:Int)+(1:Int))=(0:Int))∧True)∨∃ (yqqqqqqq:Nat),Ob (0<yqqqqqqq∧yqqqqqqq≤l.length)∧Ob (12-yqqqqqqq<12-xqq)∧(Ob (AObj.ro (rfO0 l)=AObj.ro (List.map (nmap1 (nsub 1 3)) (rfO0 l))∧AObj.sc 2 (AObj.ro (rfO0 l))=true)∧Ob (AObj.rw (List.map rfO12 (List.take xqq (bestL l a))++[vi (x_1:Int)]) (some 1)=AObj.rw (List.map (nmap1 (nsub 1 3)) (List.map rfO12 (List.take yqqqqqqq (bestL l a)))) (some 1)∧AObj.sc 2 (AObj.rw (List.map rfO12 (List.take yqqqqqqq (bestL l a))) (some 1))=true)∧True)∧Ob (rfO2 l c)∧Ob (IntKind.i64.wrap (fewF l a-pf (bF l a.toNat) xqq-(x_1:Int))=fewF l a-pf (bF l a.toNat) yqqqqqqq)∧Ob (Value.slice (some ⟨3,0,some 0⟩) (xqq+1) 0=Value.slice (some ⟨3,0,some 0⟩) yqqqqqqq 0)∧Ob (IntKind.i64.wrap (rfO3 l a x_1 xqq)=a-dotF l (bF l a.toNat) yqqqqqqq)∧Ob (IntKind.i64.wrap ((xqq:Int)+(1:Int))=(yqqqqqqq:Int))∧True)))∧(decide ((xqq:Int)<(l.length:Int))=false→(Ob (AObj.ro (rfO0 l)=AObj.ro (List.map (nmap1 fun (b:Nat)↦b) (rfO0 l))∧AObj.sc 2 (AObj.ro (rfO0 l))=true)∧Ob (AObj.rw (rfO4 l a xqq) (some 1)=AObj.rw (List.map (nmap1 fun (b:Nat)↦b) (List.map rfO12 (bestL l a))) (some 1)∧AObj.sc 2 (AObj.rw (List.map rfO12 (bestL l a)) (some 1))=true)∧True)∧Ob (Value.tuple ⟨[Value.slice (some ⟨1,0,some 0⟩) xqq 0,vi (0:Int)]⟩=Value.tuple (rfO9 l))∧True))
noncomputable def rfN0  : Array Value := { toList := [Value.slice none (0 : Nat) (0 : Nat),vi (6 : Int)] }
noncomputable def rfN :=
fun (a:Int)↦Ob True∧(true=true→True∧Ob (Value.tuple rfN0=Value.tuple rfN0))∧(true=false→False)
theorem rfN_eq : rfN = fun (a : Int) => vc Try.prog rfE 0 63 true (fun _ => none) rfB [] (argFr 0 [.slice none 0 0,vi a]) [] (retK Try.prog Try.f27 (fun v H => v = .tuple #[.slice none 0 0,vi 6])) := by kernel_rfl
noncomputable def rfH0  : Array Value := { toList := [Value.slice none (0 : Nat) (0 : Nat),vi (6 : Int)] }
noncomputable def rfH :=
fun (s:Option Nat) (c:Nat) (a:Int)↦Ob True∧(true=true→True∧Ob (Value.tuple rfH0=Value.tuple rfH0))∧(true=false→False)
theorem rfH_eq : rfH = fun (s : Option Nat) (c : Nat) (a : Int) => vc Try.prog rfE 1 63 true (fun _ => none) rfB [] (argFr 0 [.slice (some ⟨0,0,s⟩) 0 c,vi a]) [.gone] (retK Try.prog Try.f27 (fun v H => v = .tuple #[.slice none 0 0,vi 6])) := by kernel_rfl
theorem foE_ok (l : List Int) (c am : Nat) (h0 : l.length = 0) (ha : 1≤am) (ha2 : am≤300) : foV l c am := by
 unfold foV
 simp only [SS,reduceCtorEq,Arg.list,Arg.num,Arg.flag,intOf,andP,Nat.reduceLeDiff,Nat.reduceAdd,Nat.reduceMul,Nat.reduceLT,nm_sl,uS]
 refine ⟨⟨fun _ => ⟨⟨0,by omega,rfl,rfl,rfl⟩,fun x hx => ⟨fun h => by omega,fun h => ⟨2,by omega,by omega,?_,rfl,by rw [wrap_in (by omega) (by omega)]; rfl⟩⟩⟩,fun h => h (by omega)⟩,fun x hx => ⟨fun h5 => ⟨⟨0,by omega,rfl,rfl⟩,fun i hi => ⟨fun h => by omega,fun h => ⟨by rw [fR_len]; omega,x + 1,by omega,by omega,?_,rfl,wrap_succ (n := 9999) (by omega) (by omega)⟩⟩⟩,fun h5 => ⟨by rw [show x - 1 = am by omega],by omega⟩⟩⟩
 · rw [show x = l.length by omega]; rfl
 · obtain ⟨a,rfl⟩ : ∃ a,x = a + 1 := ⟨x - 1,by omega⟩
   simp only [Nat.add_sub_cancel]
   rw [show i = l.length by omega]; rfl
theorem foe_call (c am : Nat) (ha : 1≤am) (ha2 : am≤300) : Call Try.prog 70 [.slice (some ⟨0,0,none⟩) 0 c,vi am] [ros []] fun v H' => v = uS 1 (am + 1)∧H' = [ros []] ++ [rws (fR [] am)] :=
 Call.ofVcR (E := {}) (H := [ros []]) (args := [.slice (some ⟨0,0,none⟩) 0 c,vi am]) (σ := nsub 1 1) (v2 := uS 1 (am + 1)) (H2 := [ros [],rws (fR [] am)]) E0_ok mixed (c := foB) (inv := foI [] c am) Try.func70 (by kernel_rfl) (cast (congrFun (congrFun (congrFun foV_eq []) c) am) (foE_ok [] c am rfl ha ha2))
theorem fyG_ok : ∀ args H φ v H' l,newG [.ints .i64,.int .i64] fyS args H = some (φ,v,H',l)→Asks φ→Call Try.prog 70 args H (fun v' H2 => v' = v∧H2 = H')∧Kept H H' l :=
 newG_ok fun r ψ b hk hs hψ => match r,hk with
   | [_,_],⟨hl,⟨a,ha⟩,_⟩ => by
     subst ha
     rcases hl with rfl | ⟨s,rfl⟩ | ⟨l,rfl⟩
     · cases hs
     · cases hs
     · cases hs
       obtain ⟨hc,h1,h2⟩ := hψ
       obtain ⟨A,rfl⟩ := Int.eq_ofNat_of_zero_le (show 0≤a by omega)
       refine ⟨rfl,fun caps => ?_⟩
       have h' : Call Try.prog 70 [.slice (some ⟨0,0,none⟩) l.length (caps 0),vi (A : Int)] [ros l] fun v H' => v = newSlice 1 (fR l A).length∧H' = [ros l] ++ [.rw ((fR l A).map (.int .i64)) (some 1)] := by
         rw [fR_len]
         rcases hc with hc | rfl
         · exact fo_call l (caps 0) A hc (by omega) (by omega)
         · exact foe_call (caps 0) A (by omega) (by omega)
       exact h'
theorem isV_ok (l : List Int) (c : Nat) (a m : Int) (hc : Coins l∨l = []) (ha : 1≤a∧a≤300) : isV l c a m := by
 unfold isV isV1 isV0
 simp only [SS,reduceCtorEq,Arg.list,Arg.num,Arg.flag,intOf,andP,Nat.reduceLeDiff,Nat.reduceAdd,Nat.reduceMul,Nat.reduceLT]
 have hL := fR_len (l := l) a.toNat
 exact ⟨⟨hc,ha⟩,⟨by omega,by omega⟩,by omega,rfl⟩
theorem isW_ok (l : List Int) (c : Nat) (m : Int) : isW l c m := by
 unfold isW
 simp only [SS,reduceCtorEq,Arg.list,Arg.num,Arg.flag,intOf,andP,Nat.reduceLeDiff,Nat.reduceAdd,Nat.reduceMul,Nat.reduceLT]
 exact ⟨by omega,rfl,rfl⟩
theorem isE_ok : VOk Try.prog isE := VOk.ofCt (CtOk.none.add fyG_ok)
theorem isZE_ok {l : List Int} {c : Nat} : VOk Try.prog (isZE l c) := VOk.ofCt (CtOk.none.add fzCt_ok)
theorem isG_ok : ∀ args H φ v H' l,pureG [.ints .i64,.int .i64,.int .i64] isS args H = some (φ,v,H',l)→Asks φ→Call Try.prog 72 args H (fun v' H2 => v' = v∧H2 = H')∧Kept H H' l :=
 pureG_ok fun r hk hs => match r,hk with
   | [_,_,_],⟨hl,⟨a,ha⟩,⟨m,hm⟩,_⟩ => by
     subst ha; subst hm
     rcases hl with rfl | ⟨s,rfl⟩ | ⟨l,rfl⟩
     · exact hs.elim
     · exact hs.elim
     · refine ⟨rfl,fun caps => ?_⟩
       by_cases e : a = 0
       · subst e
         exact Call.ofVc isZE_ok mixed (c := isB) (inv := fun _ => none) Try.func72 (by kernel_rfl) (cast (congrFun (congrFun (congrFun isW_eq l) (caps 0)) m) (isW_ok l _ m))
       · exact Call.ofVc isE_ok mixed (c := isB) (inv := fun _ => none) Try.func72 (by kernel_rfl) (cast (congrFun (congrFun (congrFun (congrFun isV_eq l) (caps 0)) a) m) (isV_ok l _ a m hs.1 (by have := hs.2; omega)))
theorem rfV_ok (l : List Int) (c : Nat) (a : Int) (hl : l.length≤1000000) (hn : errN l a ≠ 0) : rfV l c a := by
 unfold rfV rfV0
 simp only [SS,reduceCtorEq,Arg.list,Arg.num,Arg.flag,intOf,andP,Nat.reduceLeDiff,Nat.reduceAdd,Nat.reduceMul,Nat.reduceLT]
 exact ⟨hl,fun h => hn h⟩
theorem rfN_ok (a : Int) : rfN a := by
 unfold rfN rfN0
 simp only [SS,reduceCtorEq,Arg.list,Arg.num,Arg.flag,intOf,andP,Nat.reduceLeDiff,Nat.reduceAdd,Nat.reduceMul,Nat.reduceLT]
theorem rfH_ok (s : Option Nat) (c : Nat) (a : Int) : rfH s c a := by
 unfold rfH rfH0
 simp only [SS,reduceCtorEq,Arg.list,Arg.num,Arg.flag,intOf,andP,Nat.reduceLeDiff,Nat.reduceAdd,Nat.reduceMul,Nat.reduceLT]
theorem suf_take {l : List Int} {c i : Nat} (hcap : l.length≤c) : List.take (l.length - (i + 1)) (List.drop (if c = i + 1 then 0 else i + 1) l) = l.drop (i + 1) := by
 by_cases e : c = i + 1
 · rw [if_pos e,show l.length - (i + 1) = 0 by omega,List.take_zero,List.drop_of_length_le (by omega)]
 · rw [if_neg e,List.take_of_length_le (by rw [List.length_drop]; omega)]
theorem suf_map {l : List Int} {c i : Nat} : List.take (l.length - (i + 1)) (List.drop (if c = i + 1 then 0 else i + 1) (List.map (Value.int .i64) l)) = List.map (Value.int .i64) (List.take (l.length - (i + 1)) (List.drop (if c = i + 1 then 0 else i + 1) l)) := by rw [List.map_take,List.map_drop]
theorem suf_le {l : List Int} {c i : Nat} (hcap : l.length≤c) (hi : i < l.length) : (if c = i + 1 then 0 else i + 1) + (l.length - (i + 1))≤l.length := by split <;> omega
theorem suf_ok {l : List Int} (hc : Coins l) {i : Nat} : Coins (l.drop (i + 1))∨l.drop (i + 1) = [] := by
 by_cases e : i + 1 < l.length
 · exact .inl (coins_drop hc e)
 · exact .inr (List.drop_of_length_le (by omega))
theorem best_snoc {l : List Int} {a : Int} {i : Nat} (h5 : l.length≤5) (hi : i < l.length) : (bestL l a).take (i + 1) = (bestL l a).take i ++ [bF l a.toNat i] := by
 have hl := best_len (a := a) h5
 have e : (bestL l a).getD i 0 = bF l a.toNat i := gt_best hi h5
 rw [List.take_succ_eq_append_getElem (by omega),← e,List.getD_eq_getElem?_getD,List.getElem?_eq_getElem (by omega)]; rfl
theorem rfO_ok (l : List Int) (c : Nat) (a : Int) (hcap : l.length≤c) (hn : errN l a = 0) : rfO l c a := by
 unfold rfO rfO14 rfO13 rfO12 rfO11 rfO10 rfO9 rfO8 rfO7 rfO6 rfO5 rfO4 rfO3 rfO2 rfO1 rfO0
 simp only [SS,reduceCtorEq,Arg.list,Arg.num,Arg.flag,intOf,andP,Nat.reduceLeDiff,Nat.reduceAdd,Nat.reduceMul,Nat.reduceLT,uS]
 have h0 : errA l a = 0 := by
   by_cases h : errA l a = 0
   · exact h
   · rw [errN_a h] at hn; exact absurd hn h
 obtain ⟨he,hr⟩ := errA_0.1 h0
 have hc := errC_ok.1 he
 have hf := hc.few
 have hp := hc.pos
 obtain ⟨A,rfl⟩ := Int.eq_ofNat_of_zero_le hr.1
 obtain ⟨hcan,_,_,_,f1,f2⟩ := best_fact hc hr hn
 have hcan : canB l A = true := hcan
 have eA : ((A : Int)).toNat = A := rfl
 rw [eA]
 have fe : fewF l (A : Int) = m5 (bF l A) := fewF_ok hn
 obtain ⟨p,q⟩ := ((best_is hc A (by omega)).1 hcan).1
 have bd : ∀ k,k < l.length→0≤bF l A k∧bF l A k≤300 := fun k hk => by
   have := bF_bd hc (a := A) (by omega) (k := k) (by omega)
   omega
 have pfr : ∀ i : Nat,i≤l.length→0≤pf (bF l A) i∧pf (bF l A) i≤300 * i := by
   intro i
   induction i with
   | zero => intro _; simp [pf]
   | succ i ih => intro hi; have := ih (by omega); have := bd i (by omega); rw [pf]; push_cast; omega
 have K : ∀ i : Nat,i < l.length→∀ n : Nat,(n : Int)≤bF l A i→IntKind.i64.wrap ((n : Int) * l.getD i 0) = (n : Int) * l.getD i 0∧IntKind.i64.wrap ((A : Int) - dotF l (bF l A) i - (n : Int) * l.getD i 0) = (A : Int) - dotF l (bF l A) i - (n : Int) * l.getD i 0∧(0≤(A : Int) - dotF l (bF l A) i - (n : Int) * l.getD i 0∧(A : Int) - dotF l (bF l A) i - (n : Int) * l.getD i 0≤300)∧IntKind.i64.wrap (fewF l (A : Int) - pf (bF l A) i - (n : Int)) = fewF l (A : Int) - pf (bF l A) i - n∧(fvS (l.drop (i + 1)) ((A : Int) - dotF l (bF l A) i - (n : Int) * l.getD i 0).toNat = fewF l (A : Int) - pf (bF l A) i - n ↔ (n : Int) = bF l A i) := by
   intro i hi n hn2
   have ci := coin_rng hc hi
   have b := bd i hi
   have pr := pfr i (by omega)
   have hlen : (i : Int)≤5 := by omega
   obtain ⟨k1,k2⟩ := is_best hc (by omega) hcan hi (n := (n : Int)) (by omega) hn2
   have m1 : 0≤(n : Int) * l.getD i 0 := Int.mul_nonneg (by omega) (by omega)
   have m2 : (n : Int) * l.getD i 0≤300 * 50 := Int.mul_le_mul (by omega) ci.2 (by omega) (by omega)
   have D0 := dot_nonneg (l := l) (y := bF l A) i fun k hk => ⟨by have := coin_rng hc (j := k) (by omega); omega,p k (by omega)⟩
   rw [fe]
   exact ⟨wrap_in (by omega) (by omega),wrap_in (by omega) (by omega),⟨k1,by omega⟩,wrap_in (by omega) (by omega),k2⟩
 have ws : ∀ n : Nat,(n : Int)≤300→IntKind.i64.wrap ((n : Int) + 1) = ((n + 1 : Nat) : Int) := fun n hn2 => wrap_succ (n := 1000) (by omega) (by omega)
 have w1 : IntKind.i64.wrap (0 + 1) = 1 := rfl
 refine ⟨by omega,fun h => h hn,fun _ => ⟨⟨fun _ => ⟨⟨0,(bd 0 hp).1,rfl⟩,fun x hx => ?_⟩,fun h => by omega⟩,fun i hi => ⟨fun hil => ⟨⟨0,(bd i (by omega)).1,rfl⟩,fun x hx => ?_⟩,fun hil => ?_⟩⟩⟩
 · obtain ⟨k1,k2,k3,k4,k5⟩ := K 0 hp x hx
   have d0 : dotF l (bF l A) 0 = 0 := rfl
   have p0 : pf (bF l A) 0 = 0 := rfl
   rw [d0,Int.sub_zero] at k2 k3 k5
   rw [p0,Int.sub_zero] at k4 k5
   have b := bd 0 hp
   have s1 := suf_take (l := l) (i := 0) hcap
   have s2 := suf_map (l := l) (c := c) (i := 0)
   have s3 := suf_le (i := 0) hcap hp
   rw [Nat.zero_add] at s1 s2 s3 k5
   rw [s1] at s2 ⊢
   rw [k1,k2,k4,w1]
   refine ⟨⟨hcap,by omega,by omega⟩,⟨by omega,by omega⟩,hp,⟨⟨s2,s3⟩,suf_ok hc (i := 0),k3⟩,fun h => ⟨x + 1,?_,by push_cast; omega,ws x (by omega)⟩,fun h => ⟨⟨by omega,by omega⟩,hp,1,⟨by omega,by omega⟩,by omega,?_,?_,rfl,?_,rfl⟩⟩
   · have : (x : Int) ≠ bF l A 0 := fun e => h (k5.2 e)
     push_cast; omega
   · have e := k5.1 h
     have sn := best_snoc (l := l) (a := (A : Int)) (i := 0) hf hp
     rw [Nat.zero_add,List.take_zero,List.nil_append,eA] at sn
     rw [sn,e]; rfl
   · have e := k5.1 h
     show _ = _ - (0 + bF l A 0)
     omega
   · have e := k5.1 h
     show _ = _ - (0 + l.getD 0 0 * bF l A 0)
     rw [e,Int.mul_comm (bF l A 0)]; omega
 · have hil : i < l.length := by omega
   obtain ⟨k1,k2,k3,k4,k5⟩ := K i hil x hx
   have b := bd i hil
   have wi : IntKind.i64.wrap ((i : Int) + 1) = ((i + 1 : Nat) : Int) := ws i (by omega)
   have bl := best_len (a := (A : Int)) hf
   have s1 := suf_take (l := l) (i := i) hcap
   have s2 := suf_map (l := l) (c := c) (i := i)
   have s3 := suf_le (i := i) hcap hil
   simp only [wi,Int.toNat_natCast]
   rw [s1] at s2 ⊢
   rw [k1,k2,k4]
   refine ⟨⟨hcap,by omega,by omega⟩,⟨by omega,by omega⟩,hil,⟨⟨s2,s3⟩,suf_ok hc,k3⟩,fun h => ⟨x + 1,?_,by push_cast; omega,ws x (by omega)⟩,fun h => ⟨⟨by omega,by omega,by rw [List.length_take]; omega⟩,⟨by omega,by omega⟩,hil,i + 1,⟨by omega,by omega⟩,by omega,?_,?_,rfl,?_,rfl⟩⟩
   · have : (x : Int) ≠ bF l A i := fun e => h (k5.2 e)
     push_cast; omega
   · rw [best_snoc hf hil,k5.1 h]; rfl
   · have e := k5.1 h
     rw [pf]; omega
   · have e := k5.1 h
     rw [dotF,e,Int.mul_comm (bF l A i)]; omega
 · obtain rfl : i = l.length := by omega
   rw [List.take_of_length_le (by rw [best_len hf]; omega)]
   exact ⟨rfl,rfl⟩
theorem rfE_ok : VOk Try.prog rfE := VOk.ofCt ((CtOk.none.add rwG_ok).add isG_ok)
theorem rfEG_ok : ∀ args H φ v H' l,pureG [.ints .i64,.int .i64] xgES args H = some (φ,v,H',l)→Asks φ→Call Try.prog 27 args H (fun v' H2 => v' = v∧H2 = H')∧Kept H H' l :=
 pureG_ok fun r hk hs => match r,hk with
   | [_,_],⟨hl,⟨a,ha⟩,_⟩ => by
     subst ha
     rcases hl with rfl | ⟨s,rfl⟩ | ⟨l,rfl⟩
     · exact ⟨by simp [xgES,sc,sc2,sc1,sc0],fun caps => Call.ofVc rfE_ok mixed (c := rfB) (inv := fun _ => none) Try.func27 (by kernel_rfl) (cast (congrFun rfN_eq a) (rfN_ok a))⟩
     · exact ⟨by simp [xgES,sc,sc2,sc1,sc0],fun caps => Call.ofVc rfE_ok mixed (c := rfB) (inv := fun _ => none) Try.func27 (by kernel_rfl) (cast (congrFun (congrFun (congrFun rfH_eq s) (caps 0)) a) (rfH_ok s _ a))⟩
     · exact ⟨by simp [xgES,sc,sc2,sc1,sc0],fun caps => Call.ofVc rfE_ok mixed (c := rfB) (inv := fun _ => none) Try.func27 (by kernel_rfl) (cast (congrFun (congrFun (congrFun rfV_eq l) (caps 0)) a) (rfV_ok l _ a hs.1 hs.2))⟩
theorem good_lt {p : Prop} {k : Nat} {u : Int} {l : List Int} : Fresh.Good ⟨p,fun b => .tuple #[newSlice b k,vi u],fun _ => [.rw (l.map (.int .i64)) (some 1)]⟩ where
 val e n := by simp [newSlice,nmap,nmap2,nmap1,nmap0,am]
 new e n := by rw [List.map_singleton,omap_ints]
 ro n := fun o ho => by rw [List.mem_singleton.1 ho]; rfl
 nmv n := by simp [newSlice,nm,nm2,nm1,nm0]
 nmn n := fun o ho => by rw [List.mem_singleton.1 ho]; exact nm_ints
 scv n := by simp [newSlice,sc,sc2,sc1,sc0]
 scn n := fun o ho => by rw [List.mem_singleton.1 ho]; exact sc_ints
def rfOS (r : List Arg) : Option Fresh := match r with
 | [.ints _ l,.plain (.int .i64 a)] => some ⟨errN l a = 0,fun b => .tuple #[newSlice b l.length,vi 0],fun _ => [.rw ((bestL l a).map (.int .i64)) (some 1)]⟩
 | _ => none
theorem rfOG_ok : ∀ args H φ v H' l,freshC [.ints .i64,.int .i64] rfOS args H = some (φ,v,H',l)→Asks φ→Call Try.prog 27 args H (fun v' H2 => v' = v∧H2 = H')∧Kept H H' l :=
 freshC_ok fun r s hk hs hψ => match r,hk with
   | [_,_],⟨hl,⟨a,ha⟩,_⟩ => by
     subst ha
     rcases hl with rfl | ⟨s,rfl⟩ | ⟨l,rfl⟩
     · cases hs
     · cases hs
     · cases hs
       exact ⟨good_lt,fun caps hcp => Call.ofVcR (E := rfE) (H := [ros l]) (args := [.slice (some ⟨0,0,none⟩) l.length (caps 0),vi a]) (σ := fun b => b) (v2 := .tuple #[newSlice 1 l.length,vi 0]) (H2 := [ros l,.rw ((bestL l a).map (.int .i64)) (some 1)]) rfE_ok mixed (c := rfB) (inv := rfI l (caps 0) a) Try.func27 (by kernel_rfl) (cast (by kernel_rfl) (rfO_ok l (caps 0) a hcp.1 hψ))⟩
end Go.Pier.Fl
