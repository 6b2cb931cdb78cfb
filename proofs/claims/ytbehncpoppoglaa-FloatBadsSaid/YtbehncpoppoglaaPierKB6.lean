import Derived.Test.YtbehncpoppoglaaPierKB4
import Derived.Test.YtbehncpoppoglaaPierFlwk
import Derived.KernelRfl
import Derived.Test.YtbehncpoppoglaaPierKB5
set_option linter.unusedSimpArgs false
set_option linter.unusedVariables false
set_option maxRecDepth 100000
namespace Go.Pier.Fl
open Go Go.Pier Go.Proofs
def worksS (r : List Arg) : Prop × Value := match r with | [] => (True,.bool true) | _ => (False,undef)
def isTrue (v : Value) (_ : Heap) : Prop := v = .bool true
theorem few_val {l : List Int} (hc : Coins l) {a : Int} (ha : 0≤a∧a≤300) : fewF l a = if canB l a.toNat = true then m5 (bF l a.toNat) else 0 := by
 have h0 : errA l a = 0 := errA_0.2 ⟨errC_ok.2 hc,ha⟩
 cases hx : canB l a.toNat with
 | true => rw [if_pos rfl,fewF_ok (errN_0 h0 hx)]
 | false => rw [if_neg Bool.false_ne_true,fewF_no (by rw [errN_5 h0 hx]; decide)]
theorem few_bd {l : List Int} (hc : Coins l) {a : Int} (ha : 0≤a∧a≤300) : 0≤fewF l a∧fewF l a≤300 := by
 have h0 : errA l a = 0 := errA_0.2 ⟨errC_ok.2 hc,ha⟩
 cases hx : canB l a.toNat with
 | true => exact (best_fact hc ha (errN_0 h0 hx)).2.2.2.2
 | false => rw [fewF_no (by rw [errN_5 h0 hx]; decide)]; omega
theorem worksG_ok : ∀ args H φ v H' l,pureG [] worksS args H = some (φ,v,H',l)→Asks φ→Call Try.prog 19 args H (fun v' H2 => v' = v∧H2 = H')∧Kept H H' l :=
 closedG_ok (works_ok.call.mono fun v H h => h.1) rfl
end Go.Pier.Fl
namespace Go.Pier.Fl
open Go Go.Pier Go.Proofs
theorem add_coin {l : List Int} (hc : Coins l) {k : Nat} (hk : k < l.length) {y : Nat} (hy : y + (l.getD k 0).toNat≤9999) (h : canB l y = true) : canB l (y + (l.getD k 0).toNat) = true := by
 have hr := coin_rng hc hk
 obtain ⟨p,q⟩ := ((best_is hc y (by omega)).1 h).1
 refine ((best_is hc _ hy).2 (up (bF l y) k 1) ⟨fun j hj => ?_,?_⟩).1
 · have := p j hj
   unfold up
   split <;> omega
 · rw [dot_up,q,if_pos hk]; omega
theorem sub_coin {l : List Int} (hc : Coins l) {x : Nat} (hx : 0 < x) (hx9 : x≤9999) (h : canB l x = true) : ∃ k,k < l.length∧(l.getD k 0).toNat≤x∧canB l (x - (l.getD k 0).toNat) = true := by
 obtain ⟨p,q⟩ := ((best_is hc x hx9).1 h).1
 obtain ⟨k,hk,hp⟩ := dot_pos (l := l) l.length (fun j hj => ⟨by have := coin_rng hc hj; omega,p j hj⟩) (by rw [q]; omega)
 have hr := coin_rng hc hk
 have hz : isCh l (x - l.getD k 0) (up (bF l x) k (-1)) := ⟨fun j hj => by
   have := p j hj
   unfold up
   split
   · rename_i e
     rw [e]; omega
   · omega,by rw [dot_up,q,if_pos hk]; omega⟩
 have h0 := dot_nonneg (l := l) l.length (fun j hj => ⟨by have := coin_rng hc hj; omega,hz.1 j hj⟩)
 rw [hz.2] at h0
 refine ⟨k,hk,by omega,((best_is hc _ (by omega)).2 (up (bF l x) k (-1)) ?_).1⟩
 have e : ((x - (l.getD k 0).toNat : Nat) : Int) = x - l.getD k 0 := by omega
 rw [e]; exact hz
theorem chain {l : List Int} (hc : Coins l) : ∀ n z,z≤n→z≤9999→canB l z = true→∃ ss : List Nat,(z : Int) + lastF l≤ss.length * lastF l∧(∀ s ∈ ss,s≤z∧canB l s = true)∧ss.Pairwise (fun s t => t < s∧canB l (z - s + t) = true) := by
 intro n
 induction n with
 | zero =>
   intro z hn _ h
   obtain rfl : z = 0 := by omega
   exact ⟨[0],by simp,fun s hs => by rw [List.mem_singleton] at hs; subst hs; exact ⟨Nat.le_refl _,h⟩,List.pairwise_singleton _ _⟩
 | succ n ih =>
   intro z hn h9 h
   by_cases hz : z = 0
   · subst hz
     exact ⟨[0],by simp,fun s hs => by rw [List.mem_singleton] at hs; subst hs; exact ⟨Nat.le_refl _,h⟩,List.pairwise_singleton _ _⟩
   · obtain ⟨k,hk,h1,h2⟩ := sub_coin hc (by omega) h9 h
     have hr := coin_rng hc hk
     have hl := coin_last hc hk
     obtain ⟨ss,a1,a2,a3⟩ := ih (z - (l.getD k 0).toNat) (by omega) (by omega) h2
     refine ⟨z :: ss,?_,?_,List.pairwise_cons.2 ⟨fun t ht => ⟨by have := (a2 t ht).1; omega,?_⟩,a3.imp_of_mem fun {s t} hs ht ⟨b1,b2⟩ => ⟨b1,?_⟩⟩⟩
     · rw [List.length_cons,Int.natCast_add,Int.add_mul]; omega
     · intro s hs
       rcases List.mem_cons.1 hs with rfl | hs
       · exact ⟨Nat.le_refl _,h⟩
       · have := a2 s hs
         exact ⟨by omega,this.2⟩
     · rw [Nat.sub_self,Nat.zero_add]; exact (a2 t ht).2
     · have hs2 := (a2 s hs).1
       have := add_coin hc hk (y := z - (l.getD k 0).toNat - s + t) (by omega) b2
       rw [show z - s + t = z - (l.getD k 0).toNat - s + t + (l.getD k 0).toNat by omega]
       exact this
end Go.Pier.Fl
namespace Go.Pier.Fl
open Go Go.Pier Go.Proofs
def nwF (r l : List Int) (a : Nat) : Nat→Int
 | 0 => -1
 | i + 1 => if l.getD i 0 > a then nwF r l a i else if r.getD ((a : Int) - l.getD i 0).toNat 0 < 0 then nwF r l a i else if nwF r l a i < 0 then r.getD ((a : Int) - l.getD i 0).toNat 0 + 1 else if r.getD ((a : Int) - l.getD i 0).toNat 0 + 1 < nwF r l a i then r.getD ((a : Int) - l.getD i 0).toNat 0 + 1 else nwF r l a i
def fR (l : List Int) : Nat→List Int
 | 0 => [0]
 | a + 1 => fR l a ++ [nwF (fR l a) l (a + 1) l.length]
def uS (b m : Nat) : Value := .slice (some ⟨b,0,some 0⟩) m 0
noncomputable def foB : Code := Try.f70.body.getD .skip
def foJ (l : List Int) (c : Nat) (am : Nat) (t5 : Value) (o : AObj) (a : Nat) : Nat→Option LInv := invOf 2 (LInv.one Nat (fun i => i≤l.length) (fun i => [(0,.slice (some ⟨0,0,none⟩) l.length c),(1,vi am),(5,t5),(6,vi a),(7,vi (nwF (fR l (a - 1)) l a i)),(8,vi i)]) (fun _ => [ros l,o]) (fun i => l.length - i))
def foI (l : List Int) (c am : Nat) : Nat → Option LInv := invOf 0 (.mk [
     ⟨Unit,fun _ => True,fun _ => [(0,.slice (some ⟨0,0,none⟩) l.length c),(1,vi am),(5,.slice (some ⟨1,0,none⟩) 1 1),(6,vi 1)],fun _ => [ros l,.rw [vi 0] none],fun _ => am + 1,fun _ => foJ l c am (.slice (some ⟨1,0,none⟩) 1 1) (.rw [vi 0] none) 1⟩,
     ⟨Nat,fun a => 2≤a∧a≤am + 1,fun a => [(0,.slice (some ⟨0,0,none⟩) l.length c),(1,vi am),(5,uS 1 a),(6,vi a)],fun a => [ros l,rws (fR l (a - 1))],fun a => am + 2 - a,fun a => foJ l c am (uS 1 a) (rws (fR l (a - 1))) a⟩]
   (fun _ b => b) (fun _ _ => [nsub 1 3]))
noncomputable def foV :=
fun (l:List Int) (c am:Nat)↦((∃ (y:Unit),Ob True∧(Ob (AObj.ro (List.map (Value.int IntKind.i64) l)=AObj.ro (List.map (nmap1 fun (b:Nat)↦b) (List.map (Value.int IntKind.i64) l))∧AObj.sc 2 (AObj.ro (List.map (Value.int IntKind.i64) l))=true)∧Ob (AObj.rw [vi (0:Int)] none=AObj.rw [vi (0:Int)] none∧true=true)∧True)∧Ob (Value.slice (some (ad0 0)) l.length c=Value.slice (some (ad0 0)) l.length c)∧Ob ((am:Int)=(am:Int))∧Ob (Value.slice (some (ad0 1)) 1 1=Value.slice (some (ad0 1)) 1 1)∧Ob ((1:Int)=(1:Int))∧True)∨∃ (y:Nat),Ob (2≤y∧y≤am+1)∧(Ob (AObj.ro (List.map (Value.int IntKind.i64) l)=AObj.ro (List.map (nmap1 fun (b:Nat)↦b) (List.map (Value.int IntKind.i64) l))∧AObj.sc 2 (AObj.ro (List.map (Value.int IntKind.i64) l))=true)∧Ob (AObj.rw [vi (0:Int)] none=AObj.rw (List.map (nmap1 fun (b:Nat)↦b) (List.map (Value.int IntKind.i64) (fR l (y-1)))) (some 1)∧AObj.sc 2 (AObj.rw (List.map (Value.int IntKind.i64) (fR l (y-1))) (some 1))=true)∧True)∧Ob (Value.slice (some (ad0 0)) l.length c=Value.slice (some (ad0 0)) l.length c)∧Ob ((am:Int)=(am:Int))∧Ob (Value.slice (some (ad0 1)) 1 1=Value.slice (some ⟨1,0,some 0⟩) y 0)∧Ob ((1:Int)=(y:Int))∧True)∧(∀ (x:Unit),Ob True→(decide ((1:Int)≤(am:Int))=true→(∃ (y:Nat),Ob (y≤l.length)∧(Ob (AObj.ro (List.map (Value.int IntKind.i64) l)=AObj.ro (List.map (nmap1 fun (b:Nat)↦b) (List.map (Value.int IntKind.i64) l))∧AObj.sc 2 (AObj.ro (List.map (Value.int IntKind.i64) l))=true)∧Ob (AObj.rw [vi (0:Int)] none=AObj.rw [vi (0:Int)] none∧true=true)∧True)∧Ob (Value.slice (some (ad0 0)) l.length c=Value.slice (some (ad0 0)) l.length c)∧Ob ((am:Int)=(am:Int))∧Ob (Value.slice (some (ad0 1)) 1 1=Value.slice (some (ad0 1)) 1 1)∧Ob ((1:Int)=(↑(1:Nat):Int))∧Ob ((-1:Int)=nwF [(0:Int)] l 1 y)∧Ob ((0:Int)=(y:Int))∧True)∧∀ (x:Nat),Ob (x≤l.length)→(decide ((x:Int)<(l.length:Int))=true→Ob ((0:Int)≤(x:Int)∧(x:Int)<(l.length:Int)∧true=true)∧Ob (IntAt IntKind.i64 (List.map (Value.int IntKind.i64) l) (0+(x:Int).toNat * 1))∧(decide ((↑(1:Nat):Int)<getI (List.map (Value.int IntKind.i64) l) (0+(x:Int).toNat * 1))=false→Ob ((0:Int)≤(x:Int)∧(x:Int)<(l.length:Int)∧true=true)∧Ob (IntAt IntKind.i64 (List.map (Value.int IntKind.i64) l) (0+(x:Int).toNat * 1))∧Ob ((0:Int)≤IntKind.i64.wrap ((↑(1:Nat):Int)-getI (List.map (Value.int IntKind.i64) l) (0+(x:Int).toNat * 1))∧IntKind.i64.wrap ((↑(1:Nat):Int)-getI (List.map (Value.int IntKind.i64) l) (0+(x:Int).toNat * 1))<(↑(1:Nat):Int)∧true=true)∧Ob (IntAt IntKind.i64 [vi (0:Int)] (0+(IntKind.i64.wrap ((↑(1:Nat):Int)-getI (List.map (Value.int IntKind.i64) l) (0+(x:Int).toNat * 1))).toNat * 1))∧(decide (getI [vi (0:Int)] (0+(IntKind.i64.wrap ((↑(1:Nat):Int)-getI (List.map (Value.int IntKind.i64) l) (0+(x:Int).toNat * 1))).toNat * 1)<(0:Int))=true→∃ (y:Nat),Ob (y≤l.length)∧Ob (l.length-y<l.length-x)∧(Ob (AObj.ro (List.map (Value.int IntKind.i64) l)=AObj.ro (List.map (nmap1 fun (b:Nat)↦b) (List.map (Value.int IntKind.i64) l))∧AObj.sc 2 (AObj.ro (List.map (Value.int IntKind.i64) l))=true)∧Ob (AObj.rw [vi (0:Int)] none=AObj.rw [vi (0:Int)] none∧true=true)∧True)∧Ob (Value.slice (some (ad0 0)) l.length c=Value.slice (some (ad0 0)) l.length c)∧Ob ((am:Int)=(am:Int))∧Ob (Value.slice (some (ad0 1)) 1 1=Value.slice (some (ad0 1)) 1 1)∧Ob ((↑(1:Nat):Int)=(↑(1:Nat):Int))∧Ob (nwF [(0:Int)] l 1 x=nwF [(0:Int)] l 1 y)∧Ob (IntKind.i64.wrap ((x:Int)+(1:Int))=(y:Int))∧True)∧(decide (getI [vi (0:Int)] (0+(IntKind.i64.wrap ((↑(1:Nat):Int)-getI (List.map (Value.int IntKind.i64) l) (0+(x:Int).toNat * 1))).toNat * 1)<(0:Int))=false→Ob ((0:Int)≤(x:Int)∧(x:Int)<(l.length:Int)∧true=true)∧Ob (IntAt IntKind.i64 (List.map (Value.int IntKind.i64) l) (0+(x:Int).toNat * 1))∧Ob ((0:Int)≤IntKind.i64.wrap ((↑(1:Nat):Int)-getI (List.map (Value.int IntKind.i64) l) (0+(x:Int).toNat * 1))∧IntKind.i64.wrap ((↑(1:Nat):Int)-getI (List.map (Value.int IntKind.i64) l) (0+(x:Int).toNat * 1))<(↑(1:Nat):Int)∧true=true)∧Ob (IntAt IntKind.i64 [vi (0:Int)] (0+(IntKind.i64.wrap ((↑(1:Nat):Int)-getI (List.map (Value.int IntKind.i64) l) (0+(x:Int).toNat * 1))).toNat * 1))∧(decide (nwF [(0:Int)] l 1 x<(0:Int))=false→(decide (IntKind.i64.wrap (getI [vi (0:Int)] (0+(IntKind.i64.wrap ((↑(1:Nat):Int)-getI (List.map (Value.int IntKind.i64) l) (0+(x:Int).toNat * 1))).toNat * 1)+(1:Int))<nwF [(0:Int)] l 1 x)=true→∃ (y:Nat),Ob (y≤l.length)∧Ob (l.length-y<l.length-x)∧(Ob (AObj.ro (List.map (Value.int IntKind.i64) l)=AObj.ro (List.map (nmap1 fun (b:Nat)↦b) (List.map (Value.int IntKind.i64) l))∧AObj.sc 2 (AObj.ro (List.map (Value.int IntKind.i64) l))=true)∧Ob (AObj.rw [vi (0:Int)] none=AObj.rw [vi (0:Int)] none∧true=true)∧True)∧Ob (Value.slice (some (ad0 0)) l.length c=Value.slice (some (ad0 0)) l.length c)∧Ob ((am:Int)=(am:Int))∧Ob (Value.slice (some (ad0 1)) 1 1=Value.slice (some (ad0 1)) 1 1)∧Ob ((↑(1:Nat):Int)=(↑(1:Nat):Int))∧Ob (IntKind.i64.wrap (getI [vi (0:Int)] (0+(IntKind.i64.wrap ((↑(1:Nat):Int)-getI (List.map (Value.int IntKind.i64) l) (0+(x:Int).toNat * 1))).toNat * 1)+(1:Int))=nwF [(0:Int)] l 1 y)∧Ob (IntKind.i64.wrap ((x:Int)+(1:Int))=(y:Int))∧True)∧(decide (IntKind.i64.wrap (getI [vi (0:Int)] (0+(IntKind.i64.wrap ((↑(1:Nat):Int)-getI (List.map (Value.int IntKind.i64) l) (0+(x:Int).toNat * 1))).toNat * 1)+(1:Int))<nwF [(0:Int)] l 1 x)=false→∃ (y:Nat),Ob (y≤l.length)∧Ob (l.length-y<l.length-x)∧(Ob (AObj.ro (List.map (Value.int IntKind.i64) l)=AObj.ro (List.map (nmap1 fun (b:Nat)↦b) (List.map (Value.int IntKind.i64) l))∧AObj.sc 2 (AObj.ro (List.map (Value.int IntKind.i64) l))=true)∧Ob (AObj.rw [vi (0:Int)] none=AObj.rw [vi (0:Int)] none∧true=true)∧True)∧Ob (Value.slice (some (ad0 0)) l.length c=Value.slice (some (ad0 0)) l.length c)∧Ob ((am:Int)=(am:Int))∧Ob (Value.slice (some (ad0 1)) 1 1=Value.slice (some (ad0 1)) 1 1)∧Ob ((↑(1:Nat):Int)=(↑(1:Nat):Int))∧Ob (nwF [(0:Int)] l 1 x=nwF [(0:Int)] l 1 y)∧Ob (IntKind.i64.wrap ((x:Int)+(1:Int))=(y:Int))∧True))∧(decide (nwF [(0:Int)] l 1 x<(0:Int))=true→∃ (y:Nat),Ob (y≤l.length)∧Ob (l.length-y<l.length-x)∧(Ob (AObj.ro (List.map (Value.int IntKind.i64) l)=AObj.ro (List.map (nmap1 fun (b:Nat)↦b) (List.map (Value.int IntKind.i64) l))∧AObj.sc 2 (AObj.ro (List.map (Value.int IntKind.i64) l))=true)∧Ob (AObj.rw [vi (0:Int)] none=AObj.rw [vi (0:Int)] none∧true=true)∧True)∧Ob (Value.slice (some (ad0 0)) l.length c=Value.slice (some (ad0 0)) l.length c)∧Ob ((am:Int)=(am:Int))∧Ob (Value.slice (some (ad0 1)) 1 1=Value.slice (some (ad0 1)) 1 1)∧Ob ((↑(1:Nat):Int)=(↑(1:Nat):Int))∧Ob (IntKind.i64.wrap (getI [vi (0:Int)] (0+(IntKind.i64.wrap ((↑(1:Nat):Int)-getI (List.map (Value.int IntKind.i64) l) (0+(x:Int).toNat * 1))).toNat * 1)+(1:Int))=nwF [(0:Int)] l 1 y)∧Ob (IntKind.i64.wrap ((x:Int)+(1:Int))=(y:Int))∧True)))∧(decide ((↑(1:Nat):Int)<getI (List.map (Value.int IntKind.i64) l) (0+(x:Int).toNat * 1))=true→∃ (y:Nat),Ob (y≤l.length)∧Ob (l.length-y<l.length-x)∧(Ob (AObj.ro (List.map (Value.int IntKind.i64) l)=AObj.ro (List.map (nmap1 fun (b:Nat)↦b) (List.map (Value.int IntKind.i64) l))∧AObj.sc 2 (AObj.ro (List.map (Value.int IntKind.i64) l))=true)∧Ob (AObj.rw [vi (0:Int)] none=AObj.rw [vi (0:Int)] none∧true=true)∧True)∧Ob (Value.slice (some (ad0 0)) l.length c=Value.slice (some (ad0 0)) l.length c)∧Ob ((am:Int)=(am:Int))∧Ob (Value.slice (some (ad0 1)) 1 1=Value.slice (some (ad0 1)) 1 1)∧Ob ((↑(1:Nat):Int)=(↑(1:Nat):Int))∧Ob (nwF [(0:Int)] l 1 x=nwF [(0:Int)] l 1 y)∧Ob (IntKind.i64.wrap ((x:Int)+(1:Int))=(y:Int))∧True))∧(decide ((x:Int)<(l.length:Int))=false→Ob (andP (some (0+1≤1∧true=true)) (2≤1099511627776∧2080≤281474976710656∧1=1∧1<2∧1≤1))∧((∃ (y:Unit),Ob True∧Ob (am+1<am+1)∧(Ob (AObj.ro (List.map (Value.int IntKind.i64) l)=AObj.ro (List.map (nmap1 (nsub 1 3)) (List.map (Value.int IntKind.i64) l))∧AObj.sc 2 (AObj.ro (List.map (Value.int IntKind.i64) l))=true)∧Ob (AObj.rw [vi (0:Int),vi (nwF [(0:Int)] l 1 x)] (some 1)=AObj.rw [vi (0:Int)] none∧true=true)∧True)∧Ob (Value.slice (some (ad0 0)) l.length c=Value.slice (some (ad0 0)) l.length c)∧Ob ((am:Int)=(am:Int))∧Ob (Value.slice (some ⟨3,0,some 0⟩) 2 0=Value.slice (some (ad0 3)) 1 1)∧Ob (IntKind.i64.wrap ((↑(1:Nat):Int)+(1:Int))=(1:Int))∧True)∨∃ (y:Nat),Ob (2≤y∧y≤am+1)∧Ob (am+2-y<am+1)∧(Ob (AObj.ro (List.map (Value.int IntKind.i64) l)=AObj.ro (List.map (nmap1 (nsub 1 3)) (List.map (Value.int IntKind.i64) l))∧AObj.sc 2 (AObj.ro (List.map (Value.int IntKind.i64) l))=true)∧Ob (AObj.rw [vi (0:Int),vi (nwF [(0:Int)] l 1 x)] (some 1)=AObj.rw (List.map (nmap1 (nsub 1 3)) (List.map (Value.int IntKind.i64) (fR l (y-1)))) (some 1)∧AObj.sc 2 (AObj.rw (List.map (Value.int IntKind.i64) (fR l (y-1))) (some 1))=true)∧True)∧Ob (Value.slice (some (ad0 0)) l.length c=Value.slice (some (ad0 0)) l.length c)∧Ob ((am:Int)=(am:Int))∧Ob (Value.slice (some ⟨3,0,some 0⟩) 2 0=Value.slice (some ⟨3,0,some 0⟩) y 0)∧Ob (IntKind.i64.wrap ((↑(1:Nat):Int)+(1:Int))=(y:Int))∧True)))∧(decide ((1:Int)≤(am:Int))=false→(Ob (AObj.ro (List.map (Value.int IntKind.i64) l)=AObj.ro (List.map (nmap1 (nsub 1 1)) (List.map (Value.int IntKind.i64) l))∧AObj.sc 2 (AObj.ro (List.map (Value.int IntKind.i64) l))=true)∧Ob (AObj.rw [vi (0:Int)] none=AObj.rw (List.map (nmap1 (nsub 1 1)) (List.map (Value.int IntKind.i64) (fR l am))) (some 1)∧AObj.sc 2 (AObj.rw (List.map (Value.int IntKind.i64) (fR l am)) (some 1))=true)∧True)∧Ob (Value.slice (some (ad0 1)) 1 1=Value.slice (some ⟨1,0,some 0⟩) (am+1) 0)∧True))∧∀ (x:Nat),Ob (2≤x∧x≤am+1)→(decide ((x:Int)≤(am:Int))=true→(∃ (y:Nat),Ob (y≤l.length)∧(Ob (AObj.ro (List.map (Value.int IntKind.i64) l)=AObj.ro (List.map (nmap1 fun (b:Nat)↦b) (List.map (Value.int IntKind.i64) l))∧AObj.sc 2 (AObj.ro (List.map (Value.int IntKind.i64) l))=true)∧Ob (AObj.rw (List.map (Value.int IntKind.i64) (fR l (x-1))) (some 1)=AObj.rw (List.map (nmap1 fun (b:Nat)↦b) (List.map (Value.int IntKind.i64) (fR l (x-1)))) (some 1)∧AObj.sc 2 (AObj.rw (List.map (Value.int IntKind.i64) (fR l (x-1))) (some 1))=true)∧True)∧Ob (Value.slice (some (ad0 0)) l.length c=Value.slice (some (ad0 0)) l.length c)∧Ob ((am:Int)=(am:Int))∧Ob (Value.slice (some ⟨1,0,some 0⟩) x 0=Value.slice (some ⟨1,0,some 0⟩) x 0)∧Ob ((x:Int)=(x:Int))∧Ob ((-1:Int)=nwF (fR l (x-1)) l x y)∧Ob ((0:Int)=(y:Int))∧True)∧∀ (x_1:Nat),Ob (x_1≤l.length)→(decide ((x_1:Int)<(l.length:Int))=true→Ob ((0:Int)≤(x_1:Int)∧(x_1:Int)<(l.length:Int)∧true=true)∧Ob (IntAt IntKind.i64 (List.map (Value.int IntKind.i64) l) (0+(x_1:Int).toNat * 1))∧(decide ((x:Int)<getI (List.map (Value.int IntKind.i64) l) (0+(x_1:Int).toNat * 1))=false→Ob ((0:Int)≤(x_1:Int)∧(x_1:Int)<(l.length:Int)∧true=true)∧Ob (IntAt IntKind.i64 (List.map (Value.int IntKind.i64) l) (0+(x_1:Int).toNat * 1))∧Ob ((0:Int)≤IntKind.i64.wrap ((x:Int)-getI (List.map (Value.int IntKind.i64) l) (0+(x_1:Int).toNat * 1))∧IntKind.i64.wrap ((x:Int)-getI (List.map (Value.int IntKind.i64) l) (0+(x_1:Int).toNat * 1))<(x:Int)∧true=true)∧Ob (IntAt IntKind.i64 (List.map (Value.int IntKind.i64) (fR l (x-1))) (0+(IntKind.i64.wrap ((x:Int)-getI (List.map (Value.int IntKind.i64) l) (0+(x_1:Int).toNat * 1))).toNat * 1))∧(decide (getI (List.map (Value.int IntKind.i64) (fR l (x-1))) (0+(IntKind.i64.wrap ((x:Int)-getI (List.map (Value.int IntKind.i64) l) (0+(x_1:Int).toNat * 1))).toNat * 1)<(0:Int))=true→∃ (y:Nat),Ob (y≤l.length)∧Ob (l.length-y<l.length-x_1)∧(Ob (AObj.ro (List.map (Value.int IntKind.i64) l)=AObj.ro (List.map (nmap1 fun (b:Nat)↦b) (List.map (Value.int IntKind.i64) l))∧AObj.sc 2 (AObj.ro (List.map (Value.int IntKind.i64) l))=true)∧Ob (AObj.rw (List.map (Value.int IntKind.i64) (fR l (x-1))) (some 1)=AObj.rw (List.map (nmap1 fun (b:Nat)↦b) (List.map (Value.int IntKind.i64) (fR l (x-1)))) (some 1)∧AObj.sc 2 (AObj.rw (List.map (Value.int IntKind.i64) (fR l (x-1))) (some 1))=true)∧True)∧Ob (Value.slice (some (ad0 0)) l.length c=Value.slice (some (ad0 0)) l.length c)∧Ob ((am:Int)=(am:Int))∧Ob (Value.slice (some ⟨1,0,some 0⟩) x 0=Value.slice (some ⟨1,0,some 0⟩) x 0)∧Ob ((x:Int)=(x:Int))∧Ob (nwF (fR l (x-1)) l x x_1=nwF (fR l (x-1)) l x y)∧Ob (IntKind.i64.wrap ((x_1:Int)+(1:Int))=(y:Int))∧True)∧(decide (getI (List.map (Value.int IntKind.i64) (fR l (x-1))) (0+(IntKind.i64.wrap ((x:Int)-getI (List.map (Value.int IntKind.i64) l) (0+(x_1:Int).toNat * 1))).toNat * 1)<(0:Int))=false→Ob ((0:Int)≤(x_1:Int)∧(x_1:Int)<(l.length:Int)∧true=true)∧Ob (IntAt IntKind.i64 (List.map (Value.int IntKind.i64) l) (0+(x_1:Int).toNat * 1))∧Ob ((0:Int)≤IntKind.i64.wrap ((x:Int)-getI (List.map (Value.int IntKind.i64) l) (0+(x_1:Int).toNat * 1))∧IntKind.i64.wrap ((x:Int)-getI (List.map (Value.int IntKind.i64) l) (0+(x_1:Int).toNat * 1))<(x:Int)∧true=true)∧Ob (IntAt IntKind.i64 (List.map (Value.int IntKind.i64) (fR l (x-1))) (0+(IntKind.i64.wrap ((x:Int)-getI (List.map (Value.int IntKind.i64) l) (0+(x_1:Int).toNat * 1))).toNat * 1))∧(decide (nwF (fR l (x-1)) l x x_1<(0:Int))=false→(decide (IntKind.i64.wrap (getI (List.map (Value.int IntKind.i64) (fR l (x-1))) (0+(IntKind.i64.wrap ((x:Int)-getI (List.map (Value.int IntKind.i64) l) (0+(x_1:Int).toNat * 1))).toNat * 1)+(1:Int))<nwF (fR l (x-1)) l x x_1)=true→∃ (y:Nat),Ob (y≤l.length)∧Ob (l.length-y<l.length-x_1)∧(Ob (AObj.ro (List.map (Value.int IntKind.i64) l)=AObj.ro (List.map (nmap1 fun (b:Nat)↦b) (List.map (Value.int IntKind.i64) l))∧AObj.sc 2 (AObj.ro (List.map (Value.int IntKind.i64) l))=true)∧Ob (AObj.rw (List.map (Value.int IntKind.i64) (fR l (x-1))) (some 1)=AObj.rw (List.map (nmap1 fun (b:Nat)↦b) (List.map (Value.int IntKind.i64) (fR l (x-1)))) (some 1)∧AObj.sc 2 (AObj.rw (List.map (Value.int IntKind.i64) (fR l (x-1))) (some 1))=true)∧True)∧Ob (Value.slice (some (ad0 0)) l.length c=Value.slice (some (ad0 0)) l.length c)∧Ob ((am:Int)=(am:Int))∧Ob (Value.slice (some ⟨1,0,some 0⟩) x 0=Value.slice (some ⟨1,0,some 0⟩) x 0)∧Ob ((x:Int)=(x:Int))∧Ob (IntKind.i64.wrap (getI (List.map (Value.int IntKind.i64) (fR l (x-1))) (0+(IntKind.i64.wrap ((x:Int)-getI (List.map (Value.int IntKind.i64) l) (0+(x_1:Int).toNat * 1))).toNat * 1)+(1:Int))=nwF (fR l (x-1)) l x y)∧Ob (IntKind.i64.wrap ((x_1:Int)+(1:Int))=(y:Int))∧True)∧(decide (IntKind.i64.wrap (getI (List.map (Value.int IntKind.i64) (fR l (x-1))) (0+(IntKind.i64.wrap ((x:Int)-getI (List.map (Value.int IntKind.i64) l) (0+(x_1:Int).toNat * 1))).toNat * 1)+(1:Int))<nwF (fR l (x-1)) l x x_1)=false→∃ (y:Nat),Ob (y≤l.length)∧Ob (l.length-y<l.length-x_1)∧(Ob (AObj.ro (List.map (Value.int IntKind.i64) l)=AObj.ro (List.map (nmap1 fun (b:Nat)↦b) (List.map (Value.int IntKind.i64) l))∧AObj.sc 2 (AObj.ro (List.map (Value.int IntKind.i64) l))=true)∧Ob (AObj.rw (List.map (Value.int IntKind.i64) (fR l (x-1))) (some 1)=AObj.rw (List.map (nmap1 fun (b:Nat)↦b) (List.map (Value.int IntKind.i64) (fR l (x-1)))) (some 1)∧AObj.sc 2 (AObj.rw (List.map (Value.int IntKind.i64) (fR l (x-1))) (some 1))=true)∧True)∧Ob (Value.slice (some (ad0 0)) l.length c=Value.slice (some (ad0 0)) l.length c)∧Ob ((am:Int)=(am:Int))∧Ob (Value.slice (some ⟨1,0,some 0⟩) x 0=Value.slice (some ⟨1,0,some 0⟩) x 0)∧Ob ((x:Int)=(x:Int))∧Ob (nwF (fR l (x-1)) l x x_1=nwF (fR l (x-1)) l x y)∧Ob (IntKind.i64.wrap ((x_1:Int)+(1:Int))=(y:Int))∧True))∧(decide (nwF (fR l (x-1)) l x x_1<(0:Int))=true→∃ (y:Nat),Ob (y≤l.length)∧Ob (l.length-y<l.length-x_1)∧(Ob (AObj.ro (List.map (Value.int IntKind.i64) l)=AObj.ro (List.map (nmap1 fun (b:Nat)↦b) (List.map (Value.int IntKind.i64) l))∧AObj.sc 2 (AObj.ro (List.map (Value.int IntKind.i64) l))=true)∧Ob (AObj.rw (List.map (Value.int IntKind.i64) (fR l (x-1))) (some 1)=AObj.rw (List.map (nmap1 fun (b:Nat)↦b) (List.map (Value.int IntKind.i64) (fR l (x-1)))) (some 1)∧AObj.sc 2 (AObj.rw (List.map (Value.int IntKind.i64) (fR l (x-1))) (some 1))=true)∧True)∧Ob (Value.slice (some (ad0 0)) l.length c=Value.slice (some (ad0 0)) l.length c)∧Ob ((am:Int)=(am:Int))∧Ob (Value.slice (some ⟨1,0,some 0⟩) x 0=Value.slice (some ⟨1,0,some 0⟩) x 0)∧Ob ((x:Int)=(x:Int))∧Ob (IntKind.i64.wrap (getI (List.map (Value.int IntKind.i64) (fR l (x-1))) (0+(IntKind.i64.wrap ((x:Int)-getI (List.map (Value.int IntKind.i64) l) (0+(x_1:Int).toNat * 1))).toNat * 1)+(1:Int))=nwF (fR l (x-1)) l x y)∧Ob (IntKind.i64.wrap ((x_1:Int)+(1:Int))=(y:Int))∧True)))∧(decide ((x:Int)<getI (List.map (Value.int IntKind.i64) l) (0+(x_1:Int).toNat * 1))=true→∃ (y:Nat),Ob (y≤l.length)∧Ob (l.length-y<l.length-x_1)∧(Ob (AObj.ro (List.map (Value.int IntKind.i64) l)=AObj.ro (List.map (nmap1 fun (b:Nat)↦b) (List.map (Value.int IntKind.i64) l))∧AObj.sc 2 (AObj.ro (List.map (Value.int IntKind.i64) l))=true)∧Ob (AObj.rw (List.map (Value.int IntKind.i64) (fR l (x-1))) (some 1)=AObj.rw (List.map (nmap1 fun (b:Nat)↦b) (List.map (Value.int IntKind.i64) (fR l (x-1)))) (some 1)∧AObj.sc 2 (AObj.rw (List.map (Value.int IntKind.i64) (fR l (x-1))) (some 1))=true)∧True)∧Ob (Value.slice (some (ad0 0)) l.length c=Value.slice (some (ad0 0)) l.length c)∧Ob ((am:Int)=(am:Int))∧Ob (Value.slice (some ⟨1,0,some 0⟩) x 0=Value.slice (some ⟨1,0,some 0⟩) x 0)∧Ob ((x:Int)=(x:Int))∧Ob (nwF (fR l (x-1)) l x x_1=nwF (fR l (x-1)) l x y)∧Ob (IntKind.i64.wrap ((x_1:Int)+(1:Int))=(y:Int))∧True))∧(decide ((x_1:Int)<(l.length:Int))=false→Ob (andP (some (0+1≤1∧true=true)) (x+1≤1099511627776∧(2 * (x+1)+256) * 8≤281474976710656∧1=1∧(List.map (Value.int IntKind.i64) (fR l (x-1))).length=x * 1))∧((∃ (y:Unit),Ob True∧Ob (am+1<am+2-x)∧(Ob (AObj.ro (List.map (Value.int IntKind.i64) l)=AObj.ro (List.map (nmap1 (nsub 1 3)) (List.map (Value.int IntKind.i64) l))∧AObj.sc 2 (AObj.ro (List.map (Value.int IntKind.i64) l))=true)∧Ob (AObj.rw (List.map (Value.int IntKind.i64) (fR l (x-1))++[vi (nwF (fR l (x-1)) l x x_1)]) (some 1)=AObj.rw [vi (0:Int)] none∧true=true)∧True)∧Ob (Value.slice (some (ad0 0)) l.length c=Value.slice (some (ad0 0)) l.length c)∧Ob ((am:Int)=(am:Int))∧Ob (Value.slice (some ⟨3,0,some 0⟩) (x+1) 0=Value.slice (some (ad0 3)) 1 1)∧Ob (IntKind.i64.wrap ((x:Int)+(1:Int))=(1:Int))∧True)∨∃ (y:Nat),Ob (2≤y∧y≤am+1)∧Ob (am+2-y<am+2-x)∧(Ob (AObj.ro (List.map (Value.int IntKind.i64) l)=AObj.ro (List.map (nmap1 (nsub 1 3)) (List.map (Value.int IntKind.i64) l))∧AObj.sc 2 (AObj.ro (List.map (Value.int IntKind.i64) l))=true)∧Ob (AObj.rw (List.map (Value.int IntKind.i64) (fR l (x-1))++[vi (nwF (fR l (x-1)) l x x_1)]) (some 1)=AObj.rw (List.map (nmap1 (nsub 1 3)) (List.map (Value.int IntKind.i64) (fR l (y-1)))) (some 1)∧AObj.sc 2 (AObj.rw (List.map (Value.int IntKind.i64) (fR l (y-1))) (some 1))=true)∧True)∧Ob (Value.slice (some (ad0 0)) l.length c=Value.slice (some (ad0 0)) l.length c)∧Ob ((am:Int)=(am:Int))∧Ob (Value.slice (some ⟨3,0,some 0⟩) (x+1) 0=Value.slice (some ⟨3,0,some 0⟩) y 0)∧Ob (IntKind.i64.wrap ((x:Int)+(1:Int))=(y:Int))∧True)))∧(decide ((x:Int)≤(am:Int))=false→(Ob (AObj.ro (List.map (Value.int IntKind.i64) l)=AObj.ro (List.map (nmap1 (nsub 1 1)) (List.map (Value.int IntKind.i64) l))∧AObj.sc 2 (AObj.ro (List.map (Value.int IntKind.i64) l))=true)∧Ob (AObj.rw (List.map (Value.int IntKind.i64) (fR l (x-1))) (some 1)=AObj.rw (List.map (nmap1 (nsub 1 1)) (List.map (Value.int IntKind.i64) (fR l am))) (some 1)∧AObj.sc 2 (AObj.rw (List.map (Value.int IntKind.i64) (fR l am)) (some 1))=true)∧True)∧Ob (Value.slice (some ⟨1,0,some 0⟩) x 0=Value.slice (some ⟨1,0,some 0⟩) (am+1) 0)∧True)
theorem foV_eq : foV = fun (l : List Int) (c am : Nat) => vc Try.prog {} 1 63 true (foI l c am) foB [] (argFr 0 [.slice (some ⟨0,0,none⟩) l.length c,vi am]) [ros l] (retR Try.prog Try.f70 1 (nsub 1 1) (uS 1 (am + 1)) [ros l,rws (fR l am)]) := by kernel_rfl
noncomputable def foZ :=
fun (l:List Int) (c:Nat)↦((∃ (y:Unit),Ob True∧(Ob (AObj.ro (List.map (Value.int IntKind.i64) l)=AObj.ro (List.map (nmap1 fun (b:Nat)↦b) (List.map (Value.int IntKind.i64) l))∧AObj.sc 2 (AObj.ro (List.map (Value.int IntKind.i64) l))=true)∧Ob (AObj.rw [vi (0:Int)] none=AObj.rw [vi (0:Int)] none∧true=true)∧True)∧Ob (Value.slice (some (ad0 0)) l.length c=Value.slice (some (ad0 0)) l.length c)∧Ob ((0:Int)=(↑(0:Nat):Int))∧Ob (Value.slice (some (ad0 1)) 1 1=Value.slice (some (ad0 1)) 1 1)∧Ob ((1:Int)=(1:Int))∧True)∨∃ (y:Nat),Ob (2≤y∧y≤1)∧(Ob (AObj.ro (List.map (Value.int IntKind.i64) l)=AObj.ro (List.map (nmap1 fun (b:Nat)↦b) (List.map (Value.int IntKind.i64) l))∧AObj.sc 2 (AObj.ro (List.map (Value.int IntKind.i64) l))=true)∧Ob (AObj.rw [vi (0:Int)] none=AObj.rw (List.map (nmap1 fun (b:Nat)↦b) (List.map (Value.int IntKind.i64) (fR l (y-1)))) (some 1)∧AObj.sc 2 (AObj.rw (List.map (Value.int IntKind.i64) (fR l (y-1))) (some 1))=true)∧True)∧Ob (Value.slice (some (ad0 0)) l.length c=Value.slice (some (ad0 0)) l.length c)∧Ob ((0:Int)=(↑(0:Nat):Int))∧Ob (Value.slice (some (ad0 1)) 1 1=Value.slice (some ⟨1,0,some 0⟩) y 0)∧Ob ((1:Int)=(y:Int))∧True)∧(∀ (x:Unit),Ob True→(false=true→(∃ (y:Nat),Ob (y≤l.length)∧(Ob (AObj.ro (List.map (Value.int IntKind.i64) l)=AObj.ro (List.map (nmap1 fun (b:Nat)↦b) (List.map (Value.int IntKind.i64) l))∧AObj.sc 2 (AObj.ro (List.map (Value.int IntKind.i64) l))=true)∧Ob (AObj.rw [vi (0:Int)] none=AObj.rw [vi (0:Int)] none∧true=true)∧True)∧Ob (Value.slice (some (ad0 0)) l.length c=Value.slice (some (ad0 0)) l.length c)∧Ob ((↑(0:Nat):Int)=(↑(0:Nat):Int))∧Ob (Value.slice (some (ad0 1)) 1 1=Value.slice (some (ad0 1)) 1 1)∧Ob ((1:Int)=(↑(1:Nat):Int))∧Ob ((-1:Int)=nwF [(0:Int)] l 1 y)∧Ob ((0:Int)=(y:Int))∧True)∧∀ (x:Nat),Ob (x≤l.length)→(decide ((x:Int)<(l.length:Int))=true→Ob ((0:Int)≤(x:Int)∧(x:Int)<(l.length:Int)∧true=true)∧Ob (IntAt IntKind.i64 (List.map (Value.int IntKind.i64) l) (0+(x:Int).toNat * 1))∧(decide ((↑(1:Nat):Int)<getI (List.map (Value.int IntKind.i64) l) (0+(x:Int).toNat * 1))=false→Ob ((0:Int)≤(x:Int)∧(x:Int)<(l.length:Int)∧true=true)∧Ob (IntAt IntKind.i64 (List.map (Value.int IntKind.i64) l) (0+(x:Int).toNat * 1))∧Ob ((0:Int)≤IntKind.i64.wrap ((↑(1:Nat):Int)-getI (List.map (Value.int IntKind.i64) l) (0+(x:Int).toNat * 1))∧IntKind.i64.wrap ((↑(1:Nat):Int)-getI (List.map (Value.int IntKind.i64) l) (0+(x:Int).toNat * 1))<(↑(1:Nat):Int)∧true=true)∧Ob (IntAt IntKind.i64 [vi (0:Int)] (0+(IntKind.i64.wrap ((↑(1:Nat):Int)-getI (List.map (Value.int IntKind.i64) l) (0+(x:Int).toNat * 1))).toNat * 1))∧(decide (getI [vi (0:Int)] (0+(IntKind.i64.wrap ((↑(1:Nat):Int)-getI (List.map (Value.int IntKind.i64) l) (0+(x:Int).toNat * 1))).toNat * 1)<(0:Int))=true→∃ (y:Nat),Ob (y≤l.length)∧Ob (l.length-y<l.length-x)∧(Ob (AObj.ro (List.map (Value.int IntKind.i64) l)=AObj.ro (List.map (nmap1 fun (b:Nat)↦b) (List.map (Value.int IntKind.i64) l))∧AObj.sc 2 (AObj.ro (List.map (Value.int IntKind.i64) l))=true)∧Ob (AObj.rw [vi (0:Int)] none=AObj.rw [vi (0:Int)] none∧true=true)∧True)∧Ob (Value.slice (some (ad0 0)) l.length c=Value.slice (some (ad0 0)) l.length c)∧Ob ((↑(0:Nat):Int)=(↑(0:Nat):Int))∧Ob (Value.slice (some (ad0 1)) 1 1=Value.slice (some (ad0 1)) 1 1)∧Ob ((↑(1:Nat):Int)=(↑(1:Nat):Int))∧Ob (nwF [(0:Int)] l 1 x=nwF [(0:Int)] l 1 y)∧Ob (IntKind.i64.wrap ((x:Int)+(1:Int))=(y:Int))∧True)∧(decide (getI [vi (0:Int)] (0+(IntKind.i64.wrap ((↑(1:Nat):Int)-getI (List.map (Value.int IntKind.i64) l) (0+(x:Int).toNat * 1))).toNat * 1)<(0:Int))=false→Ob ((0:Int)≤(x:Int)∧(x:Int)<(l.length:Int)∧true=true)∧Ob (IntAt IntKind.i64 (List.map (Value.int IntKind.i64) l) (0+(x:Int).toNat * 1))∧Ob ((0:Int)≤IntKind.i64.wrap ((↑(1:Nat):Int)-getI (List.map (Value.int IntKind.i64) l) (0+(x:Int).toNat * 1))∧IntKind.i64.wrap ((↑(1:Nat):Int)-getI (List.map (Value.int IntKind.i64) l) (0+(x:Int).toNat * 1))<(↑(1:Nat):Int)∧true=true)∧Ob (IntAt IntKind.i64 [vi (0:Int)] (0+(IntKind.i64.wrap ((↑(1:Nat):Int)-getI (List.map (Value.int IntKind.i64) l) (0+(x:Int).toNat * 1))).toNat * 1))∧(decide (nwF [(0:Int)] l 1 x<(0:Int))=false→(decide (IntKind.i64.wrap (getI [vi (0:Int)] (0+(IntKind.i64.wrap ((↑(1:Nat):Int)-getI (List.map (Value.int IntKind.i64) l) (0+(x:Int).toNat * 1))).toNat * 1)+(1:Int))<nwF [(0:Int)] l 1 x)=true→∃ (y:Nat),Ob (y≤l.length)∧Ob (l.length-y<l.length-x)∧(Ob (AObj.ro (List.map (Value.int IntKind.i64) l)=AObj.ro (List.map (nmap1 fun (b:Nat)↦b) (List.map (Value.int IntKind.i64) l))∧AObj.sc 2 (AObj.ro (List.map (Value.int IntKind.i64) l))=true)∧Ob (AObj.rw [vi (0:Int)] none=AObj.rw [vi (0:Int)] none∧true=true)∧True)∧Ob (Value.slice (some (ad0 0)) l.length c=Value.slice (some (ad0 0)) l.length c)∧Ob ((↑(0:Nat):Int)=(↑(0:Nat):Int))∧Ob (Value.slice (some (ad0 1)) 1 1=Value.slice (some (ad0 1)) 1 1)∧Ob ((↑(1:Nat):Int)=(↑(1:Nat):Int))∧Ob (IntKind.i64.wrap (getI [vi (0:Int)] (0+(IntKind.i64.wrap ((↑(1:Nat):Int)-getI (List.map (Value.int IntKind.i64) l) (0+(x:Int).toNat * 1))).toNat * 1)+(1:Int))=nwF [(0:Int)] l 1 y)∧Ob (IntKind.i64.wrap ((x:Int)+(1:Int))=(y:Int))∧True)∧(decide (IntKind.i64.wrap (getI [vi (0:Int)] (0+(IntKind.i64.wrap ((↑(1:Nat):Int)-getI (List.map (Value.int IntKind.i64) l) (0+(x:Int).toNat * 1))).toNat * 1)+(1:Int))<nwF [(0:Int)] l 1 x)=false→∃ (y:Nat),Ob (y≤l.length)∧Ob (l.length-y<l.length-x)∧(Ob (AObj.ro (List.map (Value.int IntKind.i64) l)=AObj.ro (List.map (nmap1 fun (b:Nat)↦b) (List.map (Value.int IntKind.i64) l))∧AObj.sc 2 (AObj.ro (List.map (Value.int IntKind.i64) l))=true)∧Ob (AObj.rw [vi (0:Int)] none=AObj.rw [vi (0:Int)] none∧true=true)∧True)∧Ob (Value.slice (some (ad0 0)) l.length c=Value.slice (some (ad0 0)) l.length c)∧Ob ((↑(0:Nat):Int)=(↑(0:Nat):Int))∧Ob (Value.slice (some (ad0 1)) 1 1=Value.slice (some (ad0 1)) 1 1)∧Ob ((↑(1:Nat):Int)=(↑(1:Nat):Int))∧Ob (nwF [(0:Int)] l 1 x=nwF [(0:Int)] l 1 y)∧Ob (IntKind.i64.wrap ((x:Int)+(1:Int))=(y:Int))∧True))∧(decide (nwF [(0:Int)] l 1 x<(0:Int))=true→∃ (y:Nat),Ob (y≤l.length)∧Ob (l.length-y<l.length-x)∧(Ob (AObj.ro (List.map (Value.int IntKind.i64) l)=AObj.ro (List.map (nmap1 fun (b:Nat)↦b) (List.map (Value.int IntKind.i64) l))∧AObj.sc 2 (AObj.ro (List.map (Value.int IntKind.i64) l))=true)∧Ob (AObj.rw [vi (0:Int)] none=AObj.rw [vi (0:Int)] none∧true=true)∧True)∧Ob (Value.slice (some (ad0 0)) l.length c=Value.slice (some (ad0 0)) l.length c)∧Ob ((↑(0:Nat):Int)=(↑(0:Nat):Int))∧Ob (Value.slice (some (ad0 1)) 1 1=Value.slice (some (ad0 1)) 1 1)∧Ob ((↑(1:Nat):Int)=(↑(1:Nat):Int))∧Ob (IntKind.i64.wrap (getI [vi (0:Int)] (0+(IntKind.i64.wrap ((↑(1:Nat):Int)-getI (List.map (Value.int IntKind.i64) l) (0+(x:Int).toNat * 1))).toNat * 1)+(1:Int))=nwF [(0:Int)] l 1 y)∧Ob (IntKind.i64.wrap ((x:Int)+(1:Int))=(y:Int))∧True)))∧(decide ((↑(1:Nat):Int)<getI (List.map (Value.int IntKind.i64) l) (0+(x:Int).toNat * 1))=true→∃ (y:Nat),Ob (y≤l.length)∧Ob (l.length-y<l.length-x)∧(Ob (AObj.ro (List.map (Value.int IntKind.i64) l)=AObj.ro (List.map (nmap1 fun (b:Nat)↦b) (List.map (Value.int IntKind.i64) l))∧AObj.sc 2 (AObj.ro (List.map (Value.int IntKind.i64) l))=true)∧Ob (AObj.rw [vi (0:Int)] none=AObj.rw [vi (0:Int)] none∧true=true)∧True)∧Ob (Value.slice (some (ad0 0)) l.length c=Value.slice (some (ad0 0)) l.length c)∧Ob ((↑(0:Nat):Int)=(↑(0:Nat):Int))∧Ob (Value.slice (some (ad0 1)) 1 1=Value.slice (some (ad0 1)) 1 1)∧Ob ((↑(1:Nat):Int)=(↑(1:Nat):Int))∧Ob (nwF [(0:Int)] l 1 x=nwF [(0:Int)] l 1 y)∧Ob (IntKind.i64.wrap ((x:Int)+(1:Int))=(y:Int))∧True))∧(decide ((x:Int)<(l.length:Int))=false→Ob (andP (some (0+1≤1∧true=true)) (2≤1099511627776∧2080≤281474976710656∧1=1∧1<2∧1≤1))∧((∃ (y:Unit),Ob True∧Ob (1<1)∧(Ob (AObj.ro (List.map (Value.int IntKind.i64) l)=AObj.ro (List.map (nmap1 (nsub 1 3)) (List.map (Value.int IntKind.i64) l))∧AObj.sc 2 (AObj.ro (List.map (Value.int IntKind.i64) l))=true)∧Ob (AObj.rw [vi (0:Int),vi (nwF [(0:Int)] l 1 x)] (some 1)=AObj.rw [vi (0:Int)] none∧true=true)∧True)∧Ob (Value.slice (some (ad0 0)) l.length c=Value.slice (some (ad0 0)) l.length c)∧Ob ((↑(0:Nat):Int)=(↑(0:Nat):Int))∧Ob (Value.slice (some ⟨3,0,some 0⟩) 2 0=Value.slice (some (ad0 3)) 1 1)∧Ob (IntKind.i64.wrap ((↑(1:Nat):Int)+(1:Int))=(1:Int))∧True)∨∃ (y:Nat),Ob (2≤y∧y≤1)∧Ob (2-y<1)∧(Ob (AObj.ro (List.map (Value.int IntKind.i64) l)=AObj.ro (List.map (nmap1 (nsub 1 3)) (List.map (Value.int IntKind.i64) l))∧AObj.sc 2 (AObj.ro (List.map (Value.int IntKind.i64) l))=true)∧Ob (AObj.rw [vi (0:Int),vi (nwF [(0:Int)] l 1 x)] (some 1)=AObj.rw (List.map (nmap1 (nsub 1 3)) (List.map (Value.int IntKind.i64) (fR l (y-1)))) (some 1)∧AObj.sc 2 (AObj.rw (List.map (Value.int IntKind.i64) (fR l (y-1))) (some 1))=true)∧True)∧Ob (Value.slice (some (ad0 0)) l.length c=Value.slice (some (ad0 0)) l.length c)∧Ob ((↑(0:Nat):Int)=(↑(0:Nat):Int))∧Ob (Value.slice (some ⟨3,0,some 0⟩) 2 0=Value.slice (some ⟨3,0,some 0⟩) y 0)∧Ob (IntKind.i64.wrap ((↑(1:Nat):Int)+(1:Int))=(y:Int))∧True)))∧(false=false→(Ob (AObj.ro (List.map (Value.int IntKind.i64) l)=AObj.ro (List.map (nmap1 (nsub 1 1)) (List.map (Value.int IntKind.i64) l))∧AObj.sc 2 (AObj.ro (List.map (Value.int IntKind.i64) l))=true)∧Ob (AObj.rw [vi (0:Int)] none=AObj.rw [vi (0:Int)] none∧true=true)∧True)∧Ob (Value.slice (some (ad0 1)) 1 1=Value.slice (some (ad0 1)) 1 1)∧True))∧∀ (x:Nat),Ob (2≤x∧x≤1)→(decide ((x:Int)≤(↑(0:Nat):Int))=true→(∃ (y:Nat),Ob (y≤l.length)∧(Ob (AObj.ro (List.map (Value.int IntKind.i64) l)=AObj.ro (List.map (nmap1 fun (b:Nat)↦b) (List.map (Value.int IntKind.i64) l))∧AObj.sc 2 (AObj.ro (List.map (Value.int IntKind.i64) l))=true)∧Ob (AObj.rw (List.map (Value.int IntKind.i64) (fR l (x-1))) (some 1)=AObj.rw (List.map (nmap1 fun (b:Nat)↦b) (List.map (Value.int IntKind.i64) (fR l (x-1)))) (some 1)∧AObj.sc 2 (AObj.rw (List.map (Value.int IntKind.i64) (fR l (x-1))) (some 1))=true)∧True)∧Ob (Value.slice (some (ad0 0)) l.length c=Value.slice (some (ad0 0)) l.length c)∧Ob ((↑(0:Nat):Int)=(↑(0:Nat):Int))∧Ob (Value.slice (some ⟨1,0,some 0⟩) x 0=Value.slice (some ⟨1,0,some 0⟩) x 0)∧Ob ((x:Int)=(x:Int))∧Ob ((-1:Int)=nwF (fR l (x-1)) l x y)∧Ob ((0:Int)=(y:Int))∧True)∧∀ (x_1:Nat),Ob (x_1≤l.length)→(decide ((x_1:Int)<(l.length:Int))=true→Ob ((0:Int)≤(x_1:Int)∧(x_1:Int)<(l.length:Int)∧true=true)∧Ob (IntAt IntKind.i64 (List.map (Value.int IntKind.i64) l) (0+(x_1:Int).toNat * 1))∧(decide ((x:Int)<getI (List.map (Value.int IntKind.i64) l) (0+(x_1:Int).toNat * 1))=false→Ob ((0:Int)≤(x_1:Int)∧(x_1:Int)<(l.length:Int)∧true=true)∧Ob (IntAt IntKind.i64 (List.map (Value.int IntKind.i64) l) (0+(x_1:Int).toNat * 1))∧Ob ((0:Int)≤IntKind.i64.wrap ((x:Int)-getI (List.map (Value.int IntKind.i64) l) (0+(x_1:Int).toNat * 1))∧IntKind.i64.wrap ((x:Int)-getI (List.map (Value.int IntKind.i64) l) (0+(x_1:Int).toNat * 1))<(x:Int)∧true=true)∧Ob (IntAt IntKind.i64 (List.map (Value.int IntKind.i64) (fR l (x-1))) (0+(IntKind.i64.wrap ((x:Int)-getI (List.map (Value.int IntKind.i64) l) (0+(x_1:Int).toNat * 1))).toNat * 1))∧(decide (getI (List.map (Value.int IntKind.i64) (fR l (x-1))) (0+(IntKind.i64.wrap ((x:Int)-getI (List.map (Value.int IntKind.i64) l) (0+(x_1:Int).toNat * 1))).toNat * 1)<(0:Int))=true→∃ (y:Nat),Ob (y≤l.length)∧Ob (l.length-y<l.length-x_1)∧(Ob (AObj.ro (List.map (Value.int IntKind.i64) l)=AObj.ro (List.map (nmap1 fun (b:Nat)↦b) (List.map (Value.int IntKind.i64) l))∧AObj.sc 2 (AObj.ro (List.map (Value.int IntKind.i64) l))=true)∧Ob (AObj.rw (List.map (Value.int IntKind.i64) (fR l (x-1))) (some 1)=AObj.rw (List.map (nmap1 fun (b:Nat)↦b) (List.map (Value.int IntKind.i64) (fR l (x-1)))) (some 1)∧AObj.sc 2 (AObj.rw (List.map (Value.int IntKind.i64) (fR l (x-1))) (some 1))=true)∧True)∧Ob (Value.slice (some (ad0 0)) l.length c=Value.slice (some (ad0 0)) l.length c)∧Ob ((↑(0:Nat):Int)=(↑(0:Nat):Int))∧Ob (Value.slice (some ⟨1,0,some 0⟩) x 0=Value.slice (some ⟨1,0,some 0⟩) x 0)∧Ob ((x:Int)=(x:Int))∧Ob (nwF (fR l (x-1)) l x x_1=nwF (fR l (x-1)) l x y)∧Ob (IntKind.i64.wrap ((x_1:Int)+(1:Int))=(y:Int))∧True)∧(decide (getI (List.map (Value.int IntKind.i64) (fR l (x-1))) (0+(IntKind.i64.wrap ((x:Int)-getI (List.map (Value.int IntKind.i64) l) (0+(x_1:Int).toNat * 1))).toNat * 1)<(0:Int))=false→Ob ((0:Int)≤(x_1:Int)∧(x_1:Int)<(l.length:Int)∧true=true)∧Ob (IntAt IntKind.i64 (List.map (Value.int IntKind.i64) l) (0+(x_1:Int).toNat * 1))∧Ob ((0:Int)≤IntKind.i64.wrap ((x:Int)-getI (List.map (Value.int IntKind.i64) l) (0+(x_1:Int).toNat * 1))∧IntKind.i64.wrap ((x:Int)-getI (List.map (Value.int IntKind.i64) l) (0+(x_1:Int).toNat * 1))<(x:Int)∧true=true)∧Ob (IntAt IntKind.i64 (List.map (Value.int IntKind.i64) (fR l (x-1))) (0+(IntKind.i64.wrap ((x:Int)-getI (List.map (Value.int IntKind.i64) l) (0+(x_1:Int).toNat * 1))).toNat * 1))∧(decide (nwF (fR l (x-1)) l x x_1<(0:Int))=false→(decide (IntKind.i64.wrap (getI (List.map (Value.int IntKind.i64) (fR l (x-1))) (0+(IntKind.i64.wrap ((x:Int)-getI (List.map (Value.int IntKind.i64) l) (0+(x_1:Int).toNat * 1))).toNat * 1)+(1:Int))<nwF (fR l (x-1)) l x x_1)=true→∃ (y:Nat),Ob (y≤l.length)∧Ob (l.length-y<l.length-x_1)∧(Ob (AObj.ro (List.map (Value.int IntKind.i64) l)=AObj.ro (List.map (nmap1 fun (b:Nat)↦b) (List.map (Value.int IntKind.i64) l))∧AObj.sc 2 (AObj.ro (List.map (Value.int IntKind.i64) l))=true)∧Ob (AObj.rw (List.map (Value.int IntKind.i64) (fR l (x-1))) (some 1)=AObj.rw (List.map (nmap1 fun (b:Nat)↦b) (List.map (Value.int IntKind.i64) (fR l (x-1)))) (some 1)∧AObj.sc 2 (AObj.rw (List.map (Value.int IntKind.i64) (fR l (x-1))) (some 1))=true)∧True)∧Ob (Value.slice (some (ad0 0)) l.length c=Value.slice (some (ad0 0)) l.length c)∧Ob ((↑(0:Nat):Int)=(↑(0:Nat):Int))∧Ob (Value.slice (some ⟨1,0,some 0⟩) x 0=Value.slice (some ⟨1,0,some 0⟩) x 0)∧Ob ((x:Int)=(x:Int))∧Ob (IntKind.i64.wrap (getI (List.map (Value.int IntKind.i64) (fR l (x-1))) (0+(IntKind.i64.wrap ((x:Int)-getI (List.map (Value.int IntKind.i64) l) (0+(x_1:Int).toNat * 1))).toNat * 1)+(1:Int))=nwF (fR l (x-1)) l x y)∧Ob (IntKind.i64.wrap ((x_1:Int)+(1:Int))=(y:Int))∧True)∧(decide (IntKind.i64.wrap (getI (List.map (Value.int IntKind.i64) (fR l (x-1))) (0+(IntKind.i64.wrap ((x:Int)-getI (List.map (Value.int IntKind.i64) l) (0+(x_1:Int).toNat * 1))).toNat * 1)+(1:Int))<nwF (fR l (x-1)) l x x_1)=false→∃ (y:Nat),Ob (y≤l.length)∧Ob (l.length-y<l.length-x_1)∧(Ob (AObj.ro (List.map (Value.int IntKind.i64) l)=AObj.ro (List.map (nmap1 fun (b:Nat)↦b) (List.map (Value.int IntKind.i64) l))∧AObj.sc 2 (AObj.ro (List.map (Value.int IntKind.i64) l))=true)∧Ob (AObj.rw (List.map (Value.int IntKind.i64) (fR l (x-1))) (some 1)=AObj.rw (List.map (nmap1 fun (b:Nat)↦b) (List.map (Value.int IntKind.i64) (fR l (x-1)))) (some 1)∧AObj.sc 2 (AObj.rw (List.map (Value.int IntKind.i64) (fR l (x-1))) (some 1))=true)∧True)∧Ob (Value.slice (some (ad0 0)) l.length c=Value.slice (some (ad0 0)) l.length c)∧Ob ((↑(0:Nat):Int)=(↑(0:Nat):Int))∧Ob (Value.slice (some ⟨1,0,some 0⟩) x 0=Value.slice (some ⟨1,0,some 0⟩) x 0)∧Ob ((x:Int)=(x:Int))∧Ob (nwF (fR l (x-1)) l x x_1=nwF (fR l (x-1)) l x y)∧Ob (IntKind.i64.wrap ((x_1:Int)+(1:Int))=(y:Int))∧True))∧(decide (nwF (fR l (x-1)) l x x_1<(0:Int))=true→∃ (y:Nat),Ob (y≤l.length)∧Ob (l.length-y<l.length-x_1)∧(Ob (AObj.ro (List.map (Value.int IntKind.i64) l)=AObj.ro (List.map (nmap1 fun (b:Nat)↦b) (List.map (Value.int IntKind.i64) l))∧AObj.sc 2 (AObj.ro (List.map (Value.int IntKind.i64) l))=true)∧Ob (AObj.rw (List.map (Value.int IntKind.i64) (fR l (x-1))) (some 1)=AObj.rw (List.map (nmap1 fun (b:Nat)↦b) (List.map (Value.int IntKind.i64) (fR l (x-1)))) (some 1)∧AObj.sc 2 (AObj.rw (List.map (Value.int IntKind.i64) (fR l (x-1))) (some 1))=true)∧True)∧Ob (Value.slice (some (ad0 0)) l.length c=Value.slice (some (ad0 0)) l.length c)∧Ob ((↑(0:Nat):Int)=(↑(0:Nat):Int))∧Ob (Value.slice (some ⟨1,0,some 0⟩) x 0=Value.slice (some ⟨1,0,some 0⟩) x 0)∧Ob ((x:Int)=(x:Int))∧Ob (IntKind.i64.wrap (getI (List.map (Value.int IntKind.i64) (fR l (x-1))) (0+(IntKind.i64.wrap ((x:Int)-getI (List.map (Value.int IntKind.i64) l) (0+(x_1:Int).toNat * 1))).toNat * 1)+(1:Int))=nwF (fR l (x-1)) l x y)∧Ob (IntKind.i64.wrap ((x_1:Int)+(1:Int))=(y:Int))∧True)))∧(decide ((x:Int)<getI (List.map (Value.int IntKind.i64) l) (0+(x_1:Int).toNat * 1))=true→∃ (y:Nat),Ob (y≤l.length)∧Ob (l.length-y<l.length-x_1)∧(Ob (AObj.ro (List.map (Value.int IntKind.i64) l)=AObj.ro (List.map (nmap1 fun (b:Nat)↦b) (List.map (Value.int IntKind.i64) l))∧AObj.sc 2 (AObj.ro (List.map (Value.int IntKind.i64) l))=true)∧Ob (AObj.rw (List.map (Value.int IntKind.i64) (fR l (x-1))) (some 1)=AObj.rw (List.map (nmap1 fun (b:Nat)↦b) (List.map (Value.int IntKind.i64) (fR l (x-1)))) (some 1)∧AObj.sc 2 (AObj.rw (List.map (Value.int IntKind.i64) (fR l (x-1))) (some 1))=true)∧True)∧Ob (Value.slice (some (ad0 0)) l.length c=Value.slice (some (ad0 0)) l.length c)∧Ob ((↑(0:Nat):Int)=(↑(0:Nat):Int))∧Ob (Value.slice (some ⟨1,0,some 0⟩) x 0=Value.slice (some ⟨1,0,some 0⟩) x 0)∧Ob ((x:Int)=(x:Int))∧Ob (nwF (fR l (x-1)) l x x_1=nwF (fR l (x-1)) l x y)∧Ob (IntKind.i64.wrap ((x_1:Int)+(1:Int))=(y:Int))∧True))∧(decide ((x_1:Int)<(l.length:Int))=false→Ob (andP (some (0+1≤1∧true=true)) (x+1≤1099511627776∧(2 * (x+1)+256) * 8≤281474976710656∧1=1∧(List.map (Value.int IntKind.i64) (fR l (x-1))).length=x * 1))∧((∃ (y:Unit),Ob True∧Ob (1<2-x)∧(Ob (AObj.ro (List.map (Value.int IntKind.i64) l)=AObj.ro (List.map (nmap1 (nsub 1 3)) (List.map (Value.int IntKind.i64) l))∧AObj.sc 2 (AObj.ro (List.map (Value.int IntKind.i64) l))=true)∧Ob (AObj.rw (List.map (Value.int IntKind.i64) (fR l (x-1))++[vi (nwF (fR l (x-1)) l x x_1)]) (some 1)=AObj.rw [vi (0:Int)] none∧true=true)∧True)∧Ob (Value.slice (some (ad0 0)) l.length c=Value.slice (some (ad0 0)) l.length c)∧Ob ((↑(0:Nat):Int)=(↑(0:Nat):Int))∧Ob (Value.slice (some ⟨3,0,some 0⟩) (x+1) 0=Value.slice (some (ad0 3)) 1 1)∧Ob (IntKind.i64.wrap ((x:Int)+(1:Int))=(1:Int))∧True)∨∃ (y:Nat),Ob (2≤y∧y≤1)∧Ob (2-y<2-x)∧(Ob (AObj.ro (List.map (Value.int IntKind.i64) l)=AObj.ro (List.map (nmap1 (nsub 1 3)) (List.map (Value.int IntKind.i64) l))∧AObj.sc 2 (AObj.ro (List.map (Value.int IntKind.i64) l))=true)∧Ob (AObj.rw (List.map (Value.int IntKind.i64) (fR l (x-1))++[vi (nwF (fR l (x-1)) l x x_1)]) (some 1)=AObj.rw (List.map (nmap1 (nsub 1 3)) (List.map (Value.int IntKind.i64) (fR l (y-1)))) (some 1)∧AObj.sc 2 (AObj.rw (List.map (Value.int IntKind.i64) (fR l (y-1))) (some 1))=true)∧True)∧Ob (Value.slice (some (ad0 0)) l.length c=Value.slice (some (ad0 0)) l.length c)∧Ob ((↑(0:Nat):Int)=(↑(0:Nat):Int))∧Ob (Value.slice (some ⟨3,0,some 0⟩) (x+1) 0=Value.slice (some ⟨3,0,some 0⟩) y 0)∧Ob (IntKind.i64.wrap ((x:Int)+(1:Int))=(y:Int))∧True)))∧(decide ((x:Int)≤(↑(0:Nat):Int))=false→(Ob (AObj.ro (List.map (Value.int IntKind.i64) l)=AObj.ro (List.map (nmap1 (nsub 1 1)) (List.map (Value.int IntKind.i64) l))∧AObj.sc 2 (AObj.ro (List.map (Value.int IntKind.i64) l))=true)∧Ob (AObj.rw (List.map (Value.int IntKind.i64) (fR l (x-1))) (some 1)=AObj.rw [vi (0:Int)] none∧true=true)∧True)∧Ob (Value.slice (some ⟨1,0,some 0⟩) x 0=Value.slice (some (ad0 1)) 1 1)∧True)
theorem foZ_eq : foZ = fun (l : List Int) (c : Nat) => vc Try.prog {} 1 63 true (foI l c 0) foB [] (argFr 0 [.slice (some ⟨0,0,none⟩) l.length c,vi 0]) [ros l] (retR Try.prog Try.f70 1 (nsub 1 1) (.slice (some ⟨1,0,none⟩) 1 1) [ros l,.rw [vi 0] none]) := by kernel_rfl
theorem fR_len {l : List Int} : ∀ a,(fR l a).length = a + 1
 | 0 => rfl
 | a + 1 => by rw [fR,List.length_append,fR_len a]; rfl
theorem add_few {l : List Int} (hc : Coins l) {k : Nat} (hk : k < l.length) {y : Nat} (hy : y + (l.getD k 0).toNat≤9999) (h : canB l y = true) : m5 (bF l (y + (l.getD k 0).toNat))≤m5 (bF l y) + 1 := by
 have hr := coin_rng hc hk
 obtain ⟨p,q⟩ := ((best_is hc y (by omega)).1 h).1
 have := ((best_is hc _ hy).2 (up (bF l y) k 1) ⟨fun j hj => by
   have := p j hj
   unfold up
   split <;> omega,by rw [dot_up,q,if_pos hk]; omega⟩).2
 rw [pf_up,if_pos hk,← best_m5 hc (by omega) h] at this
 exact this
theorem sub_few {l : List Int} (hc : Coins l) {x : Nat} (hx : 0 < x) (hx9 : x≤9999) (h : canB l x = true) : ∃ k,k < l.length∧(l.getD k 0).toNat≤x∧canB l (x - (l.getD k 0).toNat) = true∧m5 (bF l (x - (l.getD k 0).toNat)) + 1≤m5 (bF l x) := by
 obtain ⟨p,q⟩ := ((best_is hc x hx9).1 h).1
 obtain ⟨k,hk,hp⟩ := dot_pos (l := l) l.length (fun j hj => ⟨by have := coin_rng hc hj; omega,p j hj⟩) (by rw [q]; omega)
 have hr := coin_rng hc hk
 have hz : isCh l (x - l.getD k 0) (up (bF l x) k (-1)) := ⟨fun j hj => by
   have := p j hj
   unfold up
   split
   · rename_i e
     rw [e]; omega
   · omega,by rw [dot_up,q,if_pos hk]; omega⟩
 have h0 := dot_nonneg (l := l) l.length (fun j hj => ⟨by have := coin_rng hc hj; omega,hz.1 j hj⟩)
 rw [hz.2] at h0
 have e : ((x - (l.getD k 0).toNat : Nat) : Int) = x - l.getD k 0 := by omega
 have hb := (best_is hc (x - (l.getD k 0).toNat) (by omega)).2 (up (bF l x) k (-1)) (by rw [e]; exact hz)
 rw [pf_up,if_pos hk,← best_m5 hc hx9 h] at hb
 exact ⟨k,hk,by omega,hb.1,by omega⟩
def fvA (l : List Int) (b : Nat) : Int := if canB l b = true then m5 (bF l b) else -1
theorem m5_pos {l : List Int} (hc : Coins l) {b : Nat} (hb : b≤9999) (h : canB l b = true) : 0≤m5 (bF l b) := by
 rw [best_m5 hc hb h]
 obtain ⟨p,_⟩ := ((best_is hc b hb).1 h).1
 have : ∀ n,n≤l.length→0≤pf (bF l b) n := fun n => by
   induction n with
   | zero => intro _; exact Int.le_refl _
   | succ n ih =>
     intro hn
     have := ih (by omega)
     have := p n (by omega)
     rw [pf]; omega
 exact this _ (Nat.le_refl _)
theorem nw_val {l r : List Int} (hc : Coins l) {a : Nat} (ha9 : a≤9999) (h : ∀ b,b < a→r.getD b 0 = fvA l b) : ∀ i,i≤l.length →
   (nwF r l a i = -1∧∀ k,k < i→(l.getD k 0).toNat≤a→canB l (a - (l.getD k 0).toNat) = false) ∨
   ((∃ k,k < i∧(l.getD k 0).toNat≤a∧canB l (a - (l.getD k 0).toNat) = true∧nwF r l a i = m5 (bF l (a - (l.getD k 0).toNat)) + 1)∧∀ k,k < i→(l.getD k 0).toNat≤a→canB l (a - (l.getD k 0).toNat) = true→nwF r l a i≤m5 (bF l (a - (l.getD k 0).toNat)) + 1)
 | 0,_ => .inl ⟨rfl,fun k hk => by omega⟩
 | i + 1,hi => by
   have cr := coin_rng hc (j := i) (by omega)
   have ih := nw_val hc ha9 h i (by omega)
   have ext : ∀ {P : Nat→Prop},(∀ k,k < i→P k)→P i→∀ k,k < i + 1→P k := fun h1 h2 k hk => by
     by_cases e : k = i
     · rw [e]; exact h2
     · exact h1 k (by omega)
   rw [nwF]
   by_cases h1 : l.getD i 0 > a
   · rw [if_pos h1]
     rcases ih with ⟨i1,i2⟩ | ⟨⟨k,k1,k2⟩,i2⟩
     · exact .inl ⟨i1,ext i2 fun h2 => by omega⟩
     · exact .inr ⟨⟨k,by omega,k2⟩,ext i2 fun h2 => by omega⟩
   · have e : ((a : Int) - l.getD i 0).toNat = a - (l.getD i 0).toNat := by omega
     rw [if_neg h1,e,h _ (by omega)]
     unfold fvA
     cases hb : canB l (a - (l.getD i 0).toNat) with
     | false =>
       rw [if_neg Bool.false_ne_true,if_pos (by decide)]
       rcases ih with ⟨i1,i2⟩ | ⟨⟨k,k1,k2⟩,i2⟩
       · exact .inl ⟨i1,ext i2 fun _ => hb⟩
       · exact .inr ⟨⟨k,by omega,k2⟩,ext i2 fun _ h2 => by rw [hb] at h2; cases h2⟩
     | true =>
       have hp := m5_pos hc (b := a - (l.getD i 0).toNat) (by omega) hb
       rw [if_pos rfl,if_neg (by omega)]
       rcases ih with ⟨i1,i2⟩ | ⟨⟨k,k1,k2,k3,k4⟩,i2⟩
       · rw [i1,if_pos (by decide)]
         exact .inr ⟨⟨i,by omega,by omega,hb,rfl⟩,ext (fun k hk h2 h3 => by rw [i2 k hk h2] at h3; cases h3) fun _ _ => Int.le_refl _⟩
       · have hq := m5_pos hc (b := a - (l.getD k 0).toNat) (by omega) k3
         rw [if_neg (show ¬ nwF r l a i < 0 by omega)]
         by_cases h5 : m5 (bF l (a - (l.getD i 0).toNat)) + 1 < nwF r l a i
         · rw [if_pos h5]
           exact .inr ⟨⟨i,by omega,by omega,hb,rfl⟩,ext (fun k hk h2 h3 => by have := i2 k hk h2 h3; omega) fun _ _ => Int.le_refl _⟩
         · rw [if_neg h5]
           exact .inr ⟨⟨k,by omega,k2,k3,k4⟩,ext i2 fun _ _ => by omega⟩
theorem nw_few {l r : List Int} (hc : Coins l) {a : Nat} (ha : 0 < a) (ha9 : a≤9999) (h : ∀ b,b < a→r.getD b 0 = fvA l b) : nwF r l a l.length = fvA l a := by
 unfold fvA
 rcases nw_val hc ha9 h l.length (Nat.le_refl _) with ⟨i1,i2⟩ | ⟨⟨k,k1,k2,k3,k4⟩,i2⟩
 · cases hb : canB l a with
   | false => rw [i1,if_neg Bool.false_ne_true]
   | true =>
     obtain ⟨k,k1,k2,k3⟩ := sub_coin hc ha ha9 hb
     rw [i2 k k1 k2] at k3; cases k3
 · have h1 := add_coin hc k1 (y := a - (l.getD k 0).toNat) (by omega) k3
   have h2 := add_few hc k1 (y := a - (l.getD k 0).toNat) (by omega) k3
   rw [show a - (l.getD k 0).toNat + (l.getD k 0).toNat = a by omega] at h1 h2
   obtain ⟨j,j1,j2,j3,j4⟩ := sub_few hc ha ha9 h1
   have := i2 j j1 j2 j3
   rw [if_pos h1]; omega
theorem fR_get {l : List Int} (hc : Coins l) : ∀ a,a≤9999→∀ b,b < a + 1→(fR l a).getD b 0 = fvA l b
 | 0,_,b,hb => by
   obtain rfl : b = 0 := by omega
   have h00 : canB l 0 = true := rfl
   have hz := (best_is hc 0 (by omega)).2 (fun _ => 0) ⟨fun _ _ => Int.le_refl _,by
     have : ∀ n,dotF l (fun _ => 0) n = 0 := fun n => by
       induction n with
       | zero => rfl
       | succ n ih => rw [dotF,ih]; simp
     exact this _⟩
   have hpz : ∀ n,pf (fun _ => (0 : Int)) n = 0 := fun n => by
     induction n with
     | zero => rfl
     | succ n ih => rw [pf,ih]; rfl
   rw [hpz] at hz
   have := m5_pos hc (b := 0) (by omega) h00
   unfold fvA
   rw [if_pos h00]
   show (0 : Int) = _
   omega
 | a + 1,ha,b,hb => by
   rw [fR,List.getD_eq_getElem?_getD]
   by_cases e : b < a + 1
   · rw [List.getElem?_append_left (by rw [fR_len]; omega),← List.getD_eq_getElem?_getD]
     exact fR_get hc a (by omega) b e
   · obtain rfl : b = a + 1 := by omega
     rw [List.getElem?_append_right (by rw [fR_len]; omega),fR_len,Nat.sub_self]
     exact nw_few hc (by omega) ha fun b hb => fR_get hc a (by omega) b hb
theorem fvA_bd {l : List Int} (hc : Coins l) {b : Nat} (hb : b≤300) : -1≤fvA l b∧fvA l b≤300 := by
 have h := few_bd hc (a := (b : Int)) (by omega)
 have h2 := few_val hc (a := (b : Int)) (by omega)
 rw [Int.toNat_natCast] at h2
 unfold fvA
 cases hx : canB l b with
 | false => rw [if_neg Bool.false_ne_true]; omega
 | true => rw [hx,if_pos rfl] at h2; rw [if_pos rfl]; omega
theorem foZ_ok (l : List Int) (c : Nat) : foZ l c := by
 unfold foZ
 simp only [SS,reduceCtorEq,Arg.list,Arg.num,Arg.flag,intOf,andP,Nat.reduceLeDiff,Nat.reduceAdd,Nat.reduceMul,Nat.reduceLT,nm_sl,uS]
 exact ⟨rfl,fun x hx => by omega⟩
theorem foV_ok (l : List Int) (c am : Nat) (hc : Coins l) (ha : 1≤am) (ha2 : am≤300) : foV l c am := by
 unfold foV
 simp only [SS,reduceCtorEq,Arg.list,Arg.num,Arg.flag,intOf,andP,Nat.reduceLeDiff,Nat.reduceAdd,Nat.reduceMul,Nat.reduceLT,nm_sl,uS]
 have hp := hc.pos
 have hfew := hc.few
 have cr : ∀ j,j < l.length→1≤l.getD j 0∧l.getD j 0≤50 := fun j hj => coin_rng hc hj
 refine ⟨⟨fun _ => ⟨⟨0,by omega,rfl,rfl,rfl⟩,fun x hx => ⟨fun h => ⟨by omega,by omega,fun h1 => ?_,fun h1 => ⟨x + 1,by omega,by omega,by rw [nwF,if_pos h1],wrap_succ (n := 100) (by omega) (by omega)⟩⟩,fun h => ⟨2,by omega,by omega,?_,rfl,by rw [wrap_in (by omega) (by omega)]; rfl⟩⟩⟩,fun h => h (by omega)⟩,fun x hx => ⟨fun h5 => ⟨⟨0,by omega,rfl,rfl⟩,fun i hi => ⟨fun h => ⟨by omega,by omega,fun h1 => ?_,fun h1 => ⟨i + 1,by omega,by omega,by rw [nwF,if_pos h1],wrap_succ (n := 100) (by omega) (by omega)⟩⟩,fun h => ⟨by rw [fR_len]; omega,x + 1,by omega,by omega,?_,rfl,wrap_succ (n := 9999) (by omega) (by omega)⟩⟩⟩,fun h5 => ⟨by rw [show x - 1 = am by omega],by omega⟩⟩⟩
 · have c1 := cr x (by omega)
   have e : l.getD x 0 = 1 := by omega
   have w0 : IntKind.i64.wrap (((1 : Nat) : Int) - l.getD x 0) = 0 := by rw [e,wrap_in (by omega) (by omega)]; rfl
   have w1 : IntKind.i64.wrap (getI [vi 0] (Int.toNat 0) + 1) = 1 := by
     show IntKind.i64.wrap ((0 : Int) + 1) = 1
     rw [wrap_in (by omega) (by omega)]; rfl
   have ws : IntKind.i64.wrap ((x : Int) + 1) = ((x + 1 : Nat) : Int) := wrap_succ (n := 100) (by omega) (by omega)
   have nx : nwF [0] l 1 (x + 1) = if nwF [0] l 1 x < 0 then 1 else if 1 < nwF [0] l 1 x then 1 else nwF [0] l 1 x := by
     rw [nwF,if_neg h1,e]; rfl
   rw [w0,w1]
   refine ⟨by omega,by omega,by omega,rfl,fun h2 => absurd h2 (by show ¬ (0 : Int) < 0; omega),fun _ => ⟨by omega,by omega,by omega,rfl,fun h3 => ⟨fun h4 => ⟨x + 1,by omega,by omega,by rw [nx,if_neg h3,if_pos h4],ws⟩,fun h4 => ⟨x + 1,by omega,by omega,by rw [nx,if_neg h3,if_neg h4],ws⟩⟩,fun h3 => ⟨x + 1,by omega,by omega,by rw [nx,if_pos h3],ws⟩⟩⟩
 · rw [show x = l.length by omega]; rfl
 · have c1 := cr i (by omega)
   have w0 : IntKind.i64.wrap ((x : Int) - l.getD i 0) = (x : Int) - l.getD i 0 := wrap_in (by omega) (by omega)
   have hv := fvA_bd hc (b := ((x : Int) - l.getD i 0).toNat) (by omega)
   rw [← fR_get hc (x - 1) (by omega) _ (by omega)] at hv
   have w1 : IntKind.i64.wrap ((fR l (x - 1)).getD ((x : Int) - l.getD i 0).toNat 0 + 1) = (fR l (x - 1)).getD ((x : Int) - l.getD i 0).toNat 0 + 1 := wrap_in (by omega) (by omega)
   have ws : IntKind.i64.wrap ((i : Int) + 1) = ((i + 1 : Nat) : Int) := wrap_succ (n := 100) (by omega) (by omega)
   have hlt : ((x : Int) - l.getD i 0).toNat < (fR l (x - 1)).length := by rw [fR_len]; omega
   rw [w0,w1]
   exact ⟨by omega,by omega,by omega,hlt,fun h2 => ⟨i + 1,by omega,by omega,by rw [nwF,if_neg h1,if_pos h2],ws⟩,fun h2 => ⟨by omega,by omega,by omega,hlt,fun h3 => ⟨fun h4 => ⟨i + 1,by omega,by omega,by rw [nwF,if_neg h1,if_neg h2,if_neg h3,if_pos h4],ws⟩,fun h4 => ⟨i + 1,by omega,by omega,by rw [nwF,if_neg h1,if_neg h2,if_neg h3,if_neg h4],ws⟩⟩,fun h3 => ⟨i + 1,by omega,by omega,by rw [nwF,if_neg h1,if_neg h2,if_pos h3],ws⟩⟩⟩
 · obtain ⟨a,rfl⟩ : ∃ a,x = a + 1 := ⟨x - 1,by omega⟩
   simp only [Nat.add_sub_cancel]
   rw [show i = l.length by omega]; rfl
theorem fo_call (l : List Int) (c am : Nat) (hc : Coins l) (ha : 1≤am) (ha2 : am≤300) : Call Try.prog 70 [.slice (some ⟨0,0,none⟩) l.length c,vi am] [ros l] fun v H' => v = uS 1 (am + 1)∧H' = [ros l] ++ [rws (fR l am)] :=
 Call.ofVcR (E := {}) (H := [ros l]) (args := [.slice (some ⟨0,0,none⟩) l.length c,vi am]) (σ := nsub 1 1) (v2 := uS 1 (am + 1)) (H2 := [ros l,rws (fR l am)]) E0_ok mixed (c := foB) (inv := foI l c am) Try.func70 (by kernel_rfl) (cast (congrFun (congrFun (congrFun foV_eq l) c) am) (foV_ok l c am hc ha ha2))
theorem foz_call (l : List Int) (c : Nat) : Call Try.prog 70 [.slice (some ⟨0,0,none⟩) l.length c,vi 0] [ros l] fun v H' => v = .slice (some ⟨1,0,none⟩) 1 1∧H' = [ros l] ++ [.rw [vi 0] none] :=
 Call.ofVcR (E := {}) (H := [ros l]) (args := [.slice (some ⟨0,0,none⟩) l.length c,vi 0]) (σ := nsub 1 1) (v2 := .slice (some ⟨1,0,none⟩) 1 1) (H2 := [ros l,.rw [vi 0] none]) E0_ok mixed (c := foB) (inv := foI l c 0) Try.func70 (by kernel_rfl) (cast (congrFun (congrFun foZ_eq l) c) (foZ_ok l c))
end Go.Pier.Fl
namespace Go.Pier.Fl
open Go Go.Pier Go.Proofs
theorem gr_up {l : List Int} {a : Int} {d : Nat} (h0 : (grF l a d).1 (l.length - 1 - d) = 0) : (grF l a (d + 1)).1 = up (grF l a d).1 (l.length - 1 - d) ((grF l a d).2.tdiv (l.getD (l.length - 1 - d) 0)) := by
 funext k
 show (bif Nat.beq k (l.length - 1 - d) then _ else (grF l a d).1 k) = if k = l.length - 1 - d then (grF l a d).1 k + _ else (grF l a d).1 k
 by_cases e : k = l.length - 1 - d
 · rw [if_pos e,e,Nat.beq_refl,h0,Int.zero_add]; rfl
 · rw [if_neg e]
   cases hb : Nat.beq k (l.length - 1 - d) with
   | true => exact absurd (Nat.eq_of_beq_eq_true hb) e
   | false => rfl
theorem gr_all {l : List Int} {a : Int} (hc : Coins l) (ha : 0≤a) : ∀ d,d≤l.length→(∀ k,k < l.length - d→(grF l a d).1 k = 0)∧(∀ k,l.length≤k→(grF l a d).1 k = 0)∧dotF l (grF l a d).1 l.length + (grF l a d).2 = a
 | 0,_ => ⟨fun _ _ => rfl,fun _ _ => rfl,by
   have z : ∀ n,dotF l (grF l a 0).1 n = 0 := by
     intro n
     induction n with
     | zero => rfl
     | succ n ih => rw [dotF,ih]; show 0 + l.getD n 0 * 0 = 0; simp
   rw [z]; show 0 + a = a; omega⟩
 | d + 1,h => by
   obtain ⟨i1,i2,i3⟩ := gr_all hc ha d (by omega)
   have hv := coin_rng hc (j := l.length - 1 - d) (by omega)
   have hb := (gr_bd hc ha d (by omega)).1
   rw [gr_up (i1 _ (by omega))]
   refine ⟨fun k hk => by rw [up_else (by omega)]; exact i1 k (by omega),fun k hk => by rw [up_else (by omega)]; exact i2 k hk,?_⟩
   rw [dot_up,if_pos (by omega)]
   have e : (grF l a (d + 1)).2 = (grF l a d).2.tmod (l.getD (l.length - 1 - d) 0) := rfl
   have := Int.mul_tdiv_add_tmod (grF l a d).2 (l.getD (l.length - 1 - d) 0)
   rw [e]; omega
theorem gr_rest {l : List Int} {a : Int} (hc : Coins l) (ha : 0≤a) : 0≤(grF l a l.length).2∧(grF l a l.length).2 < l.getD 0 0 := by
 have hp := hc.pos
 obtain ⟨n,hn⟩ : ∃ n,l.length = n + 1 := ⟨l.length - 1,by omega⟩
 have hv := coin_rng hc (j := 0) (by omega)
 have hb := (gr_bd hc ha n (by omega)).1
 have e : (grF l a l.length).2 = (grF l a n).2.tmod (l.getD 0 0) := by
   rw [hn]
   show (grF l a n).2.tmod (l.getD (l.length - 1 - n) 0) = _
   rw [show l.length - 1 - n = 0 by omega]
 have := div_bd hb.1 hv.1
 rw [e]; omega
theorem gr_m5 {l : List Int} {a : Int} (hc : Coins l) (ha : 0≤a) : m5 (grF l a l.length).1 = pf (grF l a l.length).1 l.length := by
 have hf := hc.few
 have h := pf_tail (y := (grF l a l.length).1) (n := l.length) (5 - l.length) fun k h1 _ => (gr_all hc ha l.length (Nat.le_refl _)).2.1 k h1
 rw [show l.length + (5 - l.length) = 5 by omega,pf_m5] at h
 exact h
theorem gr_last {l : List Int} {a : Int} (hc : Coins l) (ha : lastF l≤a) : ∀ d,d + 1≤l.length→(grF l a (d + 1)).2 = (grF l (a - lastF l) (d + 1)).2∧(grF l a (d + 1)).1 = up (grF l (a - lastF l) (d + 1)).1 (l.length - 1) 1
 | 0,h => by
   have hv := last_rng hc
   have e1 : a.tdiv (lastF l) = (a - lastF l).tdiv (lastF l) + 1 := by
     rw [Int.tdiv_eq_ediv_of_nonneg (by omega),Int.tdiv_eq_ediv_of_nonneg (by omega)]
     have : a = (a - lastF l) + lastF l * 1 := by omega
     conv => lhs; rw [this,Int.add_mul_ediv_left _ _ (by omega)]
   have e2 : a.tmod (lastF l) = (a - lastF l).tmod (lastF l) := by
     rw [Int.tmod_eq_emod_of_nonneg (by omega),Int.tmod_eq_emod_of_nonneg (by omega)]
     exact (Int.sub_emod_right a (lastF l)).symm
   refine ⟨e2,?_⟩
   funext k
   show (bif Nat.beq k (l.length - 1 - 0) then a.tdiv (lastF l) else (0 : Int)) = if k = l.length - 1 then (bif Nat.beq k (l.length - 1 - 0) then (a - lastF l).tdiv (lastF l) else (0 : Int)) + 1 else (bif Nat.beq k (l.length - 1 - 0) then (a - lastF l).tdiv (lastF l) else (0 : Int))
   rw [e1,Nat.sub_zero]
   by_cases e : k = l.length - 1
   · rw [if_pos e,e,Nat.beq_refl]; rfl
   · rw [if_neg e]
     cases hb : Nat.beq k (l.length - 1) with
     | true => exact absurd (Nat.eq_of_beq_eq_true hb) e
     | false => rfl
 | d + 1,h => by
   obtain ⟨i1,i2⟩ := gr_last hc ha d (by omega)
   constructor
   · show (grF l a (d + 1)).2.tmod _ = (grF l (a - lastF l) (d + 1)).2.tmod _
     rw [i1]
   · funext k
     show (bif Nat.beq k (l.length - 1 - (d + 1)) then (grF l a (d + 1)).2.tdiv _ else (grF l a (d + 1)).1 k) = if k = l.length - 1 then (bif Nat.beq k (l.length - 1 - (d + 1)) then (grF l (a - lastF l) (d + 1)).2.tdiv _ else (grF l (a - lastF l) (d + 1)).1 k) + 1 else (bif Nat.beq k (l.length - 1 - (d + 1)) then (grF l (a - lastF l) (d + 1)).2.tdiv _ else (grF l (a - lastF l) (d + 1)).1 k)
     rw [i1,i2]
     cases hb : Nat.beq k (l.length - 1 - (d + 1)) with
     | true =>
       have := Nat.eq_of_beq_eq_true hb
       rw [if_neg (by omega)]; rfl
     | false => rfl
theorem gr_one {l : List Int} {a : Int} (hc : Coins l) (ha : lastF l≤a) : m5 (grF l a l.length).1 = m5 (grF l (a - lastF l) l.length).1 + 1 := by
 have hp := hc.pos
 have hv := last_rng hc
 have h := (gr_last hc ha (l.length - 1) (by omega)).2
 rw [show l.length - 1 + 1 = l.length by omega] at h
 rw [gr_m5 hc (by omega),gr_m5 hc (by omega),h,pf_up,if_pos (by omega)]
theorem gr_le {l : List Int} (hc : Coins l) {x : Nat} (hx : x≤9999) (h : (grF l x l.length).2 = 0) : canB l x = true∧m5 (bF l x)≤m5 (grF l x l.length).1 := by
 have hf := hc.few
 obtain ⟨_,_,g3⟩ := gr_all hc (a := (x : Int)) (by omega) l.length (Nat.le_refl _)
 rw [gr_m5 hc (by omega)]
 exact (best_is hc x hx).2 _ ⟨fun k hk => ((gr_bd hc (a := (x : Int)) (by omega) l.length (Nat.le_refl _)).2 k (by omega)).1,by omega⟩
theorem m_add {l : List Int} (hc : Coins l) {y k : Nat} (hk : k < l.length) (hy : y + (l.getD k 0).toNat≤9999) (h : canB l y = true) : m5 (bF l (y + (l.getD k 0).toNat))≤m5 (bF l y) + 1 := by
 have hr := coin_rng hc hk
 obtain ⟨p,q⟩ := ((best_is hc y (by omega)).1 h).1
 have := ((best_is hc _ hy).2 (up (bF l y) k 1) ⟨fun j hj => by
   have := p j hj
   unfold up
   split <;> omega,by rw [dot_up,q,if_pos hk]; omega⟩).2
 rw [pf_up,if_pos hk,← best_m5 hc (by omega) h] at this
 exact this
theorem m_sub {l : List Int} (hc : Coins l) {x : Nat} (hx0 : 0 < x) (hx : x≤9999) (h : canB l x = true) : ∃ k,k < l.length∧0 < bF l x k∧(l.getD k 0).toNat≤x∧canB l (x - (l.getD k 0).toNat) = true∧m5 (bF l (x - (l.getD k 0).toNat)) + 1≤m5 (bF l x) := by
 obtain ⟨p,q⟩ := ((best_is hc x hx).1 h).1
 obtain ⟨k,hk,hp⟩ := dot_pos (l := l) l.length (fun j hj => ⟨by have := coin_rng hc hj; omega,p j hj⟩) (by rw [q]; omega)
 have hr := coin_rng hc hk
 have hz : isCh l (x - l.getD k 0) (up (bF l x) k (-1)) := ⟨fun j hj => by
   have := p j hj
   unfold up
   split
   · rename_i e
     rw [e]; omega
   · omega,by rw [dot_up,q,if_pos hk]; omega⟩
 have h0 := dot_nonneg (l := l) l.length (fun j hj => ⟨by have := coin_rng hc hj; omega,hz.1 j hj⟩)
 rw [hz.2] at h0
 have e : ((x - (l.getD k 0).toNat : Nat) : Int) = x - l.getD k 0 := by omega
 have h2 := (best_is hc (x - (l.getD k 0).toNat) (by omega)).2 (up (bF l x) k (-1)) (by rw [e]; exact hz)
 refine ⟨k,hk,hp,by omega,h2.1,?_⟩
 have h3 := h2.2
 rw [pf_up,if_pos hk,← best_m5 hc hx h] at h3
 omega
theorem ones {l : List Int} (hc : Coins l) (h1 : l.getD 0 0 = 1) {x : Nat} (hx : x≤9999) : (grF l x l.length).2 = 0∧canB l x = true∧m5 (bF l x)≤m5 (grF l x l.length).1 := by
 have hr := gr_rest hc (a := (x : Int)) (by omega)
 have h0 : (grF l x l.length).2 = 0 := by omega
 exact ⟨h0,gr_le hc hx h0⟩
def bdB1 (l : List Int) (x : Nat) : Bool := badF l x (bF l x)
theorem bad_iff {l : List Int} (hc : Coins l) (h1 : l.getD 0 0 = 1) {x : Nat} (hx : x≤9999) : bdB1 l x = false ↔ m5 (grF l x l.length).1 = m5 (bF l x) := by
 obtain ⟨a,_,b⟩ := ones hc h1 hx
 rw [bdB1,badF,a]
 constructor
 · intro h
   rw [Bool.or_eq_false_iff,decide_eq_false_iff_not,decide_eq_false_iff_not] at h
   omega
 · intro h
   rw [Bool.or_eq_false_iff,decide_eq_false_iff_not,decide_eq_false_iff_not]
   omega
theorem no_bad {l : List Int} (hc : Coins l) (h1 : l.getD 0 0 = 1) (hb : ∀ x : Nat,x≤9999→(1 < l.length→(x : Int) < l.getD (l.length - 1) 0 + l.getD (l.length - 2) 0)→x = 0∨1 < l.length→bdB1 l x = false) : ∀ x : Nat,x≤9999→bdB1 l x = false := by
 intro x
 induction x using Nat.strongRecOn with
 | _ x ih =>
   intro hx
   have hp := hc.pos
   have hv := last_rng hc
   by_cases h0 : x = 0
   · exact hb x hx (fun g => by
       have := coin_rng hc (j := l.length - 1) (by omega)
       have := coin_rng hc (j := l.length - 2) (by omega)
       omega) (.inl h0)
   · obtain ⟨o1,o2,o3⟩ := ones hc h1 hx
     rw [bad_iff hc h1 hx]
     obtain ⟨k,hk,k0,k1,k2,k3⟩ := m_sub hc (by omega) hx o2
     have hck := coin_rng hc hk
     have i1 := (bad_iff hc h1 (by omega)).1 (ih (x - (l.getD k 0).toNat) (by omega) (by omega))
     by_cases e : k = l.length - 1
     · have el : l.getD k 0 = lastF l := by rw [e]; rfl
       have g := gr_one hc (a := (x : Int)) (by omega)
       rw [show (x : Int) - lastF l = ((x - (l.getD k 0).toNat : Nat) : Int) by omega,i1] at g
       omega
     · by_cases hS : (x : Int) < l.getD (l.length - 1) 0 + l.getD (l.length - 2) 0
       · exact (bad_iff hc h1 hx).1 (hb x hx (fun _ => hS) (.inr (by omega)))
       · have hk2 : l.getD k 0 ≤ l.getD (l.length - 2) 0 := by
           have := coin_le hc (l.length - 2 - k) k (by omega)
           rwa [show k + (l.length - 2 - k) = l.length - 2 by omega] at this
         have el : l.getD (l.length - 1) 0 = lastF l := rfl
         have g1 := gr_one hc (a := (x : Int)) (by omega)
         have g2 := gr_one hc (a := ((x - (l.getD k 0).toNat : Nat) : Int)) (by omega)
         have j1 := (bad_iff hc h1 (by omega)).1 (ih (x - (lastF l).toNat) (by omega) (by omega))
         have j2 := (bad_iff hc h1 (by omega)).1 (ih (x - (l.getD k 0).toNat - (lastF l).toNat) (by omega) (by omega))
         rw [show (x : Int) - lastF l = ((x - (lastF l).toNat : Nat) : Int) by omega,j1] at g1
         rw [show ((x - (l.getD k 0).toNat : Nat) : Int) - lastF l = ((x - (l.getD k 0).toNat - (lastF l).toNat : Nat) : Int) by omega,j2] at g2
         have a := m_add hc hk (y := x - (l.getD k 0).toNat - (lastF l).toNat) (by omega) (ones hc h1 (by omega)).2.1
         rw [show x - (l.getD k 0).toNat - (lastF l).toNat + (l.getD k 0).toNat = x - (lastF l).toNat by omega] at a
         omega
theorem cbd_0 {l : List Int} (hc : Coins l) (h1 : l.getD 0 0 = 1) {x : Nat} (hx : x≤300) : cbdE l (x : Int) = 0 ↔ bdB1 l x = true := by
 have h0 : errA l (x : Int) = 0 := errA_0.2 ⟨errC_ok.2 hc,by omega,by omega⟩
 have hN : errN l (x : Int) = 0 := errN_0 h0 (ones hc h1 (by omega)).2.1
 rw [cbdE,if_neg (fun h => h hN)]
 have e : badF l (x : Int) (bF l ((x : Int)).toNat) = bdB1 l x := rfl
 rw [e]
 cases bdB1 l x
 · exact ⟨fun h => (by cases h),fun h => (by cases h)⟩
 · exact ⟨fun _ => rfl,fun _ => rfl⟩
theorem bad_conv {l : List Int} (hc : Coins l) (h1 : l.getD 0 0 = 1) {x : Nat} (hx : x≤9999) : (canB l x && badF l x (bF l x)) = bdB1 l x := by rw [(ones hc h1 hx).2.1,Bool.true_and]; rfl
theorem lb_found {l : List Int} (hc : Coins l) (h1 : l.getD 0 0 = 1) {a : Nat} (ha : a < 101) (h : cbdE l (a : Int) = 0) (hn : ∀ b : Nat,b < a→cbdE l (b : Int) ≠ 0) : lbF l 101 0 = some a := by
 refine lb_at (by rw [bad_conv hc h1 (by omega)]; exact (cbd_0 hc h1 (by omega)).1 h) 101 0 (by omega) (by omega) fun b _ hb => ?_
 rw [bad_conv hc h1 (by omega)]
 cases hx : bdB1 l b with
 | false => rfl
 | true => exact absurd ((cbd_0 hc h1 (by omega)).2 hx) (hn b hb)
theorem lb_none {l : List Int} (hc : Coins l) (h1 : l.getD 0 0 = 1) (hn : ∀ b : Nat,b < 100→cbdE l (b : Int) ≠ 0) : lbF l 101 0 = none := by
 have hs : ∀ b : Nat,b < 100→bdB1 l b = false := fun b hb => by
   cases hx : bdB1 l b with
   | false => rfl
   | true => exact absurd ((cbd_0 hc h1 (by omega)).2 hx) (hn b hb)
 have hall := no_bad hc h1 fun x hx hS h0 => by
   refine hs x ?_
   rcases h0 with h0 | h0
   · omega
   · have := hS h0
     have := coin_rng hc (j := l.length - 1) (by omega)
     have := coin_rng hc (j := l.length - 2) (by omega)
     have h2 := hc.inc (l.length - 1) (by omega) (by omega)
     rw [show l.length - 1 - 1 = l.length - 2 by omega] at h2
     omega
 refine lb_no 101 0 fun b _ hb => ?_
 rw [bad_conv hc h1 (by omega)]
 exact hall b (by omega)
end Go.Pier.Fl
namespace Go.Pier.Fl
open Go Go.Pier Go.Proofs
def greL (l : List Int) (a : Int) : List Int := List.take l.length (L5 (grF l a l.length).1)
theorem gre_len {l : List Int} {a : Int} (h : l.length≤5) : (greL l a).length = l.length := tk_len h
theorem gre_gt {l : List Int} {a : Int} {k : Nat} (hk : k < l.length) (h5 : l.length≤5) : gt (greL l a) k = (grF l a l.length).1 k := by
 unfold gt greL
 rw [List.getD_eq_getElem?_getD,List.getElem?_take,if_pos hk]
 unfold L5
 rcases k with _ | _ | _ | _ | _ | k <;> first | rfl | omega
end Go.Pier.Fl
namespace Go.Pier.Fl
open Go Go.Pier Go.Proofs
noncomputable def raE : VEnv := { ct := Ct.none.add 23 (pureG [.ints .i64] ciS) }
noncomputable def raB : Code := Try.f69.body.getD .skip
noncomputable def raV :=
fun (l:List Int) (c:Nat) (a:Int)↦Ob ((List.take l.length (List.drop 0 (List.map (Value.int IntKind.i64) l))=List.map (Value.int IntKind.i64) (List.take l.length (List.drop 0 (intsOf (List.map (Value.int IntKind.i64) l))))∧0+l.length≤(List.map (Value.int IntKind.i64) l).length∧true=true)∧(List.take l.length (List.drop 0 (intsOf (List.map (Value.int IntKind.i64) l)))).length≤1000000)∧((errC (List.take l.length (List.drop 0 (intsOf (List.map (Value.int IntKind.i64) l)))) !=(0:Int))=true→Ob ((List.take l.length (List.drop 0 (List.map (Value.int IntKind.i64) l))=List.map (Value.int IntKind.i64) (List.take l.length (List.drop 0 (intsOf (List.map (Value.int IntKind.i64) l))))∧0+l.length≤(List.map (Value.int IntKind.i64) l).length∧true=true)∧(List.take l.length (List.drop 0 (intsOf (List.map (Value.int IntKind.i64) l)))).length≤1000000)∧True∧Ob (vi (errC (List.take l.length (List.drop 0 (intsOf (List.map (Value.int IntKind.i64) l)))))=vi (errA l a)))∧((errC (List.take l.length (List.drop 0 (intsOf (List.map (Value.int IntKind.i64) l)))) !=(0:Int))=false→(decide (a<(0:Int))=false→(decide ((300:Int)<a)=true→True∧Ob (vi (3:Int)=vi (errA l a)))∧(decide ((300:Int)<a)=false→True∧Ob (vi (0:Int)=vi (errA l a))))∧(decide (a<(0:Int))=true→True∧Ob (vi (3:Int)=vi (errA l a))))
theorem raV_eq : raV = fun (l : List Int) (c : Nat) (a : Int) => vc Try.prog raE 1 16 true (fun _ => none) raB [] (argFr 0 [.slice (some ⟨0,0,none⟩) l.length c,vi a]) [ros l] (retK Try.prog Try.f69 (fun v H => v = vi (errA l a))) := by kernel_rfl
noncomputable def raN :=
fun (a:Int)↦Ob True∧(true=true→Ob True∧True∧Ob (vi (6:Int)=vi (6:Int)))∧(true=false→(decide (a<(0:Int))=false→(decide ((300:Int)<a)=true→True∧Ob (vi (3:Int)=vi (6:Int)))∧(decide ((300:Int)<a)=false→True∧Ob (vi (0:Int)=vi (6:Int))))∧(decide (a<(0:Int))=true→True∧Ob (vi (3:Int)=vi (6:Int))))
theorem raN_eq : raN = fun (a : Int) => vc Try.prog raE 0 16 true (fun _ => none) raB [] (argFr 0 [.slice none 0 0,vi a]) [] (retK Try.prog Try.f69 (fun v H => v = vi 6)) := by kernel_rfl
noncomputable def raH :=
fun (s:Option Nat) (c:Nat) (a:Int)↦Ob True∧(true=true→Ob True∧True∧Ob (vi (6:Int)=vi (6:Int)))∧(true=false→(decide (a<(0:Int))=false→(decide ((300:Int)<a)=true→True∧Ob (vi (3:Int)=vi (6:Int)))∧(decide ((300:Int)<a)=false→True∧Ob (vi (0:Int)=vi (6:Int))))∧(decide (a<(0:Int))=true→True∧Ob (vi (3:Int)=vi (6:Int))))
theorem raH_eq : raH = fun (s : Option Nat) (c : Nat) (a : Int) => vc Try.prog raE 1 16 true (fun _ => none) raB [] (argFr 0 [.slice (some ⟨0,0,s⟩) 0 c,vi a]) [.gone] (retK Try.prog Try.f69 (fun v H => v = vi 6)) := by kernel_rfl
def raS (r : List Arg) : Prop × Value := match r with
 | [.ints _ l,.plain (.int .i64 a)] => (l.length≤1000000,vi (errA l a))
 | [_,.plain (.int .i64 _)] => (True,vi 6)
 | _ => (False,undef)
def foS (r : List Arg) : Option (Prop × Back) := match r with
 | [.ints _ l,.plain (.int .i64 a)] => some (Coins l∧1≤a∧a≤300,.list (fR l a.toNat))
 | _ => none
noncomputable def rwE : VEnv := { ct := (Ct.none.add 69 (pureG [.ints .i64,.int .i64] raS)).add 70 (newG [.ints .i64,.int .i64] foS) }
noncomputable def fzCt (l : List Int) (c : Nat) : List Value→Heap→Option (Option Prop × Value × Heap × List Nat) := fun args H => match args with
 | [.slice (some ⟨0,0,none⟩) n d,.int .i64 a] => some (some (H = [ros l]∧n = l.length∧d = c∧a = 0),.slice (some ⟨H.length,0,none⟩) 1 1,H ++ [.rw [vi 0] none],[])
 | _ => none
noncomputable def rwZE (l : List Int) (c : Nat) : VEnv := { ct := (Ct.none.add 69 (pureG [.ints .i64,.int .i64] raS)).add 70 (fzCt l c) }
noncomputable def rwB : Code := Try.f25.body.getD .skip
noncomputable def rwV :=
fun (l:List Int) (c:Nat) (a:Int)↦Ob ((List.take l.length (List.drop 0 (List.map (Value.int IntKind.i64) l))=List.map (Value.int IntKind.i64) (List.take l.length (List.drop 0 (intsOf (List.map (Value.int IntKind.i64) l))))∧0+l.length≤(List.map (Value.int IntKind.i64) l).length∧true=true)∧(List.take l.length (List.drop 0 (intsOf (List.map (Value.int IntKind.i64) l)))).length≤1000000)∧((errA (List.take l.length (List.drop 0 (intsOf (List.map (Value.int IntKind.i64) l)))) a !=(0:Int))=true→Ob ((List.take l.length (List.drop 0 (List.map (Value.int IntKind.i64) l))=List.map (Value.int IntKind.i64) (List.take l.length (List.drop 0 (intsOf (List.map (Value.int IntKind.i64) l))))∧0+l.length≤(List.map (Value.int IntKind.i64) l).length∧true=true)∧(List.take l.length (List.drop 0 (intsOf (List.map (Value.int IntKind.i64) l)))).length≤1000000)∧True∧Ob (Value.tuple ⟨[vi (0:Int),vi (errA (List.take l.length (List.drop 0 (intsOf (List.map (Value.int IntKind.i64) l)))) a)]⟩=Value.tuple ⟨[vi (fewF l a),vi (errN l a)]⟩))∧((errA (List.take l.length (List.drop 0 (intsOf (List.map (Value.int IntKind.i64) l)))) a !=(0:Int))=false→Ob ((List.take l.length (List.drop 0 (List.map (Value.int IntKind.i64) l))=List.map (Value.int IntKind.i64) (List.take l.length (List.drop 0 (intsOf (List.map (Value.int IntKind.i64) l))))∧0+l.length≤(List.map (Value.int IntKind.i64) l).length∧true=true)∧Coins (List.take l.length (List.drop 0 (intsOf (List.map (Value.int IntKind.i64) l))))∧(1:Int)≤a∧a≤(300:Int))∧Ob ((0:Int)≤a∧a<(↑(fR (List.take l.length (List.drop 0 (intsOf (List.map (Value.int IntKind.i64) l)))) a.toNat).length:Int)∧true=true)∧Ob (IntAt IntKind.i64 (List.map (Value.int IntKind.i64) (fR (List.take l.length (List.drop 0 (intsOf (List.map (Value.int IntKind.i64) l)))) a.toNat)) (0+a.toNat * 1))∧(decide (getI (List.map (Value.int IntKind.i64) (fR (List.take l.length (List.drop 0 (intsOf (List.map (Value.int IntKind.i64) l)))) a.toNat)) (0+a.toNat * 1)<(0:Int))=true→True∧Ob (Value.tuple ⟨[vi (0:Int),vi (5:Int)]⟩=Value.tuple ⟨[vi (fewF l a),vi (errN l a)]⟩))∧(decide (getI (List.map (Value.int IntKind.i64) (fR (List.take l.length (List.drop 0 (intsOf (List.map (Value.int IntKind.i64) l)))) a.toNat)) (0+a.toNat * 1)<(0:Int))=false→True∧Ob (Value.tuple ⟨[vi (getI (List.map (Value.int IntKind.i64) (fR (List.take l.length (List.drop 0 (intsOf (List.map (Value.int IntKind.i64) l)))) a.toNat)) (0+a.toNat * 1)),vi (0:Int)]⟩=Value.tuple ⟨[vi (fewF l a),vi (errN l a)]⟩)))
theorem rwV_eq : rwV = fun (l : List Int) (c : Nat) (a : Int) => vc Try.prog rwE 1 23 true (fun _ => none) rwB [] (argFr 0 [.slice (some ⟨0,0,none⟩) l.length c,vi a]) [ros l] (retK Try.prog Try.f25 (fun v H => v = .tuple #[vi (fewF l a),vi (errN l a)])) := by kernel_rfl
noncomputable def rwZ :=
fun (l:List Int) (c:Nat)↦Ob ((List.take l.length (List.drop 0 (List.map (Value.int IntKind.i64) l))=List.map (Value.int IntKind.i64) (List.take l.length (List.drop 0 (intsOf (List.map (Value.int IntKind.i64) l))))∧0+l.length≤(List.map (Value.int IntKind.i64) l).length∧true=true)∧(List.take l.length (List.drop 0 (intsOf (List.map (Value.int IntKind.i64) l)))).length≤1000000)∧((errA (List.take l.length (List.drop 0 (intsOf (List.map (Value.int IntKind.i64) l)))) (0:Int) !=(0:Int))=true→Ob ((List.take l.length (List.drop 0 (List.map (Value.int IntKind.i64) l))=List.map (Value.int IntKind.i64) (List.take l.length (List.drop 0 (intsOf (List.map (Value.int IntKind.i64) l))))∧0+l.length≤(List.map (Value.int IntKind.i64) l).length∧true=true)∧(List.take l.length (List.drop 0 (intsOf (List.map (Value.int IntKind.i64) l)))).length≤1000000)∧True∧Ob (Value.tuple ⟨[vi (0:Int),vi (errA (List.take l.length (List.drop 0 (intsOf (List.map (Value.int IntKind.i64) l)))) (0:Int))]⟩=Value.tuple ⟨[vi (fewF l (0:Int)),vi (errN l (0:Int))]⟩))∧((errA (List.take l.length (List.drop 0 (intsOf (List.map (Value.int IntKind.i64) l)))) (0:Int) !=(0:Int))=false→Ob ([AObj.ro (List.map (Value.int IntKind.i64) l)]=[AObj.ro (List.map (Value.int IntKind.i64) l)]∧l.length=l.length∧c=c∧(0:Int)=(0:Int))∧Ob ((0:Int)≤(0:Int)∧(0:Int)<(↑(1:Nat):Int)∧true=true)∧Ob (IntAt IntKind.i64 [vi (0:Int)] (0+0))∧(decide (getI [vi (0:Int)] (0+0)<(0:Int))=true→True∧Ob (Value.tuple ⟨[vi (0:Int),vi (5:Int)]⟩=Value.tuple ⟨[vi (fewF l (0:Int)),vi (errN l (0:Int))]⟩))∧(decide (getI [vi (0:Int)] (0+0)<(0:Int))=false→True∧Ob (Value.tuple ⟨[vi (getI [vi (0:Int)] (0+0)),vi (0:Int)]⟩=Value.tuple ⟨[vi (fewF l (0:Int)),vi (errN l (0:Int))]⟩)))
theorem rwZ_eq : rwZ = fun (l : List Int) (c : Nat) => vc Try.prog (rwZE l c) 1 23 true (fun _ => none) rwB [] (argFr 0 [.slice (some ⟨0,0,none⟩) l.length c,vi 0]) [ros l] (retK Try.prog Try.f25 (fun v H => v = .tuple #[vi (fewF l 0),vi (errN l 0)])) := by kernel_rfl
noncomputable def rwN :=
fun (a:Int)↦Ob True∧(true=true→Ob True∧True∧Ob (Value.tuple ⟨[vi (0:Int),vi (6:Int)]⟩=Value.tuple ⟨[vi (0:Int),vi (6:Int)]⟩))∧(true=false→False)
theorem rwN_eq : rwN = fun (a : Int) => vc Try.prog rwE 0 23 true (fun _ => none) rwB [] (argFr 0 [.slice none 0 0,vi a]) [] (retK Try.prog Try.f25 (fun v H => v = .tuple #[vi 0,vi 6])) := by kernel_rfl
noncomputable def rwH :=
fun (s:Option Nat) (c:Nat) (a:Int)↦Ob True∧(true=true→Ob True∧True∧Ob (Value.tuple ⟨[vi (0:Int),vi (6:Int)]⟩=Value.tuple ⟨[vi (0:Int),vi (6:Int)]⟩))∧(true=false→False)
theorem rwH_eq : rwH = fun (s : Option Nat) (c : Nat) (a : Int) => vc Try.prog rwE 1 23 true (fun _ => none) rwB [] (argFr 0 [.slice (some ⟨0,0,s⟩) 0 c,vi a]) [.gone] (retK Try.prog Try.f25 (fun v H => v = .tuple #[vi 0,vi 6])) := by kernel_rfl
structure GP (l : List Int) (f : Nat→Int) (G : List Int) : Prop where
 len : G.length = l.length
 val : ∀ k,k < l.length→G.getD k 0 = f k
noncomputable def rgB : Code := Try.f75.body.getD .skip
def rgI (l : List Int) (c : Nat) (a : Int) : Nat→Option LInv := invOf 0 (LInv.one (Nat × List Int) (fun q => q.1≤l.length∧GP l (grF l a q.1).1 q.2) (fun q => [(0,.slice (some ⟨0,0,none⟩) l.length c),(6,.slice (some ⟨1,0,none⟩) l.length l.length),(7,vi (grF l a q.1).2),(8,vi ((l.length : Int) - 1 - q.1))]) (fun q => [ros l,.rw (q.2.map (.int .i64)) none]) (fun q => l.length - q.1)
 (fun d => invOf 2 (LInv.one (Nat × List Int) (fun q => 0≤(grF l a d.1).2 - q.1 * l.getD (l.length - 1 - d.1) 0∧GP l (fun k => if k = l.length - 1 - d.1 then (q.1 : Int) else (grF l a d.1).1 k) q.2) (fun q => [(0,.slice (some ⟨0,0,none⟩) l.length c),(6,.slice (some ⟨1,0,none⟩) l.length l.length),(7,vi ((grF l a d.1).2 - q.1 * l.getD (l.length - 1 - d.1) 0)),(8,vi ((l.length : Int) - 1 - d.1))]) (fun q => [ros l,.rw (q.2.map (.int .i64)) none]) (fun q => ((grF l a d.1).2 - q.1 * l.getD (l.length - 1 - d.1) 0).toNat))))
noncomputable def rgV :=
fun (l:List Int) (c:Nat) (a:Int)↦Ob ((0:Int)≤IntKind.i64.wrap (l.length:Int)∧IntKind.i64.wrap (l.length:Int)≤IntKind.i64.wrap (l.length:Int)∧(↑(8:Nat):Int) * IntKind.i64.wrap (l.length:Int)≤(281474976710656:Int))∧(∃ (y:Nat × List Int),Ob (y.fst≤l.length∧GP l (grF l a y.fst).fst y.snd)∧(Ob (AObj.ro (List.map (Value.int IntKind.i64) l)=AObj.ro (List.map (nmap1 fun (b:Nat)↦b) (List.map (Value.int IntKind.i64) l))∧AObj.sc 2 (AObj.ro (List.map (Value.int IntKind.i64) l))=true)∧Ob (AObj.rw (List.replicate (IntKind.i64.wrap (l.length:Int)).toNat (vi (0:Int))) none=AObj.rw (List.map (nmap1 fun (b:Nat)↦b) (List.map (Value.int IntKind.i64) y.snd)) none∧AObj.sc 2 (AObj.rw (List.map (Value.int IntKind.i64) y.snd) none)=true)∧True)∧Ob (Value.slice (some (ad0 0)) l.length c=Value.slice (some (ad0 0)) l.length c)∧Ob (Value.slice (some (ad0 1)) (IntKind.i64.wrap (l.length:Int)).toNat (IntKind.i64.wrap (l.length:Int)).toNat=Value.slice (some (ad0 1)) l.length l.length)∧Ob (a=(grF l a y.fst).snd)∧Ob (IntKind.i64.wrap ((l.length:Int)-(1:Int))=(l.length:Int)-(1:Int)-(y.fst:Int))∧True)∧∀ (x:Nat × List Int),Ob (x.fst≤l.length∧GP l (grF l a x.fst).fst x.snd)→(decide ((0:Int)≤(l.length:Int)-(1:Int)-(x.fst:Int))=true→(∃ (y:Nat × List Int),Ob ((0:Int)≤(grF l a x.fst).snd-(y.fst:Int) * l.getD (l.length-1-x.fst) (0:Int)∧GP l (fun (k:Nat)↦if k=l.length-1-x.fst then (y.fst:Int) else (grF l a x.fst).fst k) y.snd)∧(Ob (AObj.ro (List.map (Value.int IntKind.i64) l)=AObj.ro (List.map (nmap1 fun (b:Nat)↦b) (List.map (Value.int IntKind.i64) l))∧AObj.sc 2 (AObj.ro (List.map (Value.int IntKind.i64) l))=true)∧Ob (AObj.rw (List.map (Value.int IntKind.i64) x.snd) none=AObj.rw (List.map (nmap1 fun (b:Nat)↦b) (List.map (Value.int IntKind.i64) y.snd)) none∧AObj.sc 2 (AObj.rw (List.map (Value.int IntKind.i64) y.snd) none)=true)∧True)∧Ob (Value.slice (some (ad0 0)) l.length c=Value.slice (some (ad0 0)) l.length c)∧Ob (Value.slice (some (ad0 1)) l.length l.length=Value.slice (some (ad0 1)) l.length l.length)∧Ob ((grF l a x.fst).snd=(grF l a x.fst).snd-(y.fst:Int) * l.getD (l.length-1-x.fst) (0:Int))∧Ob ((l.length:Int)-(1:Int)-(x.fst:Int)=(l.length:Int)-(1:Int)-(x.fst:Int))∧True)∧∀ (x_1:Nat × List Int),Ob ((0:Int)≤(grF l a x.fst).snd-(x_1.fst:Int) * l.getD (l.length-1-x.fst) (0:Int)∧GP l (fun (k:Nat)↦if k=l.length-1-x.fst then (x_1.fst:Int) else (grF l a x.fst).fst k) x_1.snd)→Ob ((0:Int)≤(l.length:Int)-(1:Int)-(x.fst:Int)∧(l.length:Int)-(1:Int)-(x.fst:Int)<(l.length:Int)∧true=true)∧Ob (IntAt IntKind.i64 (List.map (Value.int IntKind.i64) l) (0+((l.length:Int)-(1:Int)-(x.fst:Int)).toNat * 1))∧(decide (getI (List.map (Value.int IntKind.i64) l) (0+((l.length:Int)-(1:Int)-(x.fst:Int)).toNat * 1)≤(grF l a x.fst).snd-(x_1.fst:Int) * l.getD (l.length-1-x.fst) (0:Int))=true→Ob ((0:Int)≤(l.length:Int)-(1:Int)-(x.fst:Int)∧(l.length:Int)-(1:Int)-(x.fst:Int)<(l.length:Int)∧true=true)∧Ob (IntAt IntKind.i64 (List.map (Value.int IntKind.i64) x_1.snd) (0+((l.length:Int)-(1:Int)-(x.fst:Int)).toNat * 1))∧Ob ((0:Int)≤(l.length:Int)-(1:Int)-(x.fst:Int)∧(l.length:Int)-(1:Int)-(x.fst:Int)<(l.length:Int)∧true=true)∧Ob (0+((l.length:Int)-(1:Int)-(x.fst:Int)).toNat * 1+1≤(List.map (Value.int IntKind.i64) x_1.snd).length)∧Ob ((0:Int)≤(l.length:Int)-(1:Int)-(x.fst:Int)∧(l.length:Int)-(1:Int)-(x.fst:Int)<(l.length:Int)∧true=true)∧Ob (IntAt IntKind.i64 (List.map (Value.int IntKind.i64) l) (0+((l.length:Int)-(1:Int)-(x.fst:Int)).toNat * 1))∧∃ (y:Nat × List Int),Ob ((0:Int)≤(grF l a x.fst).snd-(y.fst:Int) * l.getD (l.length-1-x.fst) (0:Int)∧GP l (fun (k:Nat)↦if k=l.length-1-x.fst then (y.fst:Int) else (grF l a x.fst).fst k) y.snd)∧Ob (((grF l a x.fst).snd-(y.fst:Int) * l.getD (l.length-1-x.fst) (0:Int)).toNat<((grF l a x.fst).snd-(x_1.fst:Int) * l.getD (l.length-1-x.fst) (0:Int)).toNat)∧(Ob (AObj.ro (List.map (Value.int IntKind.i64) l)=AObj.ro (List.map (nmap1 fun (b:Nat)↦b) (List.map (Value.int IntKind.i64) l))∧AObj.sc 2 (AObj.ro (List.map (Value.int IntKind.i64) l))=true)∧Ob (AObj.rw (putL (List.map (Value.int IntKind.i64) x_1.snd) (0+((l.length:Int)-(1:Int)-(x.fst:Int)).toNat * 1) [vi (IntKind.i64.wrap (getI (List.map (Value.int IntKind.i64) x_1.snd) (0+((l.length:Int)-(1:Int)-(x.fst:Int)).toNat * 1)+(1:Int)))]) none=AObj.rw (List.map (nmap1 fun (b:Nat)↦b) (List.map (Value.int IntKind.i64) y.snd)) none∧AObj.sc 2 (AObj.rw (List.map (Value.int IntKind.i64) y.snd) none)=true)∧True)∧Ob (Value.slice (some (ad0 0)) l.length c=Value.slice (some (ad0 0)) l.length c)∧Ob (Value.slice (some (ad0 1)) l.length l.length=Value.slice (some (ad0 1)) l.length l.length)∧Ob (IntKind.i64.wrap ((grF l a x.fst).snd-(x_1.fst:Int) * l.getD (l.length-1-x.fst) (0:Int)-getI (List.map (Value.int IntKind.i64) l) (0+((l.length:Int)-(1:Int)-(x.fst:Int)).toNat * 1))=(grF l a x.fst).snd-(y.fst:Int) * l.getD (l.length-1-x.fst) (0:Int))∧Ob ((l.length:Int)-(1:Int)-(x.fst:Int)=(l.length:Int)-(1:Int)-(x.fst:Int))∧True)∧(decide (getI (List.map (Value.int IntKind.i64) l) (0+((l.length:Int)-(1:Int)-(x.fst:Int)).toNat * 1)≤(grF l a x.fst).snd-(x_1.fst:Int) * l.getD (l.length-1-x.fst) (0:Int))=false→∃ (y:Nat × List Int),Ob (y.fst≤l.length∧GP l (grF l a y.fst).fst y.snd)∧Ob (l.length-y.fst<l.length-x.fst)∧(Ob (AObj.ro (List.map (Value.int IntKind.i64) l)=AObj.ro (List.map (nmap1 fun (b:Nat)↦b) (List.map (Value.int IntKind.i64) l))∧AObj.sc 2 (AObj.ro (List.map (Value.int IntKind.i64) l))=true)∧Ob (AObj.rw (List.map (Value.int IntKind.i64) x_1.snd) none=AObj.rw (List.map (nmap1 fun (b:Nat)↦b) (List.map (Value.int IntKind.i64) y.snd)) none∧AObj.sc 2 (AObj.rw (List.map (Value.int IntKind.i64) y.snd) none)=true)∧True)∧Ob (Value.slice (some (ad0 0)) l.length c=Value.slice (some (ad0 0)) l.length c)∧Ob (Value.slice (some (ad0 1)) l.length l.length=Value.slice (some (ad0 1)) l.length l.length)∧Ob ((grF l a x.fst).snd-(x_1.fst:Int) * l.getD (l.length-1-x.fst) (0:Int)=(grF l a y.fst).snd)∧Ob (IntKind.i64.wrap ((l.length:Int)-(1:Int)-(x.fst:Int)-(1:Int))=(l.length:Int)-(1:Int)-(y.fst:Int))∧True))∧(decide ((0:Int)≤(l.length:Int)-(1:Int)-(x.fst:Int))=false→(Ob (AObj.ro (List.map (Value.int IntKind.i64) l)=AObj.ro (List.map (nmap1 fun (b:Nat)↦b) (List.map (Value.int IntKind.i64) l))∧AObj.sc 2 (AObj.ro (List.map (Value.int IntKind.i64) l))=true)∧Ob (AObj.rw (List.map (Value.int IntKind.i64) x.snd) none=AObj.rw (List.map (nmap1 fun (b:Nat)↦b) (List.map (Value.int IntKind.i64) (greL l a))) none∧AObj.sc 2 (AObj.rw (List.map (Value.int IntKind.i64) (greL l a)) none)=true)∧True)∧Ob (Value.tuple ⟨[Value.slice (some (ad0 1)) l.length l.length,vi (grF l a x.fst).snd]⟩=Value.tuple ⟨[Value.slice (some (ad0 1)) l.length l.length,vi (grF l a l.length).snd]⟩)∧True)
theorem raV_ok (l : List Int) (c : Nat) (a : Int) (hl : l.length≤1000000) : raV l c a := by
 unfold raV
 simp only [SS,reduceCtorEq,Arg.list,Arg.num,Arg.flag,intOf,andP,Nat.reduceLeDiff,Nat.reduceAdd,Nat.reduceMul,Nat.reduceLT]
 exact ⟨hl,fun h => ⟨hl,(errA_c h).symm⟩,fun h => ⟨fun h1 => ⟨fun h2 => (errA_3 h (by omega)).symm,fun h2 => (errA_0.2 ⟨h,by omega,by omega⟩).symm⟩,fun h1 => (errA_3 h (by omega)).symm⟩⟩
theorem raN_ok (a : Int) : raN a := by
 unfold raN
 simp only [SS,reduceCtorEq,Arg.list,Arg.num,Arg.flag,intOf,andP,Nat.reduceLeDiff,Nat.reduceAdd,Nat.reduceMul,Nat.reduceLT]
theorem raH_ok (s : Option Nat) (c : Nat) (a : Int) : raH s c a := by
 unfold raH
 simp only [SS,reduceCtorEq,Arg.list,Arg.num,Arg.flag,intOf,andP,Nat.reduceLeDiff,Nat.reduceAdd,Nat.reduceMul,Nat.reduceLT]
theorem rwV_ok (l : List Int) (c : Nat) (a : Int) (hl : l.length≤1000000) (ha : a ≠ 0) : rwV l c a := by
 unfold rwV
 simp only [SS,reduceCtorEq,Arg.list,Arg.num,Arg.flag,intOf,andP,Nat.reduceLeDiff,Nat.reduceAdd,Nat.reduceMul,Nat.reduceLT]
 refine ⟨hl,fun h => ⟨hl,two_eq (fewF_no (by rw [errN_a h]; exact h)).symm (errN_a h).symm⟩,fun h => ?_⟩
 obtain ⟨he,hr⟩ := errA_0.1 h
 have hc := errC_ok.1 he
 obtain ⟨A,rfl⟩ := Int.eq_ofNat_of_zero_le hr.1
 have g := fR_get hc A (by omega) A (by omega)
 have e : ((A : Int)).toNat = A := rfl
 have hb := fvA_bd hc (b := A) (by omega)
 have hL := fR_len (l := l) A
 rw [e,g]
 refine ⟨⟨hc,by omega,by omega⟩,⟨by omega,by omega⟩,by omega,fun k => ?_,fun k => ?_⟩
 · have hx : canB l A = false := by
     cases hx : canB l A with
     | false => rfl
     | true =>
       rw [fvA,hx,if_pos rfl] at k
       have := (bF_less hc (a := A) (by omega)).small
       obtain ⟨k0,k1,k2,k3,k4⟩ := this
       unfold m5 at k; omega
   exact two_eq (fewF_no (by rw [errN_5 h hx]; decide)).symm (errN_5 h hx).symm
 · have hx : canB l A = true := by
     cases hx : canB l A with
     | true => rfl
     | false => rw [fvA,hx,if_neg Bool.false_ne_true] at k; omega
   have hN := errN_0 h hx
   refine two_eq ?_ hN.symm
   rw [fewF_ok hN,fvA,hx,if_pos rfl]; rfl
theorem rwZ_ok (l : List Int) (c : Nat) (hl : l.length≤1000000) : rwZ l c := by
 unfold rwZ
 simp only [SS,reduceCtorEq,Arg.list,Arg.num,Arg.flag,intOf,andP,Nat.reduceLeDiff,Nat.reduceAdd,Nat.reduceMul,Nat.reduceLT]
 refine ⟨hl,fun h => ⟨hl,two_eq (fewF_no (by rw [errN_a h]; exact h)).symm (errN_a h).symm⟩,fun h => ⟨by omega,rfl,fun k => absurd k (by show ¬ (0 : Int) < 0; omega),fun _ => ?_⟩⟩
 have hc := errC_ok.1 (errA_0.1 h).1
 have g := fR_get hc 0 (by omega) 0 (by omega)
 have hx : canB l 0 = true := rfl
 have hN := errN_0 h (show canB l ((0 : Int)).toNat = true from hx)
 refine two_eq ?_ hN.symm
 rw [fewF_ok hN]
 show (0 : Int) = m5 (bF l 0)
 have g : (0 : Int) = fvA l 0 := g
 rw [fvA,hx,if_pos rfl] at g
 exact g
theorem rwN_ok (a : Int) : rwN a := by
 unfold rwN
 simp only [SS,reduceCtorEq,Arg.list,Arg.num,Arg.flag,intOf,andP,Nat.reduceLeDiff,Nat.reduceAdd,Nat.reduceMul,Nat.reduceLT]
theorem rwH_ok (s : Option Nat) (c : Nat) (a : Int) : rwH s c a := by
 unfold rwH
 simp only [SS,reduceCtorEq,Arg.list,Arg.num,Arg.flag,intOf,andP,Nat.reduceLeDiff,Nat.reduceAdd,Nat.reduceMul,Nat.reduceLT]
theorem div_un {r v q : Int} (hv : 1≤v) (h0 : 0≤r) (h1 : 0≤r - q * v) (h2 : r - q * v < v) : r.tdiv v = q∧r.tmod v = r - q * v := by
 have e : r = (r - q * v) + v * q := by rw [Int.mul_comm v q]; omega
 have d : r / v = q := by
   rw [e,Int.add_mul_ediv_left _ _ (by omega),Int.ediv_eq_zero_of_lt h1 h2]; omega
 have m := Int.mul_ediv_add_emod r v
 rw [d,Int.mul_comm v q] at m
 rw [Int.tdiv_eq_ediv_of_nonneg h0,Int.tmod_eq_emod_of_nonneg h0]
 exact ⟨d,by omega⟩
theorem gp_ext {l : List Int} {f : Nat→Int} {G M : List Int} (h : GP l f G) (hM : M.length = l.length) (h2 : ∀ k,k < l.length→M.getD k 0 = f k) : G = M := by
 refine List.ext_getElem (by rw [h.len,hM]) fun k h1 h3 => ?_
 have a := h.val k (by rw [← h.len]; exact h1)
 have b := h2 k (by rw [← h.len]; exact h1)
 rw [List.getD_eq_getElem?_getD,List.getElem?_eq_getElem h1] at a
 rw [List.getD_eq_getElem?_getD,List.getElem?_eq_getElem h3] at b
 exact a.trans b.symm
theorem getD_put {t : List Int} {i j : Nat} {v : Int} (hi : i < t.length) : (t.set i v).getD j 0 = if j = i then v else t.getD j 0 := by
 rw [List.getD_eq_getElem?_getD,List.getElem?_set,List.getD_eq_getElem?_getD]
 by_cases e : i = j
 · rw [if_pos e,if_pos hi,if_pos e.symm]; rfl
 · rw [if_neg e,if_neg (Ne.symm e)]
theorem rgV_ok (l : List Int) (c : Nat) (a : Int) (hc : Coins l) (ha : 0≤a∧a≤300) : rgV l c a := by
 unfold rgV
 simp only [SS,reduceCtorEq,Arg.list,Arg.num,Arg.flag,intOf,andP,Nat.reduceLeDiff,Nat.reduceAdd,Nat.reduceMul,Nat.reduceLT]
 have hf := hc.few
 have hp := hc.pos
 have wl : IntKind.i64.wrap (l.length : Int) = l.length := wrap_in (by omega) (by omega)
 simp only [wl,Int.toNat_natCast]
 refine ⟨⟨by omega,by omega,by omega⟩,⟨(0,List.replicate l.length 0),⟨Nat.zero_le _,⟨List.length_replicate,fun k hk => by rw [List.getD_eq_getElem?_getD,List.getElem?_replicate,if_pos hk]; rfl⟩⟩,by rw [List.map_replicate],⟨trivial,trivial⟩,rfl,by rw [wrap_in (by omega) (by omega)]; show _ = (l.length : Int) - 1 - ((0 : Nat) : Int); omega⟩,?_⟩
 rintro ⟨d,G⟩ ⟨hd,hG⟩
 have hd : d≤l.length := hd
 have hG : GP l (grF l a d).1 G := hG
 have hb := gr_bd hc ha.1 d hd
 dsimp only
 refine ⟨fun h1 => ⟨⟨(0,G),⟨by show 0≤(grF l a d).2 - ((0 : Nat) : Int) * _; rw [Int.natCast_zero,Int.zero_mul]; omega,hG.len,fun k hk => ?_⟩,rfl,by show _ = (grF l a d).2 - ((0 : Nat) : Int) * _; rw [Int.natCast_zero,Int.zero_mul,Int.sub_zero]⟩,?_⟩,fun h1 => ?_⟩
 · rw [hG.val k hk]
   by_cases e : k = l.length - 1 - d
   · rw [if_pos e,(gr_all hc ha.1 d hd).1 k (by omega)]; rfl
   · rw [if_neg e]
 · rintro ⟨q,M⟩ ⟨hq,hM⟩
   have hq : 0≤(grF l a d).2 - (q : Int) * l.getD (l.length - 1 - d) 0 := hq
   have hM : GP l (fun k => if k = l.length - 1 - d then (q : Int) else (grF l a d).1 k) M := hM
   have hml := hM.len
   dsimp only
   have e : ((l.length : Int) - 1 - (d : Int)).toNat = l.length - 1 - d := by omega
   simp only [e]
   have hv := coin_rng hc (j := l.length - 1 - d) (by omega)
   have hMp : M.getD (l.length - 1 - d) 0 = q := by rw [hM.val _ (by omega),if_pos rfl]
   have hqv : (q : Int) * 1≤(q : Int) * l.getD (l.length - 1 - d) 0 := Int.mul_le_mul_of_nonneg_left hv.1 (by omega)
   refine ⟨⟨by omega,by omega⟩,by omega,fun h2 => ?_,fun h2 => ?_⟩
   · have e2 : ((q + 1 : Nat) : Int) * l.getD (l.length - 1 - d) 0 = (q : Int) * l.getD (l.length - 1 - d) 0 + l.getD (l.length - 1 - d) 0 := by rw [Int.natCast_add,Int.add_mul]; simp
     refine ⟨⟨by omega,by omega⟩,by omega,⟨by omega,by omega⟩,by omega,⟨by omega,by omega⟩,by omega,(q + 1,M.set (l.length - 1 - d) ((q + 1 : Nat) : Int)),⟨by show 0≤(grF l a d).2 - ((q + 1 : Nat) : Int) * _; rw [e2]; omega,by rw [List.length_set]; exact hml,fun k hk => ?_⟩,by show ((grF l a d).2 - ((q + 1 : Nat) : Int) * _).toNat < _; rw [e2]; omega,?_,?_⟩
     · rw [getD_put (by omega)]
       by_cases c1 : k = l.length - 1 - d
       · rw [if_pos c1,if_pos c1]
       · rw [if_neg c1,if_neg c1,hM.val k hk,if_neg c1]
     · rw [hMp,putL_int,wrap_in (by omega) (by omega)]; rfl
     · show _ = (grF l a d).2 - ((q + 1 : Nat) : Int) * _
       rw [e2,wrap_in (by omega) (by omega)]; omega
   · obtain ⟨u1,u2⟩ := div_un hv.1 hb.1.1 hq (by omega)
     refine ⟨(d + 1,M),⟨by show d + 1≤_; omega,hml,fun k hk => ?_⟩,by show l.length - (d + 1) < l.length - d; omega,rfl,u2.symm,by rw [wrap_in (by omega) (by omega)]; show _ = (l.length : Int) - 1 - ((d + 1 : Nat) : Int); omega⟩
     rw [hM.val k hk]
     show _ = bif Nat.beq k (l.length - 1 - d) then (grF l a d).2.tdiv (l.getD (l.length - 1 - d) 0) else (grF l a d).1 k
     by_cases c1 : k = l.length - 1 - d
     · rw [if_pos c1,c1,Nat.beq_refl,u1]; rfl
     · rw [if_neg c1]
       cases hb2 : Nat.beq k (l.length - 1 - d) with
       | true => exact absurd (Nat.eq_of_beq_eq_true hb2) c1
       | false => rfl
 · obtain rfl : d = l.length := by omega
   refine ⟨by rw [gp_ext hG (gre_len hf) fun k hk => gre_gt hk hf],rfl⟩
end Go.Pier.Fl
namespace Go.Pier.Fl
open Go Go.Pier Go.Proofs
noncomputable def rcT2 : Ct := ((Ct.none.add 25 (pureG [.ints .i64,.int .i64] fwS)).add 56 (pureG [.ints .i64,.ints .i64] suS))
def okW (a : Int) : Leaf→Prop
 | .view cs n _ => cs = (intsOf cs).map (.int .i64)∧cs.length = n∧Coins (intsOf cs)∧0≤a∧a≤300
 | _ => False
def rgS : List Arg3→Option Born
 | [.one (.view cs n r),.one (.plain (.int .i64 a))] => some ⟨okW a (.view cs n r),fun b => .tuple #[.slice (some ⟨b,0,none⟩) n n,vi (grF (intsOf cs) a n).2],[.rw ((greL (intsOf cs) a).map (.int .i64)) none]⟩
 | _ => none
noncomputable def rcE2 : VEnv := { ct := rcT2.add 75 (born3 [.one (.rows [.i .i64] false),.one (.int .i64)] rgS) }
noncomputable def rcB2 : Code := Try.f38.body.getD .skip
noncomputable def rkC :=
fun (l:List Int) (c:Nat) (a:Int)↦Ob ((List.take l.length (List.drop 0 (List.map (Value.int IntKind.i64) l))=List.map (Value.int IntKind.i64) (List.take l.length (List.drop 0 (intsOf (List.map (Value.int IntKind.i64) l))))∧0+l.length≤(List.map (Value.int IntKind.i64) l).length∧true=true)∧(List.take l.length (List.drop 0 (intsOf (List.map (Value.int IntKind.i64) l)))).length≤1000000)∧((errN (List.take l.length (List.drop 0 (intsOf (List.map (Value.int IntKind.i64) l)))) a !=(0:Int))=true→True∧Ob (vi (errN (List.take l.length (List.drop 0 (intsOf (List.map (Value.int IntKind.i64) l)))) a)=vi (cbdE l a)))∧((errN (List.take l.length (List.drop 0 (intsOf (List.map (Value.int IntKind.i64) l)))) a !=(0:Int))=false→Ob ((true=true∧Flat (List.map (Value.int IntKind.i64) l))∧okW a (Leaf.view (List.map (Value.int IntKind.i64) l) l.length false))∧Ob (((List.take l.length (List.drop 0 (List.map (Value.int IntKind.i64) l))=List.map (Value.int IntKind.i64) (List.take l.length (List.drop 0 (intsOf (List.map (Value.int IntKind.i64) l))))∧0+l.length≤(List.map (Value.int IntKind.i64) l).length∧true=true)∧List.take l.length (List.drop 0 (List.map (Value.int IntKind.i64) (greL (intsOf (List.map (Value.int IntKind.i64) l)) a)))=List.map (Value.int IntKind.i64) (List.take l.length (List.drop 0 (intsOf (List.map (Value.int IntKind.i64) (greL (intsOf (List.map (Value.int IntKind.i64) l)) a)))))∧0+l.length≤(List.map (Value.int IntKind.i64) (greL (intsOf (List.map (Value.int IntKind.i64) l)) a)).length∧true=true)∧(List.take l.length (List.drop 0 (intsOf (List.map (Value.int IntKind.i64) l)))).length=(List.take l.length (List.drop 0 (intsOf (List.map (Value.int IntKind.i64) (greL (intsOf (List.map (Value.int IntKind.i64) l)) a))))).length∧(List.take l.length (List.drop 0 (intsOf (List.map (Value.int IntKind.i64) l)))).length≤100∧(∀ (j:Nat),j<(List.take l.length (List.drop 0 (intsOf (List.map (Value.int IntKind.i64) l)))).length→(0:Int)≤(List.take l.length (List.drop 0 (intsOf (List.map (Value.int IntKind.i64) l)))).getD j (0:Int)∧(List.take l.length (List.drop 0 (intsOf (List.map (Value.int IntKind.i64) l)))).getD j (0:Int)≤(1000:Int))∧∀ (j:Nat),j<(List.take l.length (List.drop 0 (intsOf (List.map (Value.int IntKind.i64) (greL (intsOf (List.map (Value.int IntKind.i64) l)) a))))).length→(0:Int)≤(List.take l.length (List.drop 0 (intsOf (List.map (Value.int IntKind.i64) (greL (intsOf (List.map (Value.int IntKind.i64) l)) a))))).getD j (0:Int)∧(List.take l.length (List.drop 0 (intsOf (List.map (Value.int IntKind.i64) (greL (intsOf (List.map (Value.int IntKind.i64) l)) a))))).getD j (0:Int)≤(100000:Int))∧(((grF (intsOf (List.map (Value.int IntKind.i64) l)) a l.length).snd==(0:Int))=true→((pf (gt (List.take l.length (List.drop 0 (intsOf (List.map (Value.int IntKind.i64) (greL (intsOf (List.map (Value.int IntKind.i64) l)) a)))))) (List.take l.length (List.drop 0 (intsOf (List.map (Value.int IntKind.i64) l)))).length==fewF (List.take l.length (List.drop 0 (intsOf (List.map (Value.int IntKind.i64) l)))) a)=true→True∧Ob (vi (16:Int)=vi (cbdE l a)))∧((pf (gt (List.take l.length (List.drop 0 (intsOf (List.map (Value.int IntKind.i64) (greL (intsOf (List.map (Value.int IntKind.i64) l)) a)))))) (List.take l.length (List.drop 0 (intsOf (List.map (Value.int IntKind.i64) l)))).length==fewF (List.take l.length (List.drop 0 (intsOf (List.map (Value.int IntKind.i64) l)))) a)=false→True∧Ob (vi (0:Int)=vi (cbdE l a))))∧(((grF (intsOf (List.map (Value.int IntKind.i64) l)) a l.length).snd==(0:Int))=false→True∧Ob (vi (0:Int)=vi (cbdE l a))))
theorem rkC_eq : rkC = fun (l : List Int) (c : Nat) (a : Int) => vc Try.prog rcE2 1 39 true (fun _ => none) rcB2 [] (argFr 0 [.slice (some ⟨0,0,none⟩) l.length c,vi a]) [ros l] (retK Try.prog Try.f38 (fun v H => v = vi (cbdE l a))) := by kernel_rfl
noncomputable def rkN2 :=
fun (a:Int)↦Ob True∧(true=true→True∧Ob (vi (6:Int)=vi (6:Int)))∧(true=false→False)
theorem rkN2_eq : rkN2 = fun (a : Int) => vc Try.prog rcE2 0 39 true (fun _ => none) rcB2 [] (argFr 0 [.slice none 0 0,vi a]) [] (retK Try.prog Try.f38 (fun v H => v = vi 6)) := by kernel_rfl
noncomputable def rkH2 :=
fun (s:Option Nat) (c:Nat) (a:Int)↦Ob True∧(true=true→True∧Ob (vi (6:Int)=vi (6:Int)))∧(true=false→False)
theorem rkH2_eq : rkH2 = fun (s : Option Nat) (c : Nat) (a : Int) => vc Try.prog rcE2 1 39 true (fun _ => none) rcB2 [] (argFr 0 [.slice (some ⟨0,0,s⟩) 0 c,vi a]) [.gone] (retK Try.prog Try.f38 (fun v H => v = vi 6)) := by kernel_rfl
noncomputable def rdE2 : VEnv := { ct := (Ct.none.add 23 (pureG [.ints .i64] ciS)).add 38 (pureG [.ints .i64,.int .i64] cbS) }
noncomputable def rdB2 : Code := Try.f36.body.getD .skip
def rdI2 (l : List Int) (c : Nat) : Nat→Option LInv := invOf 0 (LInv.one Nat (fun a => a≤100∧∀ b,b < a→cbdE l (b : Int) ≠ 0) (fun a => [(0,.slice (some ⟨0,0,none⟩) l.length c),(4,vi a)]) (fun _ => [ros l]) (fun a => 100 - a))
noncomputable def rxV :=
fun (l:List Int) (c:Nat)↦Ob ((List.take l.length (List.drop 0 (List.map (Value.int IntKind.i64) l))=List.map (Value.int IntKind.i64) (List.take l.length (List.drop 0 (intsOf (List.map (Value.int IntKind.i64) l))))∧0+l.length≤(List.map (Value.int IntKind.i64) l).length∧true=true)∧(List.take l.length (List.drop 0 (intsOf (List.map (Value.int IntKind.i64) l)))).length≤1000000)∧((errC (List.take l.length (List.drop 0 (intsOf (List.map (Value.int IntKind.i64) l)))) !=(0:Int))=true→Ob ((List.take l.length (List.drop 0 (List.map (Value.int IntKind.i64) l))=List.map (Value.int IntKind.i64) (List.take l.length (List.drop 0 (intsOf (List.map (Value.int IntKind.i64) l))))∧0+l.length≤(List.map (Value.int IntKind.i64) l).length∧true=true)∧(List.take l.length (List.drop 0 (intsOf (List.map (Value.int IntKind.i64) l)))).length≤1000000)∧True∧Ob (Value.tuple ⟨[vi (0:Int),vi (errC (List.take l.length (List.drop 0 (intsOf (List.map (Value.int IntKind.i64) l)))))]⟩=Value.tuple ⟨[vi (badV l),vi (badE l)]⟩))∧((errC (List.take l.length (List.drop 0 (intsOf (List.map (Value.int IntKind.i64) l)))) !=(0:Int))=false→Ob ((0:Int)≤(0:Int)∧(0:Int)<(l.length:Int)∧true=true)∧Ob (IntAt IntKind.i64 (List.map (Value.int IntKind.i64) l) 0)∧((getI (List.map (Value.int IntKind.i64) l) 0 !=(1:Int))=true→True∧Ob (Value.tuple ⟨[vi (0:Int),vi (2:Int)]⟩=Value.tuple ⟨[vi (badV l),vi (badE l)]⟩))∧((getI (List.map (Value.int IntKind.i64) l) 0 !=(1:Int))=false→(∃ (y:Nat),Ob (y≤100∧∀ (b:Nat),b<y→cbdE l (b:Int)≠(0:Int))∧(Ob (AObj.ro (List.map (Value.int IntKind.i64) l)=AObj.ro (List.map (nmap1 fun (b:Nat)↦b) (List.map (Value.int IntKind.i64) l))∧AObj.sc 1 (AObj.ro (List.map (Value.int IntKind.i64) l))=true)∧True)∧Ob (Value.slice (some (ad0 0)) l.length c=Value.slice (some (ad0 0)) l.length c)∧Ob ((0:Int)=(y:Int))∧True)∧∀ (x:Nat),Ob (x≤100∧∀ (b:Nat),b<x→cbdE l (b:Int)≠(0:Int))→(decide ((x:Int)<(100:Int))=true→Ob ((List.take l.length (List.drop 0 (List.map (Value.int IntKind.i64) l))=List.map (Value.int IntKind.i64) (List.take l.length (List.drop 0 (intsOf (List.map (Value.int IntKind.i64) l))))∧0+l.length≤(List.map (Value.int IntKind.i64) l).length∧true=true)∧(List.take l.length (List.drop 0 (intsOf (List.map (Value.int IntKind.i64) l)))).length≤1000000)∧((cbdE (List.take l.length (List.drop 0 (intsOf (List.map (Value.int IntKind.i64) l)))) (x:Int)==(0:Int))=true→True∧Ob (Value.tuple ⟨[vi (x:Int),vi (0:Int)]⟩=Value.tuple ⟨[vi (badV l),vi (badE l)]⟩))∧((cbdE (List.take l.length (List.drop 0 (intsOf (List.map (Value.int IntKind.i64) l)))) (x:Int)==(0:Int))=false→∃ (y:Nat),Ob (y≤100∧∀ (b:Nat),b<y→cbdE l (b:Int)≠(0:Int))∧Ob (100-y<100-x)∧(Ob (AObj.ro (List.map (Value.int IntKind.i64) l)=AObj.ro (List.map (nmap1 fun (b:Nat)↦b) (List.map (Value.int IntKind.i64) l))∧AObj.sc 1 (AObj.ro (List.map (Value.int IntKind.i64) l))=true)∧True)∧Ob (Value.slice (some (ad0 0)) l.length c=Value.slice (some (ad0 0)) l.length c)∧Ob (IntKind.i64.wrap ((x:Int)+(1:Int))=(y:Int))∧True))∧(decide ((x:Int)<(100:Int))=false→True∧Ob (Value.tuple ⟨[vi (0:Int),vi (5:Int)]⟩=Value.tuple ⟨[vi (badV l),vi (badE l)]⟩))))
theorem rxV_eq : rxV = fun (l : List Int) (c : Nat) => vc Try.prog rdE2 1 23 true (rdI2 l c) rdB2 [] (argFr 0 [.slice (some ⟨0,0,none⟩) l.length c]) [ros l] (retK Try.prog Try.f36 (fun v H => v = .tuple #[vi (badV l),vi (badE l)])) := by kernel_rfl
noncomputable def rxN :=
fun (x:Unit)↦Ob True∧(true=true→Ob True∧True∧Ob (Value.tuple ⟨[vi (0:Int),vi (6:Int)]⟩=Value.tuple ⟨[vi (0:Int),vi (6:Int)]⟩))∧(true=false→False)
theorem rxN_eq : rxN = fun (_ : Unit) => vc Try.prog rdE2 0 23 true (fun _ => none) rdB2 [] (argFr 0 [.slice none 0 0]) [] (retK Try.prog Try.f36 (fun v H => v = .tuple #[vi 0,vi 6])) := by kernel_rfl
noncomputable def rxH :=
fun (s:Option Nat) (c:Nat)↦Ob True∧(true=true→Ob True∧True∧Ob (Value.tuple ⟨[vi (0:Int),vi (6:Int)]⟩=Value.tuple ⟨[vi (0:Int),vi (6:Int)]⟩))∧(true=false→Ob ((0:Int)≤(0:Int)∧(0:Int)<(↑(0:Nat):Int)∧std ⟨0,0,s⟩ c=true)∧False)
theorem rxH_eq : rxH = fun (s : Option Nat) (c : Nat) => vc Try.prog rdE2 1 23 true (fun _ => none) rdB2 [] (argFr 0 [.slice (some ⟨0,0,s⟩) 0 c]) [.gone] (retK Try.prog Try.f36 (fun v H => v = .tuple #[vi 0,vi 6])) := by kernel_rfl
theorem raE_ok : VOk Try.prog raE := VOk.ofCt (CtOk.none.add rcG_ok)
theorem raG_ok : ∀ args H φ v H' l,pureG [.ints .i64,.int .i64] raS args H = some (φ,v,H',l)→Asks φ→Call Try.prog 69 args H (fun v' H2 => v' = v∧H2 = H')∧Kept H H' l :=
 pureG_ok fun r hk hs => match r,hk with
   | [_,_],⟨hl,⟨a,ha⟩,_⟩ => by
     subst ha
     rcases hl with rfl | ⟨s,rfl⟩ | ⟨l,rfl⟩
     · exact ⟨rfl,fun caps => Call.ofVc raE_ok mixed (c := raB) (inv := fun _ => none) Try.func69 (by kernel_rfl) (cast (congrFun raN_eq a) (raN_ok a))⟩
     · exact ⟨rfl,fun caps => Call.ofVc raE_ok mixed (c := raB) (inv := fun _ => none) Try.func69 (by kernel_rfl) (cast (congrFun (congrFun (congrFun raH_eq s) (caps 0)) a) (raH_ok s _ a))⟩
     · exact ⟨rfl,fun caps => Call.ofVc raE_ok mixed (c := raB) (inv := fun _ => none) Try.func69 (by kernel_rfl) (cast (congrFun (congrFun (congrFun raV_eq l) (caps 0)) a) (raV_ok l _ a hs))⟩
theorem foG_ok : ∀ args H φ v H' l,newG [.ints .i64,.int .i64] foS args H = some (φ,v,H',l)→Asks φ→Call Try.prog 70 args H (fun v' H2 => v' = v∧H2 = H')∧Kept H H' l :=
 newG_ok fun r ψ b hk hs hψ => match r,hk with
   | [_,_],⟨hl,⟨a,ha⟩,_⟩ => by
     subst ha
     rcases hl with rfl | ⟨s,rfl⟩ | ⟨l,rfl⟩
     · cases hs
     · cases hs
     · cases hs
       obtain ⟨hc,h1,h2⟩ := hψ
       obtain ⟨A,rfl⟩ := Int.eq_ofNat_of_zero_le (show 0≤a by omega)
       refine ⟨rfl,fun caps => ?_⟩
       have h := fo_call l (caps 0) A hc (by omega) (by omega)
       have h' : Call Try.prog 70 [.slice (some ⟨0,0,none⟩) l.length (caps 0),vi (A : Int)] [ros l] fun v H' => v = newSlice 1 (fR l A).length∧H' = [ros l] ++ [.rw ((fR l A).map (.int .i64)) (some 1)] := by
         rw [fR_len]
         exact h
       exact h'
theorem fzCt_ok {l : List Int} {c : Nat} : ∀ args H φ v H' k,fzCt l c args H = some (φ,v,H',k)→Asks φ→Call Try.prog 70 args H (fun v' H2 => v' = v∧H2 = H')∧Kept H H' k := fun args H φ v H' k h hφ => by
 unfold fzCt at h
 split at h <;> cases h
 obtain ⟨rfl,rfl,rfl,rfl⟩ := hφ
 exact ⟨foz_call l _,Kept.append _ _ _⟩
theorem rwE_ok : VOk Try.prog rwE := VOk.ofCt ((CtOk.none.add raG_ok).add foG_ok)
theorem rwZE_ok {l : List Int} {c : Nat} : VOk Try.prog (rwZE l c) := VOk.ofCt ((CtOk.none.add raG_ok).add fzCt_ok)
theorem rwG_ok : ∀ args H φ v H' l,pureG [.ints .i64,.int .i64] fwS args H = some (φ,v,H',l)→Asks φ→Call Try.prog 25 args H (fun v' H2 => v' = v∧H2 = H')∧Kept H H' l :=
 pureG_ok fun r hk hs => match r,hk with
   | [_,_],⟨hl,⟨a,ha⟩,_⟩ => by
     subst ha
     rcases hl with rfl | ⟨s,rfl⟩ | ⟨l,rfl⟩
     · exact ⟨by simp [fwS,sc,sc2,sc1,sc0],fun caps => Call.ofVc rwE_ok mixed (c := rwB) (inv := fun _ => none) Try.func25 (by kernel_rfl) (cast (congrFun rwN_eq a) (rwN_ok a))⟩
     · exact ⟨by simp [fwS,sc,sc2,sc1,sc0],fun caps => Call.ofVc rwE_ok mixed (c := rwB) (inv := fun _ => none) Try.func25 (by kernel_rfl) (cast (congrFun (congrFun (congrFun rwH_eq s) (caps 0)) a) (rwH_ok s _ a))⟩
     · refine ⟨by simp [fwS,sc,sc2,sc1,sc0],fun caps => ?_⟩
       by_cases e : a = 0
       · subst e
         exact Call.ofVc rwZE_ok mixed (c := rwB) (inv := fun _ => none) Try.func25 (by kernel_rfl) (cast (congrFun (congrFun rwZ_eq l) (caps 0)) (rwZ_ok l _ hs))
       · exact Call.ofVc rwE_ok mixed (c := rwB) (inv := fun _ => none) Try.func25 (by kernel_rfl) (cast (congrFun (congrFun (congrFun rwV_eq l) (caps 0)) a) (rwV_ok l _ a hs e))
theorem rg_call (l : List Int) (c : Nat) (a : Int) (hc : Coins l) (ha : 0≤a∧a≤300) : Call Try.prog 75 [.slice (some ⟨0,0,none⟩) l.length c,vi a] [ros l] fun v H' => v = .tuple #[.slice (some ⟨1,0,none⟩) l.length l.length,vi (grF l a l.length).2]∧H' = [ros l] ++ [.rw ((greL l a).map (.int .i64)) none] :=
 Call.ofVcR (E := {}) (H := [ros l]) (args := [.slice (some ⟨0,0,none⟩) l.length c,vi a]) (σ := fun b => b) (v2 := .tuple #[.slice (some ⟨1,0,none⟩) l.length l.length,vi (grF l a l.length).2]) (H2 := [ros l,.rw ((greL l a).map (.int .i64)) none]) E0_ok mixed (c := rgB) (inv := rgI l c a) Try.func75 (by kernel_rfl) (cast (by kernel_rfl) (rgV_ok l c a hc ha))
theorem rgG_ok : ∀ args H φ v H' l,born3 [.one (.rows [.i .i64] false),.one (.int .i64)] rgS args H = some (φ,v,H',l)→Asks φ→Call Try.prog 75 args H (fun v' H2 => v' = v∧H2 = H')∧Kept H H' l :=
 born3_ok fun r s hk hs hψ => match r,hk with
   | [.one x,.one y],⟨hx,⟨a,hy⟩,_⟩ => by
     subst hy
     rcases hx with rfl | ⟨s,rfl⟩ | ⟨cs,n,rfl⟩
     · cases hs
     · cases hs
     · cases hs
       obtain ⟨k1,k2,k3,k4⟩ := hψ
       have kl : (intsOf cs).length = n := by rw [intsOf,List.length_map]; exact k2
       have ke : AObj.ro cs = ros (intsOf cs) := by show AObj.ro cs = .ro ((intsOf cs).map (.int .i64)); rw [← k1]
       refine ⟨⟨plainNew_ints,fun ρ b ρ' c h => ?_,fun n => ?_⟩,fun caps hcaps => ?_⟩
       · obtain ⟨h1,h2,h3⟩ := h 0 (by simp)
         simp only [Nat.add_zero] at h1 h2 h3
         simp [ren,ren2,ren1,ren0,Ren.addr,Ren.adr,Ren.cap,h1,h2,h3]
       · simp [sc,sc2,sc1,sc0]
       · have h := rg_call (intsOf cs) (caps 0) a k3 k4
         rw [kl] at h
         have e : canonH3 [Arg3.one (Leaf.view cs n false),Arg3.one (Leaf.plain (vi a))] = [ros (intsOf cs)] := by
           show [AObj.ro cs] = _
           rw [ke]
         rw [e]
         exact h
theorem rcE2_ok : VOk Try.prog rcE2 := VOk.ofCt (((CtOk.none.add rwG_ok).add suG_ok).add rgG_ok)
theorem rkC_ok (l : List Int) (c : Nat) (a : Int) (hl : l.length≤1000000) : rkC l c a := by
 unfold rkC
 simp only [SS,reduceCtorEq,Arg.list,Arg.num,Arg.flag,intOf,andP,Nat.reduceLeDiff,Nat.reduceAdd,Nat.reduceMul,Nat.reduceLT]
 refine ⟨hl,fun h => by rw [cbdE,if_pos h],fun h => ?_⟩
 have h0 : errA l a = 0 := by
   by_cases e : errA l a = 0
   · exact e
   · rw [errN_a e] at h; exact absurd h e
 obtain ⟨he,hr⟩ := errA_0.1 h0
 have hc := errC_ok.1 he
 have hf := hc.few
 obtain ⟨A,rfl⟩ := Int.eq_ofNat_of_zero_le hr.1
 have hx : canB l A = true := by
   cases hx : canB l A with
   | true => rfl
   | false => rw [errN_5 h0 hx] at h; cases h
 have gl := gre_len (a := (A : Int)) hf
 have hT : List.take l.length (greL l (A : Int)) = greL l (A : Int) := List.take_of_length_le (by omega)
 have gb := (gr_bd hc hr.1 l.length (Nat.le_refl _)).2
 have hg : ∀ j,j < l.length→0≤(greL l (A : Int)).getD j 0∧(greL l (A : Int)).getD j 0≤100000 := fun j hj => by
   have e : (greL l (A : Int)).getD j 0 = (grF l (A : Int) l.length).1 j := gre_gt hj hf
   have := gb j (by omega)
   rw [e]; omega
 have hm : pf (gt (greL l (A : Int))) l.length = m5 (grF l (A : Int) l.length).1 := by
   rw [pf_congr (z := (grF l (A : Int) l.length).1) _ fun k hk => gre_gt hk hf,gr_m5 hc hr.1]
 have hn : fewF l (A : Int) = m5 (bF l A) := fewF_ok h
 have hcb : cbdE l (A : Int) = bif (decide (0 < (grF l (A : Int) l.length).2) || decide (m5 (bF l A) < m5 (grF l (A : Int) l.length).1)) then 0 else 16 := by
   rw [cbdE,if_neg (fun k => k h)]; rfl
 have rr := (gr_rest hc hr.1).1
 rw [hT,hm,hn,hcb]
 refine ⟨⟨all_sc_int,by rw [intsOf_map],by simp,by rw [intsOf_map]; exact hc,hr⟩,⟨⟨by rw [List.take_of_length_le (by rw [List.length_map]; omega)],by omega⟩,gl.symm,by omega,fun j hj => by have := coin_rng hc hj; omega,fun j hj => hg j (by omega)⟩,fun hz => ⟨fun k => ?_,fun k => ?_⟩,fun hz => ?_⟩
 · rw [decide_eq_false (by omega),decide_eq_false (by omega)]; rfl
 · have := (gr_le hc (x := A) (by omega) hz).2
   rw [decide_eq_false (by omega),decide_eq_true (by omega)]; rfl
 · rw [decide_eq_true (by omega)]; rfl
theorem rkN2_ok (a : Int) : rkN2 a := by
 unfold rkN2
 simp only [SS,reduceCtorEq,Arg.list,Arg.num,Arg.flag,intOf,andP,Nat.reduceLeDiff,Nat.reduceAdd,Nat.reduceMul,Nat.reduceLT]
theorem rkH2_ok (s : Option Nat) (c : Nat) (a : Int) : rkH2 s c a := by
 unfold rkH2
 simp only [SS,reduceCtorEq,Arg.list,Arg.num,Arg.flag,intOf,andP,Nat.reduceLeDiff,Nat.reduceAdd,Nat.reduceMul,Nat.reduceLT]
theorem rxV_ok (l : List Int) (c : Nat) (hl : l.length≤1000000) : rxV l c := by
 unfold rxV
 simp only [SS,reduceCtorEq,Arg.list,Arg.num,Arg.flag,intOf,andP,Nat.reduceLeDiff,Nat.reduceAdd,Nat.reduceMul,Nat.reduceLT]
 refine ⟨hl,fun h => ⟨hl,two_eq (badV_c h).symm (badE_c h).symm⟩,fun he => ?_⟩
 have hc := errC_ok.1 he
 have hp := hc.pos
 have h0 : ¬ errC l ≠ 0 := fun h => h he
 refine ⟨by omega,hp,fun h1 => two_eq (by rw [badV,if_neg h0,if_neg (show ¬ fstF l = 1 from h1)]) (by rw [badE,if_neg h0,if_neg (show ¬ fstF l = 1 from h1)]),fun h1 => ⟨⟨0,⟨by omega,fun b hb => by omega⟩,rfl⟩,fun x hx => ⟨fun hx2 => ⟨hl,fun hz => ?_,fun hz => ⟨x + 1,⟨by omega,fun b hb => ?_⟩,by omega,wrap_succ (n := 1000) (by omega) (by omega)⟩⟩,fun hx2 => ?_⟩⟩⟩
 · have eL := lb_found hc h1 (a := x) (by omega) hz hx.2
   exact two_eq (by rw [badV,if_neg h0,if_pos (show fstF l = 1 from h1),bdVal,eL]) (by rw [badE,if_neg h0,if_pos (show fstF l = 1 from h1),bdErr,eL])
 · by_cases e : b = x
   · rw [e]; exact hz
   · exact hx.2 b (by omega)
 · have eL := lb_none hc h1 fun b hb => hx.2 b (by omega)
   exact two_eq (by rw [badV,if_neg h0,if_pos (show fstF l = 1 from h1),bdVal,eL]) (by rw [badE,if_neg h0,if_pos (show fstF l = 1 from h1),bdErr,eL])
theorem rxN_ok (u : Unit) : rxN u := by
 unfold rxN
 simp only [SS,reduceCtorEq,Arg.list,Arg.num,Arg.flag,intOf,andP,Nat.reduceLeDiff,Nat.reduceAdd,Nat.reduceMul,Nat.reduceLT]
theorem rxH_ok (s : Option Nat) (c : Nat) : rxH s c := by
 unfold rxH
 simp only [SS,reduceCtorEq,Arg.list,Arg.num,Arg.flag,intOf,andP,Nat.reduceLeDiff,Nat.reduceAdd,Nat.reduceMul,Nat.reduceLT]
theorem rkG2_ok : ∀ args H φ v H' l,pureG [.ints .i64,.int .i64] cbS args H = some (φ,v,H',l)→Asks φ→Call Try.prog 38 args H (fun v' H2 => v' = v∧H2 = H')∧Kept H H' l :=
 pureG_ok fun r hk hs => match r,hk with
   | [_,_],⟨hl,⟨a,ha⟩,_⟩ => by
     subst ha
     rcases hl with rfl | ⟨s,rfl⟩ | ⟨l,rfl⟩
     · exact ⟨rfl,fun caps => Call.ofVc rcE2_ok mixed (c := rcB2) (inv := fun _ => none) Try.func38 (by kernel_rfl) (cast (congrFun rkN2_eq a) (rkN2_ok a))⟩
     · exact ⟨rfl,fun caps => Call.ofVc rcE2_ok mixed (c := rcB2) (inv := fun _ => none) Try.func38 (by kernel_rfl) (cast (congrFun (congrFun (congrFun rkH2_eq s) (caps 0)) a) (rkH2_ok s _ a))⟩
     · exact ⟨rfl,fun caps => Call.ofVc rcE2_ok mixed (c := rcB2) (inv := fun _ => none) Try.func38 (by kernel_rfl) (cast (congrFun (congrFun (congrFun rkC_eq l) (caps 0)) a) (rkC_ok l _ a hs))⟩
theorem rdE2_ok : VOk Try.prog rdE2 := VOk.ofCt ((CtOk.none.add rcG_ok).add rkG2_ok)
theorem rxG_ok : ∀ args H φ v H' l,pureG [.ints .i64] baS args H = some (φ,v,H',l)→Asks φ→Call Try.prog 36 args H (fun v' H2 => v' = v∧H2 = H')∧Kept H H' l :=
 pureG_ok fun r hk hs => match r,hk with
   | [_],⟨hl,_⟩ => by
     rcases hl with rfl | ⟨s,rfl⟩ | ⟨l,rfl⟩
     · exact ⟨by simp [baS,sc,sc2,sc1,sc0],fun caps => Call.ofVc rdE2_ok mixed (c := rdB2) (inv := fun _ => none) Try.func36 (by kernel_rfl) (cast (congrFun rxN_eq ()) (rxN_ok ()))⟩
     · exact ⟨by simp [baS,sc,sc2,sc1,sc0],fun caps => Call.ofVc rdE2_ok mixed (c := rdB2) (inv := fun _ => none) Try.func36 (by kernel_rfl) (cast (congrFun (congrFun rxH_eq s) (caps 0)) (rxH_ok s _))⟩
     · exact ⟨by simp [baS,sc,sc2,sc1,sc0],fun caps => Call.ofVc rdE2_ok mixed (c := rdB2) (inv := rdI2 l (caps 0)) Try.func36 (by kernel_rfl) (cast (congrFun (congrFun rxV_eq l) (caps 0)) (rxV_ok l _ hs))⟩
end Go.Pier.Fl
