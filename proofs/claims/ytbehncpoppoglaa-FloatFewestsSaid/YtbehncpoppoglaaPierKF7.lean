import Derived.Test.YtbehncpoppoglaaPierKF4
import Derived.KernelRfl
set_option linter.unusedSimpArgs false
set_option linter.unusedVariables false
set_option maxRecDepth 100000
namespace Go.Pier.Fl
open Go Go.Pier Go.Proofs
noncomputable def lsB : Code := Try.f30.body.getD .skip
def lsI (l m : List Int) (c d : Nat) : Nat→Option LInv := invOf 0 (LInv.one Nat (fun i => i≤l.length∧∀ j,j < i→l.getD j 0 = m.getD j 0) (fun i => [(0,.slice (some ⟨0,0,none⟩) l.length c),(1,.slice (some ⟨1,0,none⟩) m.length d),(5,vi i)]) (fun _ => [ros l,ros m]) (fun i => l.length - i))
def lsS (r : List Arg) : Prop × Value := match r with
 | [.ints _ l,.ints _ m] => (l.length≤1000,.bool (l == m))
 | [.plain _,.plain _] => (True,.bool true)
 | _ => (False,undef)
noncomputable def lsVV :=
fun (l:List Int) (c:Nat) (m:List Int) (d:Nat)↦(((l.length:Int) !=(m.length:Int))=true→True∧Ob (Value.bool false=Value.bool (l==m)))∧(((l.length:Int) !=(m.length:Int))=false→(∃ (y:Nat),Ob (y≤l.length∧∀ (j:Nat),j<y→l.getD j (0:Int)=m.getD j (0:Int))∧(Ob (AObj.ro (List.map (Value.int IntKind.i64) l)=AObj.ro (List.map (nmap1 fun (b:Nat)↦b) (List.map (Value.int IntKind.i64) l))∧AObj.sc 2 (AObj.ro (List.map (Value.int IntKind.i64) l))=true)∧Ob (AObj.ro (List.map (Value.int IntKind.i64) m)=AObj.ro (List.map (nmap1 fun (b:Nat)↦b) (List.map (Value.int IntKind.i64) m))∧AObj.sc 2 (AObj.ro (List.map (Value.int IntKind.i64) m))=true)∧True)∧Ob (Value.slice (some (ad0 0)) l.length c=Value.slice (some (ad0 0)) l.length c)∧Ob (Value.slice (some (ad0 1)) m.length d=Value.slice (some (ad0 1)) m.length d)∧Ob ((0:Int)=(y:Int))∧True)∧∀ (x:Nat),Ob (x≤l.length∧∀ (j:Nat),j<x→l.getD j (0:Int)=m.getD j (0:Int))→(decide ((x:Int)<(l.length:Int))=true→Ob ((0:Int)≤(x:Int)∧(x:Int)<(l.length:Int)∧true=true)∧Ob (IntAt IntKind.i64 (List.map (Value.int IntKind.i64) l) (0+(x:Int).toNat * 1))∧Ob ((0:Int)≤(x:Int)∧(x:Int)<(m.length:Int)∧true=true)∧Ob (IntAt IntKind.i64 (List.map (Value.int IntKind.i64) m) (0+(x:Int).toNat * 1))∧((getI (List.map (Value.int IntKind.i64) l) (0+(x:Int).toNat * 1) !=getI (List.map (Value.int IntKind.i64) m) (0+(x:Int).toNat * 1))=true→True∧Ob (Value.bool false=Value.bool (l==m)))∧((getI (List.map (Value.int IntKind.i64) l) (0+(x:Int).toNat * 1) !=getI (List.map (Value.int IntKind.i64) m) (0+(x:Int).toNat * 1))=false→∃ (y:Nat),Ob (y≤l.length∧∀ (j:Nat),j<y→l.getD j (0:Int)=m.getD j (0:Int))∧Ob (l.length-y<l.length-x)∧(Ob (AObj.ro (List.map (Value.int IntKind.i64) l)=AObj.ro (List.map (nmap1 fun (b:Nat)↦b) (List.map (Value.int IntKind.i64) l))∧AObj.sc 2 (AObj.ro (List.map (Value.int IntKind.i64) l))=true)∧Ob (AObj.ro (List.map (Value.int IntKind.i64) m)=AObj.ro (List.map (nmap1 fun (b:Nat)↦b) (List.map (Value.int IntKind.i64) m))∧AObj.sc 2 (AObj.ro (List.map (Value.int IntKind.i64) m))=true)∧True)∧Ob (Value.slice (some (ad0 0)) l.length c=Value.slice (some (ad0 0)) l.length c)∧Ob (Value.slice (some (ad0 1)) m.length d=Value.slice (some (ad0 1)) m.length d)∧Ob (IntKind.i64.wrap ((x:Int)+(1:Int))=(y:Int))∧True))∧(decide ((x:Int)<(l.length:Int))=false→True∧Ob (Value.bool true=Value.bool (l==m))))
theorem lsVV_eq : lsVV = fun (l : List Int) (c : Nat) (m : List Int) (d : Nat) => vc Try.prog {} 2 26 true (lsI l m c d) lsB [] (argFr 0 [.slice (some ⟨0,0,none⟩) l.length c,.slice (some ⟨1,0,none⟩) m.length d]) [ros l,ros m] (retK Try.prog Try.f30 (fun v _ => v = .bool (l == m))) := by kernel_rfl
noncomputable def lsNN :=
fun (x:Unit)↦(false=true→True∧Ob (Value.bool false=Value.bool true))∧(false=false→(∃ (y:Unit),Ob True∧True∧Ob (Value.slice none 0 0=Value.slice none 0 0)∧Ob (Value.slice none 0 0=Value.slice none 0 0)∧Ob ((0:Int)=(0:Int))∧True)∧∀ (x:Unit),Ob True→(false=true→False)∧(false=false→True∧Ob (Value.bool true=Value.bool true)))
theorem lsNN_eq : lsNN = fun (_ : Unit) => vc Try.prog {} 0 26 true (invOf 0 (LInv.one Unit (fun _ => True) (fun _ => [(0,.slice none 0 0),(1,.slice none 0 0),(5,vi 0)]) (fun _ => []) (fun _ => 1))) lsB [] (argFr 0 [.slice none 0 0,.slice none 0 0]) [] (retK Try.prog Try.f30 (fun v _ => v = .bool true)) := by kernel_rfl
theorem eq_no {l m : List Int} (h : l ≠ m) : false = (l == m) := by
 cases e : l == m with
 | false => rfl
 | true => exact absurd (eq_of_beq e) h
theorem eq_all {l m : List Int} (hl : l.length = m.length) (h : ∀ j,j < l.length→l.getD j 0 = m.getD j 0) : l = m := by
 refine List.ext_getElem hl fun j h1 h2 => ?_
 have := h j h1
 rw [List.getD_eq_getElem?_getD,List.getElem?_eq_getElem h1,List.getD_eq_getElem?_getD,List.getElem?_eq_getElem h2] at this
 exact this
theorem lsVV_ok (l : List Int) (c : Nat) (m : List Int) (d : Nat) (hl : l.length≤1000) : lsVV l c m d := by
 unfold lsVV
 simp only [SS,reduceCtorEq,Arg.list,Arg.num,Arg.flag,intOf,andP,Nat.reduceLeDiff,Nat.reduceAdd,Nat.reduceMul,Nat.reduceLT]
 refine ⟨fun h => eq_no fun e => h (by rw [e]),fun h => ⟨⟨0,⟨by omega,fun j hj => by omega⟩,rfl⟩,fun x hx => ⟨fun h1 => ⟨by omega,by omega,by omega,by omega,fun h2 => eq_no fun e => h2 (by rw [e]),fun h2 => ⟨x + 1,⟨by omega,fun j hj => ?_⟩,by omega,wrap_succ (n := 9999) (by omega) (by omega)⟩⟩,fun h1 => ?_⟩⟩⟩
 · by_cases e : j = x
   · rw [e]; exact h2
   · exact hx.2 j (by omega)
 · rw [eq_all (l := l) (m := m) (by omega) fun j hj => hx.2 j (by omega)]
   exact (beq_self_eq_true m).symm
theorem lsNN_ok (u : Unit) : lsNN u := by
 unfold lsNN
 simp only [SS,reduceCtorEq,Arg.list,Arg.num,Arg.flag,intOf,andP,Nat.reduceLeDiff,Nat.reduceAdd,Nat.reduceMul,Nat.reduceLT]
theorem lsG_ok : ∀ args H φ v H' l,pureG [.ints .i64,.ints .i64] lsS args H = some (φ,v,H',l)→Asks φ→Call Try.prog 30 args H (fun v' H2 => v' = v∧H2 = H')∧Kept H H' l :=
 pureG_ok fun r hk hs => match r,hk with
   | [_,_],⟨h1,h2,_⟩ => by
     rcases h1 with rfl | ⟨s,rfl⟩ | ⟨l,rfl⟩ <;> rcases h2 with rfl | ⟨t,rfl⟩ | ⟨m,rfl⟩
     · exact ⟨rfl,fun caps => Call.ofVc E0_ok mixed (c := lsB) (inv := invOf 0 (LInv.one Unit (fun _ => True) (fun _ => [(0,.slice none 0 0),(1,.slice none 0 0),(5,vi 0)]) (fun _ => []) (fun _ => 1))) Try.func30 (by kernel_rfl) (cast (congrFun lsNN_eq ()) (lsNN_ok ()))⟩
     · exact hs.elim
     · exact hs.elim
     · exact hs.elim
     · exact hs.elim
     · exact hs.elim
     · exact hs.elim
     · exact hs.elim
     · exact ⟨rfl,fun caps => Call.ofVc E0_ok mixed (c := lsB) (inv := lsI l m (caps 0) (caps 1)) Try.func30 (by kernel_rfl) (cast (congrFun (congrFun (congrFun (congrFun lsVV_eq l) (caps 0)) m) (caps 1)) (lsVV_ok l _ m _ hs))⟩
end Go.Pier.Fl
