import Derived.Test.YtinkmgacaoohnaaPierMO4
import Derived.KernelRfl
import Derived.Test.YtinkmgacaoohnaaPierMO3
import Derived.Test.YtinkmgacaoohnaaPierLgS
set_option linter.unusedSimpArgs false
set_option linter.unusedVariables false
set_option maxRecDepth 100000
set_option linter.unusedVariables false
set_option linter.unusedSimpArgs false
namespace Go.Pier.Lg
open Go Go.Pier Go.Proofs
noncomputable def rplB : Code := Try.f56.body.getD .skip
noncomputable def rcdB : Code := Try.f24.body.getD .skip
def errPlaces (p : Int) : Int := if p < 1∨8 < p then 6 else 0
def errDrops (p : Int) (l : List Int) : Int := if p < 1∨8 < p∨12 < l.length then 6 else if ∀ d ∈ l,0≤d∧d < p then 0 else 3
def rplG : List Value→Heap→Option (Option Prop × Value × Heap × List Nat) := fun args H => match args with
 | [.int .i64 p] => some (none,vi (errPlaces p),H,[])
 | _ => none
noncomputable def rcdT : Ct := Ct.none.add 56 rplG
def rcdI (p : Int) (l : List Int) (c : Nat) : Nat→Option LInv := invOf 0 (.one Nat (fun i => (1≤p∧p≤8∧l.length≤12)∧i≤l.length∧∀ j,j < i→0≤l.getD j 0∧l.getD j 0 < p) (fun i => [(0,vi p),(1,.slice (some ⟨0,0,none⟩) l.length c),(5,vi i)]) (fun _ => [ros l]) (fun i => l.length - i))
def rcdIE (p : Int) (a : Option Addr) (c : Nat) (H : Heap) : Nat→Option LInv := invOf 0 (.one Unit (fun _ => 1≤p∧p≤8) (fun _ => [(0,vi p),(1,.slice a 0 c),(5,vi 0)]) (fun _ => H) (fun _ => 0))
noncomputable def rplV :=
fun (p:Int)↦(decide (p<(1:Int))=false→(decide ((8:Int)<p)=true→True∧Ob (vi (6:Int)=vi (errPlaces p)))∧(decide ((8:Int)<p)=false→True∧Ob (vi (0:Int)=vi (errPlaces p))))∧(decide (p<(1:Int))=true→True∧Ob (vi (6:Int)=vi (errPlaces p)))
theorem rplV_eq : rplV = fun (p : Int) => vc Try.prog {} 0 9 true (fun _ => none) rplB [] (argFr 0 [vi p]) [] (retK Try.prog Try.f56 (fun v _ => v = vi (errPlaces p))) := by kernel_rfl
noncomputable def rcdV :=
fun (p:Int) (l:List Int) (c:Nat)↦((errPlaces p !=(0:Int))=false→(decide ((12:Int)<(l.length:Int))=true→True∧Ob (vi (6:Int)=vi (errDrops p l)))∧(decide ((12:Int)<(l.length:Int))=false→(∃ (y:Nat),Ob (((1:Int)≤p∧p≤(8:Int)∧l.length≤12)∧y≤l.length∧∀ (j:Nat),j<y→(0:Int)≤l.getD j (0:Int)∧l.getD j (0:Int)<p)∧(Ob (AObj.ro (List.map (Value.int IntKind.i64) l)=AObj.ro (List.map (nmap1 fun (b:Nat)↦b) (List.map (Value.int IntKind.i64) l))∧AObj.sc 1 (AObj.ro (List.map (Value.int IntKind.i64) l))=true)∧True)∧Ob (p=p)∧Ob (Value.slice (some (ad0 0)) l.length c=Value.slice (some (ad0 0)) l.length c)∧Ob ((0:Int)=(y:Int))∧True)∧∀ (x:Nat),Ob (((1:Int)≤p∧p≤(8:Int)∧l.length≤12)∧x≤l.length∧∀ (j:Nat),j<x→(0:Int)≤l.getD j (0:Int)∧l.getD j (0:Int)<p)→(decide ((x:Int)<(l.length:Int))=true→Ob ((0:Int)≤(x:Int)∧(x:Int)<(l.length:Int)∧true=true)∧Ob (IntAt IntKind.i64 (List.map (Value.int IntKind.i64) l) (0+(x:Int).toNat * 1))∧(decide (getI (List.map (Value.int IntKind.i64) l) (0+(x:Int).toNat * 1)<(0:Int))=false→Ob ((0:Int)≤(x:Int)∧(x:Int)<(l.length:Int)∧true=true)∧Ob (IntAt IntKind.i64 (List.map (Value.int IntKind.i64) l) (0+(x:Int).toNat * 1))∧(decide (p≤getI (List.map (Value.int IntKind.i64) l) (0+(x:Int).toNat * 1))=true→True∧Ob (vi (3:Int)=vi (errDrops p l)))∧(decide (p≤getI (List.map (Value.int IntKind.i64) l) (0+(x:Int).toNat * 1))=false→∃ (y:Nat),Ob (((1:Int)≤p∧p≤(8:Int)∧l.length≤12)∧y≤l.length∧∀ (j:Nat),j<y→(0:Int)≤l.getD j (0:Int)∧l.getD j (0:Int)<p)∧Ob (l.length-y<l.length-x)∧(Ob (AObj.ro (List.map (Value.int IntKind.i64) l)=AObj.ro (List.map (nmap1 fun (b:Nat)↦b) (List.map (Value.int IntKind.i64) l))∧AObj.sc 1 (AObj.ro (List.map (Value.int IntKind.i64) l))=true)∧True)∧Ob (p=p)∧Ob (Value.slice (some (ad0 0)) l.length c=Value.slice (some (ad0 0)) l.length c)∧Ob (IntKind.i64.wrap ((x:Int)+(1:Int))=(y:Int))∧True))∧(decide (getI (List.map (Value.int IntKind.i64) l) (0+(x:Int).toNat * 1)<(0:Int))=true→True∧Ob (vi (3:Int)=vi (errDrops p l))))∧(decide ((x:Int)<(l.length:Int))=false→True∧Ob (vi (0:Int)=vi (errDrops p l)))))∧((errPlaces p !=(0:Int))=true→True∧Ob (vi (6:Int)=vi (errDrops p l)))
theorem rcdV_eq : rcdV = fun (p : Int) (l : List Int) (c : Nat) => vc Try.prog { ct := rcdT } 1 33 true (rcdI p l c) rcdB [] (argFr 0 [vi p,.slice (some ⟨0,0,none⟩) l.length c]) [ros l] (retK Try.prog Try.f24 (fun v _ => v = vi (errDrops p l))) := by kernel_rfl
noncomputable def rcdN :=
fun (p:Int)↦((errPlaces p !=(0:Int))=false→(false=true→True∧Ob (vi (6:Int)=vi (errDrops p [])))∧(false=false→(∃ (y:Unit),Ob ((1:Int)≤p∧p≤(8:Int))∧True∧Ob (p=p)∧Ob (Value.slice none 0 0=Value.slice none 0 0)∧Ob ((0:Int)=(0:Int))∧True)∧∀ (x:Unit),Ob ((1:Int)≤p∧p≤(8:Int))→(false=true→False)∧(false=false→True∧Ob (vi (0:Int)=vi (errDrops p [])))))∧((errPlaces p !=(0:Int))=true→True∧Ob (vi (6:Int)=vi (errDrops p [])))
theorem rcdN_eq : rcdN = fun (p : Int) => vc Try.prog { ct := rcdT } 0 33 true (rcdIE p none 0 []) rcdB [] (argFr 0 [vi p,.slice none 0 0]) [] (retK Try.prog Try.f24 (fun v _ => v = vi (errDrops p []))) := by kernel_rfl
noncomputable def rcdH :=
fun (p:Int) (s:Option Nat) (c:Nat)↦((errPlaces p !=(0:Int))=false→(false=true→True∧Ob (vi (6:Int)=vi (errDrops p [])))∧(false=false→(∃ (y:Unit),Ob ((1:Int)≤p∧p≤(8:Int))∧True∧Ob (p=p)∧Ob (Value.slice (some ⟨0,0,s⟩) 0 c=Value.slice (some ⟨0,0,s⟩) 0 c)∧Ob ((0:Int)=(0:Int))∧True)∧∀ (x:Unit),Ob ((1:Int)≤p∧p≤(8:Int))→(false=true→Ob ((0:Int)≤(0:Int)∧(0:Int)<(↑(0:Nat):Int)∧std ⟨0,0,s⟩ c=true)∧False)∧(false=false→True∧Ob (vi (0:Int)=vi (errDrops p [])))))∧((errPlaces p !=(0:Int))=true→True∧Ob (vi (6:Int)=vi (errDrops p [])))
theorem rcdH_eq : rcdH = fun (p : Int) (s : Option Nat) (c : Nat) => vc Try.prog { ct := rcdT } 1 33 true (rcdIE p (some ⟨0,0,s⟩) c [.gone]) rcdB [] (argFr 0 [vi p,.slice (some ⟨0,0,s⟩) 0 c]) [.gone] (retK Try.prog Try.f24 (fun v _ => v = vi (errDrops p []))) := by kernel_rfl
theorem rplV_ok (p : Int) : rplV p := by
 unfold rplV errPlaces
 simp only [ob_iff,true_and,decide_eq_true_eq,decide_eq_false_iff_not,Value.int.injEq]
 refine ⟨fun h => ⟨fun h2 => ?_,fun h2 => ?_⟩,fun h => ?_⟩
 · rw [if_pos (.inr h2)]
 · rw [if_neg (by omega)]
 · rw [if_pos (.inl h)]
theorem rpl_call (p : Int) : Call Try.prog 56 [vi p] [] fun v _ => v = vi (errPlaces p) :=
 Call.ofVc (VOk.ofCt CtOk.none) mixed (c := rplB) (inv := fun _ => none) Try.func56 (by kernel_rfl) (cast (congrFun rplV_eq p) (rplV_ok p))
theorem rplG_ok : ∀ args H φ v H' l,rplG args H = some (φ,v,H',l)→Asks φ→Call Try.prog 56 args H (fun v' H2 => v' = v∧H2 = H')∧Kept H H' l := by
 intro args H φ v H' l h hφ
 unfold rplG at h
 split at h <;> cases h
 exact ⟨Call.ofArgs («as» := [.plain (vi _)]) (fun caps => rpl_call _) rfl ⟨rfl,rfl,trivial⟩,Kept.refl _ _⟩
theorem rall_of {p : Int} {l : List Int} {i : Nat} (hi : l.length≤i) (h : ∀ j,j < i→0≤l.getD j 0∧l.getD j 0 < p) : ∀ d ∈ l,0≤d∧d < p := fun d hd => by
 obtain ⟨j,h1,h2⟩ := List.getElem_of_mem hd
 have := h j (by omega)
 rw [List.getD_eq_getElem?_getD,List.getElem?_eq_getElem h1] at this
 simpa [h2] using this
theorem rcdV_ok (p : Int) (l : List Int) (c : Nat) (hl : l.length≤1000000) : rcdV p l c := by
 unfold rcdV errPlaces
 simp only [ob_iff,map_nmap_int,sc_ro_int,sc_rw_int,getI_map,intAt_map,true_and,and_true,eq_self,Int.toNat_natCast,Nat.zero_add,Nat.mul_one,decide_eq_true_eq,decide_eq_false_iff_not,Value.int.injEq,bne_iff_ne,ne_eq,bne_eq_false_iff_eq]
 have six : (p < 1∨8 < p∨12 < l.length)→6 = errDrops p l := fun h => by unfold errDrops; rw [if_pos h]
 have bad : ∀ {x : Nat},(1≤p∧p≤8∧l.length≤12)→x < l.length→¬ (0≤l.getD x 0∧l.getD x 0 < p)→3 = errDrops p l := fun h1 h2 h3 => by
   unfold errDrops
   rw [if_neg (by omega),if_neg fun h => h3 (h _ (getD_memR h2))]
 refine ⟨fun h0 => ?_,fun h0 => ?_⟩
 · have hp : 1 ≤ p ∧ p ≤ 8 := by
     by_cases h : p < 1∨8 < p
     · rw [if_pos h] at h0; cases h0
     · omega
   refine ⟨fun h => six (by omega),fun h => ⟨⟨0,⟨⟨by omega,by omega,by omega⟩,by omega,fun j hj => by omega⟩,rfl⟩,fun x ⟨h1,h2,h3⟩ => ⟨fun h4 => ⟨⟨by omega,by omega⟩,by omega,fun h5 => ⟨⟨by omega,by omega⟩,by omega,fun h6 => bad (x := x) h1 (by omega) (by omega),fun h6 => ?_⟩,fun h5 => bad (x := x) h1 (by omega) (by omega)⟩,fun h4 => ?_⟩⟩⟩
   · refine ⟨x + 1,⟨h1,by omega,fun j hj => ?_⟩,by omega,by rw [wrap_in (by omega) (by omega)]; rfl⟩
     by_cases e : j = x
     · subst e; omega
     · exact h3 j (by omega)
   · unfold errDrops
     rw [if_neg (by omega),if_pos (rall_of (by omega) h3)]
 · refine six ?_
   by_cases h : p < 1∨8 < p
   · omega
   · rw [if_neg h] at h0; exact absurd rfl h0
theorem rcdE_ok (p : Int) (h0 : (if p < 1∨8 < p then (6 : Int) else 0) = 0) : 1≤p∧p≤8 := by
 by_cases h : p < 1∨8 < p
 · rw [if_pos h] at h0; cases h0
 · omega
theorem rcdE_fin (p : Int) : ((if p < 1∨8 < p then (6 : Int) else 0) = 0→0 = errDrops p [])∧(¬(if p < 1∨8 < p then (6 : Int) else 0) = 0→6 = errDrops p []) := by
 refine ⟨fun h => ?_,fun h => ?_⟩
 · have := rcdE_ok p h
   unfold errDrops
   rw [if_neg (by simp; omega),if_pos (by simp)]
 · unfold errDrops
   by_cases h1 : p < 1∨8 < p
   · rw [if_pos (by omega)]
   · rw [if_neg h1] at h; exact absurd rfl h
theorem rcdN_ok (p : Int) : rcdN p := by
 unfold rcdN errPlaces
 simp only [ob_iff,true_and,and_true,eq_self,exists_const,decide_eq_true_eq,decide_eq_false_iff_not,Value.int.injEq,bne_iff_ne,ne_eq,bne_eq_false_iff_eq]
 exact ⟨fun h => ⟨fun h => (by cases h),fun _ => ⟨rcdE_ok p h,fun _ _ => ⟨fun h => (by cases h),fun _ => (rcdE_fin p).1 h⟩⟩⟩,(rcdE_fin p).2⟩
theorem rcdH_ok (p : Int) (s : Option Nat) (c : Nat) : rcdH p s c := by
 unfold rcdH errPlaces
 simp only [ob_iff,true_and,and_true,eq_self,exists_const,decide_eq_true_eq,decide_eq_false_iff_not,Value.int.injEq,bne_iff_ne,ne_eq,bne_eq_false_iff_eq]
 exact ⟨fun h => ⟨fun h => (by cases h),fun _ => ⟨rcdE_ok p h,fun _ _ => ⟨fun h => (by cases h),fun _ => (rcdE_fin p).1 h⟩⟩⟩,(rcdE_fin p).2⟩
theorem rcdT_ok : CtOk Try.prog rcdT := CtOk.none.add rplG_ok
theorem rcd_call (p : Int) (l : List Int) (c : Nat) (hl : l.length≤1000000) : Call Try.prog 24 [vi p,.slice (some ⟨0,0,none⟩) l.length c] [ros l] fun v _ => v = vi (errDrops p l) :=
 Call.ofVc (VOk.ofCt rcdT_ok) mixed (c := rcdB) (inv := rcdI p l c) Try.func24 (by kernel_rfl) (cast (congrFun (congrFun (congrFun rcdV_eq p) l) c) (rcdV_ok p l c hl))
theorem rcd_nil (p : Int) : Call Try.prog 24 [vi p,.slice none 0 0] [] fun v _ => v = vi (errDrops p []) :=
 Call.ofVc (VOk.ofCt rcdT_ok) mixed (c := rcdB) (inv := rcdIE p none 0 []) Try.func24 (by kernel_rfl) (cast (congrFun rcdN_eq p) (rcdN_ok p))
theorem rcd_hole (p : Int) (s : Option Nat) (c : Nat) : Call Try.prog 24 [vi p,.slice (some ⟨0,0,s⟩) 0 c] [.gone] fun v _ => v = vi (errDrops p []) :=
 Call.ofVc (VOk.ofCt rcdT_ok) mixed (c := rcdB) (inv := rcdIE p (some ⟨0,0,s⟩) c [.gone]) Try.func24 (by kernel_rfl) (cast (congrFun (congrFun (congrFun rcdH_eq p) s) c) (rcdH_ok p s c))
def rcdS (r : List Arg) : Prop × Value := match r with
 | [p,a] => (a.list.length≤1000000,vi (errDrops p.num a.list))
 | _ => (False,undef)
theorem rcdG_ok : ∀ args H φ v H' l,pureG [.int .i64,.ints .i64] rcdS args H = some (φ,v,H',l)→Asks φ→Call Try.prog 24 args H (fun v' H2 => v' = v∧H2 = H')∧Kept H H' l :=
 pureG_ok fun r hk hs => match r,hk with
   | [_,_],⟨⟨p,rfl⟩,ha,_⟩ => ⟨rfl,fun caps => by
     rcases ha with rfl | ⟨s,rfl⟩ | ⟨l,rfl⟩
     · exact rcd_nil p
     · exact rcd_hole p s _
     · exact rcd_call p l _ hs⟩
end Go.Pier.Lg
set_option maxRecDepth 100000
set_option linter.unusedVariables false
set_option linter.unusedSimpArgs false
namespace Go.Pier.Lg
open Go Go.Pier Go.Proofs
noncomputable def iiB : Code := Try.f25.body.getD .skip
def iiRI (l m : List Int) (c d : Nat) : Nat→Option LInv := invOf 0 (.one Nat (fun i => l.length = m.length∧i≤l.length∧∀ j,j < i→l.getD j 0 = m.getD j 0) (fun i => [(0,.slice (some ⟨0,0,none⟩) l.length c),(1,.slice (some ⟨1,0,none⟩) m.length d),(5,vi i)]) (fun _ => [ros l,ros m]) (fun i => l.length - i))
def iiEI (a b : Value) (p : Prop) (H : Heap) : Nat→Option LInv := invOf 0 (.one Unit (fun _ => p) (fun _ => [(0,a),(1,b),(5,vi 0)]) (fun _ => H) (fun _ => 0))
noncomputable def iiNN :=
fun (x:Unit)↦(false=true→True∧Ob (Value.bool false=Value.bool true))∧(false=false→(∃ (y:Unit),Ob True∧True∧Ob (Value.slice none 0 0=Value.slice none 0 0)∧Ob (Value.slice none 0 0=Value.slice none 0 0)∧Ob ((0:Int)=(0:Int))∧True)∧∀ (xq:Unit),Ob True→(false=true→False)∧(false=false→True∧Ob (Value.bool true=Value.bool true)))
theorem iiNN_eq : iiNN = fun (_ : Unit) => vc Try.prog {} 0 26 true (iiEI (.slice none 0 0) (.slice none 0 0) (True) []) iiB [] (argFr 0 [.slice none 0 0,.slice none 0 0]) [] (retK Try.prog Try.f25 (fun v _ => v = .bool true)) := by kernel_rfl
noncomputable def iiNH :=
fun (s1:Option Nat) (c1:Nat)↦(false=true→True∧Ob (Value.bool false=Value.bool true))∧(false=false→(∃ (y:Unit),Ob True∧True∧Ob (Value.slice none 0 0=Value.slice none 0 0)∧Ob (Value.slice (some ⟨0,0,s1⟩) 0 c1=Value.slice (some ⟨0,0,s1⟩) 0 c1)∧Ob ((0:Int)=(0:Int))∧True)∧∀ (x:Unit),Ob True→(false=true→False)∧(false=false→True∧Ob (Value.bool true=Value.bool true)))
theorem iiNH_eq : iiNH = fun (s1 : Option Nat) (c1 : Nat) => vc Try.prog {} 1 26 true (iiEI (.slice none 0 0) (.slice (some ⟨0,0,s1⟩) 0 c1) (True) [.gone]) iiB [] (argFr 0 [.slice none 0 0,.slice (some ⟨0,0,s1⟩) 0 c1]) [.gone] (retK Try.prog Try.f25 (fun v _ => v = .bool true)) := by kernel_rfl
noncomputable def iiNR :=
fun (l1:List Int) (c1:Nat)↦(((↑(0:Nat):Int) !=(l1.length:Int))=true→True∧Ob (Value.bool false=Value.bool (decide ([]=l1))))∧(((↑(0:Nat):Int) !=(l1.length:Int))=false→(∃ (y:Unit),Ob (l1.length=0)∧(Ob (AObj.ro (List.map (Value.int IntKind.i64) l1)=AObj.ro (List.map (nmap1 fun (b:Nat)↦b) (List.map (Value.int IntKind.i64) l1))∧AObj.sc 1 (AObj.ro (List.map (Value.int IntKind.i64) l1))=true)∧True)∧Ob (Value.slice none 0 0=Value.slice none 0 0)∧Ob (Value.slice (some (ad0 0)) l1.length c1=Value.slice (some (ad0 0)) l1.length c1)∧Ob ((0:Int)=(0:Int))∧True)∧∀ (x:Unit),Ob (l1.length=0)→(false=true→False)∧(false=false→True∧Ob (Value.bool true=Value.bool (decide ([]=l1)))))
theorem iiNR_eq : iiNR = fun (l1 : List Int) (c1 : Nat) => vc Try.prog {} 1 26 true (iiEI (.slice none 0 0) (.slice (some ⟨0,0,none⟩) l1.length c1) (l1.length = 0) [ros l1]) iiB [] (argFr 0 [.slice none 0 0,.slice (some ⟨0,0,none⟩) l1.length c1]) [ros l1] (retK Try.prog Try.f25 (fun v _ => v = .bool (decide ([] = l1)))) := by kernel_rfl
noncomputable def iiHN :=
fun (s0:Option Nat) (c0:Nat)↦(false=true→True∧Ob (Value.bool false=Value.bool true))∧(false=false→(∃ (y:Unit),Ob True∧True∧Ob (Value.slice (some ⟨0,0,s0⟩) 0 c0=Value.slice (some ⟨0,0,s0⟩) 0 c0)∧Ob (Value.slice none 0 0=Value.slice none 0 0)∧Ob ((0:Int)=(0:Int))∧True)∧∀ (x:Unit),Ob True→(false=true→Ob ((0:Int)≤(0:Int)∧(0:Int)<(↑(0:Nat):Int)∧std ⟨0,0,s0⟩ c0=true)∧False)∧(false=false→True∧Ob (Value.bool true=Value.bool true)))
theorem iiHN_eq : iiHN = fun (s0 : Option Nat) (c0 : Nat) => vc Try.prog {} 1 26 true (iiEI (.slice (some ⟨0,0,s0⟩) 0 c0) (.slice none 0 0) (True) [.gone]) iiB [] (argFr 0 [.slice (some ⟨0,0,s0⟩) 0 c0,.slice none 0 0]) [.gone] (retK Try.prog Try.f25 (fun v _ => v = .bool true)) := by kernel_rfl
noncomputable def iiHH :=
fun (s0:Option Nat) (c0:Nat) (s1:Option Nat) (c1:Nat)↦(false=true→True∧Ob (Value.bool false=Value.bool true))∧(false=false→(∃ (y:Unit),Ob True∧True∧Ob (Value.slice (some ⟨0,0,s0⟩) 0 c0=Value.slice (some ⟨0,0,s0⟩) 0 c0)∧Ob (Value.slice (some ⟨1,0,s1⟩) 0 c1=Value.slice (some ⟨1,0,s1⟩) 0 c1)∧Ob ((0:Int)=(0:Int))∧True)∧∀ (x:Unit),Ob True→(false=true→Ob ((0:Int)≤(0:Int)∧(0:Int)<(↑(0:Nat):Int)∧std ⟨0,0,s0⟩ c0=true)∧False)∧(false=false→True∧Ob (Value.bool true=Value.bool true)))
theorem iiHH_eq : iiHH = fun (s0 : Option Nat) (c0 : Nat) (s1 : Option Nat) (c1 : Nat) => vc Try.prog {} 2 26 true (iiEI (.slice (some ⟨0,0,s0⟩) 0 c0) (.slice (some ⟨1,0,s1⟩) 0 c1) (True) [.gone,.gone]) iiB [] (argFr 0 [.slice (some ⟨0,0,s0⟩) 0 c0,.slice (some ⟨1,0,s1⟩) 0 c1]) [.gone,.gone] (retK Try.prog Try.f25 (fun v _ => v = .bool true)) := by kernel_rfl
noncomputable def iiHR :=
fun (s0:Option Nat) (c0:Nat) (l1:List Int) (c1:Nat)↦(((↑(0:Nat):Int) !=(l1.length:Int))=true→True∧Ob (Value.bool false=Value.bool (decide ([]=l1))))∧(((↑(0:Nat):Int) !=(l1.length:Int))=false→(∃ (y:Unit),Ob (l1.length=0)∧(Ob (AObj.ro (List.map (Value.int IntKind.i64) l1)=AObj.ro (List.map (nmap1 fun (b:Nat)↦b) (List.map (Value.int IntKind.i64) l1))∧AObj.sc 2 (AObj.ro (List.map (Value.int IntKind.i64) l1))=true)∧True)∧Ob (Value.slice (some ⟨0,0,s0⟩) 0 c0=Value.slice (some ⟨0,0,s0⟩) 0 c0)∧Ob (Value.slice (some (ad0 1)) l1.length c1=Value.slice (some (ad0 1)) l1.length c1)∧Ob ((0:Int)=(0:Int))∧True)∧∀ (x:Unit),Ob (l1.length=0)→(false=true→Ob ((0:Int)≤(0:Int)∧(0:Int)<(↑(0:Nat):Int)∧std ⟨0,0,s0⟩ c0=true)∧False)∧(false=false→True∧Ob (Value.bool true=Value.bool (decide ([]=l1)))))
theorem iiHR_eq : iiHR = fun (s0 : Option Nat) (c0 : Nat) (l1 : List Int) (c1 : Nat) => vc Try.prog {} 2 26 true (iiEI (.slice (some ⟨0,0,s0⟩) 0 c0) (.slice (some ⟨1,0,none⟩) l1.length c1) (l1.length = 0) [.gone,ros l1]) iiB [] (argFr 0 [.slice (some ⟨0,0,s0⟩) 0 c0,.slice (some ⟨1,0,none⟩) l1.length c1]) [.gone,ros l1] (retK Try.prog Try.f25 (fun v _ => v = .bool (decide ([] = l1)))) := by kernel_rfl
noncomputable def iiRN :=
fun (l0:List Int) (c0:Nat)↦(((l0.length:Int) !=(↑(0:Nat):Int))=true→True∧Ob (Value.bool false=Value.bool (decide (l0=[]))))∧(((l0.length:Int) !=(↑(0:Nat):Int))=false→(∃ (y:Unit),Ob (l0.length=0)∧(Ob (AObj.ro (List.map (Value.int IntKind.i64) l0)=AObj.ro (List.map (nmap1 fun (b:Nat)↦b) (List.map (Value.int IntKind.i64) l0))∧AObj.sc 1 (AObj.ro (List.map (Value.int IntKind.i64) l0))=true)∧True)∧Ob (Value.slice (some (ad0 0)) l0.length c0=Value.slice (some (ad0 0)) l0.length c0)∧Ob (Value.slice none 0 0=Value.slice none 0 0)∧Ob ((0:Int)=(0:Int))∧True)∧∀ (x:Unit),Ob (l0.length=0)→(decide ((0:Int)<(l0.length:Int))=true→Ob ((0:Int)≤(0:Int)∧(0:Int)<(l0.length:Int)∧true=true)∧Ob (IntAt IntKind.i64 (List.map (Value.int IntKind.i64) l0) 0)∧False)∧(decide ((0:Int)<(l0.length:Int))=false→True∧Ob (Value.bool true=Value.bool (decide (l0=[])))))
theorem iiRN_eq : iiRN = fun (l0 : List Int) (c0 : Nat) => vc Try.prog {} 1 26 true (iiEI (.slice (some ⟨0,0,none⟩) l0.length c0) (.slice none 0 0) (l0.length = 0) [ros l0]) iiB [] (argFr 0 [.slice (some ⟨0,0,none⟩) l0.length c0,.slice none 0 0]) [ros l0] (retK Try.prog Try.f25 (fun v _ => v = .bool (decide (l0 = [])))) := by kernel_rfl
noncomputable def iiRH :=
fun (l0:List Int) (c0:Nat) (s1:Option Nat) (c1:Nat)↦(((l0.length:Int) !=(↑(0:Nat):Int))=true→True∧Ob (Value.bool false=Value.bool (decide (l0=[]))))∧(((l0.length:Int) !=(↑(0:Nat):Int))=false→(∃ (y:Unit),Ob (l0.length=0)∧(Ob (AObj.ro (List.map (Value.int IntKind.i64) l0)=AObj.ro (List.map (nmap1 fun (b:Nat)↦b) (List.map (Value.int IntKind.i64) l0))∧AObj.sc 2 (AObj.ro (List.map (Value.int IntKind.i64) l0))=true)∧True)∧Ob (Value.slice (some (ad0 0)) l0.length c0=Value.slice (some (ad0 0)) l0.length c0)∧Ob (Value.slice (some ⟨1,0,s1⟩) 0 c1=Value.slice (some ⟨1,0,s1⟩) 0 c1)∧Ob ((0:Int)=(0:Int))∧True)∧∀ (x:Unit),Ob (l0.length=0)→(decide ((0:Int)<(l0.length:Int))=true→Ob ((0:Int)≤(0:Int)∧(0:Int)<(l0.length:Int)∧true=true)∧Ob (IntAt IntKind.i64 (List.map (Value.int IntKind.i64) l0) 0)∧Ob ((0:Int)≤(0:Int)∧(0:Int)<(↑(0:Nat):Int)∧std ⟨1,0,s1⟩ c1=true)∧False)∧(decide ((0:Int)<(l0.length:Int))=false→True∧Ob (Value.bool true=Value.bool (decide (l0=[])))))
theorem iiRH_eq : iiRH = fun (l0 : List Int) (c0 : Nat) (s1 : Option Nat) (c1 : Nat) => vc Try.prog {} 2 26 true (iiEI (.slice (some ⟨0,0,none⟩) l0.length c0) (.slice (some ⟨1,0,s1⟩) 0 c1) (l0.length = 0) [ros l0,.gone]) iiB [] (argFr 0 [.slice (some ⟨0,0,none⟩) l0.length c0,.slice (some ⟨1,0,s1⟩) 0 c1]) [ros l0,.gone] (retK Try.prog Try.f25 (fun v _ => v = .bool (decide (l0 = [])))) := by kernel_rfl
noncomputable def iiRR :=
fun (l0:List Int) (c0:Nat) (l1:List Int) (c1:Nat)↦(((l0.length:Int) !=(l1.length:Int))=true→True∧Ob (Value.bool false=Value.bool (decide (l0=l1))))∧(((l0.length:Int) !=(l1.length:Int))=false→(∃ (y:Nat),Ob (l0.length=l1.length∧y≤l0.length∧∀ (j:Nat),j<y→l0.getD j (0:Int)=l1.getD j (0:Int))∧(Ob (AObj.ro (List.map (Value.int IntKind.i64) l0)=AObj.ro (List.map (nmap1 fun (b:Nat)↦b) (List.map (Value.int IntKind.i64) l0))∧AObj.sc 2 (AObj.ro (List.map (Value.int IntKind.i64) l0))=true)∧Ob (AObj.ro (List.map (Value.int IntKind.i64) l1)=AObj.ro (List.map (nmap1 fun (b:Nat)↦b) (List.map (Value.int IntKind.i64) l1))∧AObj.sc 2 (AObj.ro (List.map (Value.int IntKind.i64) l1))=true)∧True)∧Ob (Value.slice (some (ad0 0)) l0.length c0=Value.slice (some (ad0 0)) l0.length c0)∧Ob (Value.slice (some (ad0 1)) l1.length c1=Value.slice (some (ad0 1)) l1.length c1)∧Ob ((0:Int)=(y:Int))∧True)∧∀ (x:Nat),Ob (l0.length=l1.length∧x≤l0.length∧∀ (j:Nat),j<x→l0.getD j (0:Int)=l1.getD j (0:Int))→(decide ((x:Int)<(l0.length:Int))=true→Ob ((0:Int)≤(x:Int)∧(x:Int)<(l0.length:Int)∧true=true)∧Ob (IntAt IntKind.i64 (List.map (Value.int IntKind.i64) l0) (0+(x:Int).toNat * 1))∧Ob ((0:Int)≤(x:Int)∧(x:Int)<(l1.length:Int)∧true=true)∧Ob (IntAt IntKind.i64 (List.map (Value.int IntKind.i64) l1) (0+(x:Int).toNat * 1))∧((getI (List.map (Value.int IntKind.i64) l0) (0+(x:Int).toNat * 1) !=getI (List.map (Value.int IntKind.i64) l1) (0+(x:Int).toNat * 1))=true→True∧Ob (Value.bool false=Value.bool (decide (l0=l1))))∧((getI (List.map (Value.int IntKind.i64) l0) (0+(x:Int).toNat * 1) !=getI (List.map (Value.int IntKind.i64) l1) (0+(x:Int).toNat * 1))=false→∃ (y:Nat),Ob (l0.length=l1.length∧y≤l0.length∧∀ (j:Nat),j<y→l0.getD j (0:Int)=l1.getD j (0:Int))∧Ob (l0.length-y<l0.length-x)∧(Ob (AObj.ro (List.map (Value.int IntKind.i64) l0)=AObj.ro (List.map (nmap1 fun (b:Nat)↦b) (List.map (Value.int IntKind.i64) l0))∧AObj.sc 2 (AObj.ro (List.map (Value.int IntKind.i64) l0))=true)∧Ob (AObj.ro (List.map (Value.int IntKind.i64) l1)=AObj.ro (List.map (nmap1 fun (b:Nat)↦b) (List.map (Value.int IntKind.i64) l1))∧AObj.sc 2 (AObj.ro (List.map (Value.int IntKind.i64) l1))=true)∧True)∧Ob (Value.slice (some (ad0 0)) l0.length c0=Value.slice (some (ad0 0)) l0.length c0)∧Ob (Value.slice (some (ad0 1)) l1.length c1=Value.slice (some (ad0 1)) l1.length c1)∧Ob (IntKind.i64.wrap ((x:Int)+(1:Int))=(y:Int))∧True))∧(decide ((x:Int)<(l0.length:Int))=false→True∧Ob (Value.bool true=Value.bool (decide (l0=l1)))))
theorem iiRR_eq : iiRR = fun (l0 : List Int) (c0 : Nat) (l1 : List Int) (c1 : Nat) => vc Try.prog {} 2 26 true (iiRI l0 l1 c0 c1) iiB [] (argFr 0 [.slice (some ⟨0,0,none⟩) l0.length c0,.slice (some ⟨1,0,none⟩) l1.length c1]) [ros l0,ros l1] (retK Try.prog Try.f25 (fun v _ => v = .bool (decide (l0 = l1)))) := by kernel_rfl
theorem lists_eq {l m : List Int} (h : l.length = m.length) (hj : ∀ j,j < l.length→l.getD j 0 = m.getD j 0) : l = m := by
 refine List.ext_getElem h fun i h1 h2 => ?_
 have := hj i h1
 rw [List.getD_eq_getElem?_getD,List.getD_eq_getElem?_getD,List.getElem?_eq_getElem h1,List.getElem?_eq_getElem h2] at this
 exact this
theorem iiNN_ok (u : Unit) : iiNN u := by
 unfold iiNN
 simp only [ob_iff,map_nmap_int,sc_ro_int,sc_rw_int,getI_map,intAt_map,true_and,and_true,eq_self,Int.toNat_natCast,Nat.zero_add,Nat.mul_one,decide_eq_true_eq,decide_eq_false_iff_not,Value.bool.injEq,bne_iff_ne,ne_eq,bne_eq_false_iff_eq,exists_const,forall_const,true_implies]
 exact ⟨fun h => absurd h (by decide),fun h => absurd h (by decide)⟩
theorem iiNH_ok (s1 : Option Nat) (c1 : Nat) : iiNH s1 c1 := by
 unfold iiNH
 simp only [ob_iff,map_nmap_int,sc_ro_int,sc_rw_int,getI_map,intAt_map,true_and,and_true,eq_self,Int.toNat_natCast,Nat.zero_add,Nat.mul_one,decide_eq_true_eq,decide_eq_false_iff_not,Value.bool.injEq,bne_iff_ne,ne_eq,bne_eq_false_iff_eq,exists_const,forall_const,true_implies]
 exact ⟨fun h => absurd h (by decide),fun h => absurd h (by decide)⟩
theorem iiNR_ok (l1 : List Int) (c1 : Nat) : iiNR l1 c1 := by
 unfold iiNR
 simp only [ob_iff,map_nmap_int,sc_ro_int,sc_rw_int,getI_map,intAt_map,true_and,and_true,eq_self,Int.toNat_natCast,Nat.zero_add,Nat.mul_one,decide_eq_true_eq,decide_eq_false_iff_not,Value.bool.injEq,bne_iff_ne,ne_eq,bne_eq_false_iff_eq,exists_const,forall_const,true_implies]
 cases l1 with
 | nil => simp
 | cons a t => simp; try omega
theorem iiHN_ok (s0 : Option Nat) (c0 : Nat) : iiHN s0 c0 := by
 unfold iiHN
 simp only [ob_iff,map_nmap_int,sc_ro_int,sc_rw_int,getI_map,intAt_map,true_and,and_true,eq_self,Int.toNat_natCast,Nat.zero_add,Nat.mul_one,decide_eq_true_eq,decide_eq_false_iff_not,Value.bool.injEq,bne_iff_ne,ne_eq,bne_eq_false_iff_eq,exists_const,forall_const,true_implies]
 exact ⟨fun h => absurd h (by decide),fun h => absurd h (by decide)⟩
theorem iiHH_ok (s0 : Option Nat) (c0 : Nat) (s1 : Option Nat) (c1 : Nat) : iiHH s0 c0 s1 c1 := by
 unfold iiHH
 simp only [ob_iff,map_nmap_int,sc_ro_int,sc_rw_int,getI_map,intAt_map,true_and,and_true,eq_self,Int.toNat_natCast,Nat.zero_add,Nat.mul_one,decide_eq_true_eq,decide_eq_false_iff_not,Value.bool.injEq,bne_iff_ne,ne_eq,bne_eq_false_iff_eq,exists_const,forall_const,true_implies]
 exact ⟨fun h => absurd h (by decide),fun h => absurd h (by decide)⟩
theorem iiHR_ok (s0 : Option Nat) (c0 : Nat) (l1 : List Int) (c1 : Nat) : iiHR s0 c0 l1 c1 := by
 unfold iiHR
 simp only [ob_iff,map_nmap_int,sc_ro_int,sc_rw_int,getI_map,intAt_map,true_and,and_true,eq_self,Int.toNat_natCast,Nat.zero_add,Nat.mul_one,decide_eq_true_eq,decide_eq_false_iff_not,Value.bool.injEq,bne_iff_ne,ne_eq,bne_eq_false_iff_eq,exists_const,forall_const,true_implies]
 cases l1 with
 | nil => simp
 | cons a t => simp; try omega
theorem iiRN_ok (l0 : List Int) (c0 : Nat) : iiRN l0 c0 := by
 unfold iiRN
 simp only [ob_iff,map_nmap_int,sc_ro_int,sc_rw_int,getI_map,intAt_map,true_and,and_true,eq_self,Int.toNat_natCast,Nat.zero_add,Nat.mul_one,decide_eq_true_eq,decide_eq_false_iff_not,Value.bool.injEq,bne_iff_ne,ne_eq,bne_eq_false_iff_eq,exists_const,forall_const,true_implies]
 cases l0 with
 | nil => simp
 | cons a t => simp; try omega
theorem iiRH_ok (l0 : List Int) (c0 : Nat) (s1 : Option Nat) (c1 : Nat) : iiRH l0 c0 s1 c1 := by
 unfold iiRH
 simp only [ob_iff,map_nmap_int,sc_ro_int,sc_rw_int,getI_map,intAt_map,true_and,and_true,eq_self,Int.toNat_natCast,Nat.zero_add,Nat.mul_one,decide_eq_true_eq,decide_eq_false_iff_not,Value.bool.injEq,bne_iff_ne,ne_eq,bne_eq_false_iff_eq,exists_const,forall_const,true_implies]
 cases l0 with
 | nil => simp
 | cons a t => simp; try omega
theorem iiRR_ok (l0 : List Int) (c0 : Nat) (l1 : List Int) (c1 : Nat)  (hl : l0.length≤1000000): iiRR l0 c0 l1 c1 := by
 unfold iiRR
 simp only [ob_iff,map_nmap_int,sc_ro_int,sc_rw_int,getI_map,intAt_map,true_and,and_true,eq_self,Int.toNat_natCast,Nat.zero_add,Nat.mul_one,decide_eq_true_eq,decide_eq_false_iff_not,Value.bool.injEq,bne_iff_ne,ne_eq,bne_eq_false_iff_eq,exists_const,forall_const,true_implies]
 have ne : ∀ {j : Nat},j < l0.length→¬ l0.getD j 0 = l1.getD j 0→false = decide (l0 = l1) := fun {j} h1 h2 => by
   symm; rw [decide_eq_false_iff_not]; intro e; subst e; exact h2 rfl
 refine ⟨fun h => ?_,fun h => ⟨⟨0,⟨by omega,by omega,fun j hj => by omega⟩,rfl⟩,fun x ⟨h1,h2,h3⟩ => ⟨fun h4 => ?_,fun h4 => ?_⟩⟩⟩
 · symm; rw [decide_eq_false_iff_not]; intro e; subst e; exact h rfl
 · refine ⟨⟨by omega,by omega⟩,by omega,⟨by omega,by omega⟩,by omega,fun h5 => ne (j := x) (by omega) h5,fun h5 => ⟨x + 1,⟨h1,by omega,fun j hj => ?_⟩,by omega,by rw [wrap_in (by omega) (by omega)]; rfl⟩⟩
   by_cases e : j = x
   · subst e; exact h5
   · exact h3 j (by omega)
 · symm; rw [decide_eq_true_iff]; exact lists_eq h1 fun j hj => h3 j (by omega)
theorem iiNN_call : Call Try.prog 25 [.slice none 0 0,.slice none 0 0] [] fun v _ => v = .bool true :=
 Call.ofVc (VOk.ofCt CtOk.none) mixed (c := iiB) (inv := iiEI (.slice none 0 0) (.slice none 0 0) (True) []) Try.func25 (by kernel_rfl) (cast (congrFun (iiNN_eq) ()) (iiNN_ok ()))
theorem iiNH_call (s1 : Option Nat) (c1 : Nat) : Call Try.prog 25 [.slice none 0 0,.slice (some ⟨0,0,s1⟩) 0 c1] [.gone] fun v _ => v = .bool true :=
 Call.ofVc (VOk.ofCt CtOk.none) mixed (c := iiB) (inv := iiEI (.slice none 0 0) (.slice (some ⟨0,0,s1⟩) 0 c1) (True) [.gone]) Try.func25 (by kernel_rfl) (cast (congrFun (congrFun (iiNH_eq) s1) c1) (iiNH_ok s1 c1))
theorem iiNR_call (l1 : List Int) (c1 : Nat) : Call Try.prog 25 [.slice none 0 0,.slice (some ⟨0,0,none⟩) l1.length c1] [ros l1] fun v _ => v = .bool (decide ([] = l1)) :=
 Call.ofVc (VOk.ofCt CtOk.none) mixed (c := iiB) (inv := iiEI (.slice none 0 0) (.slice (some ⟨0,0,none⟩) l1.length c1) (l1.length = 0) [ros l1]) Try.func25 (by kernel_rfl) (cast (congrFun (congrFun (iiNR_eq) l1) c1) (iiNR_ok l1 c1))
theorem iiHN_call (s0 : Option Nat) (c0 : Nat) : Call Try.prog 25 [.slice (some ⟨0,0,s0⟩) 0 c0,.slice none 0 0] [.gone] fun v _ => v = .bool true :=
 Call.ofVc (VOk.ofCt CtOk.none) mixed (c := iiB) (inv := iiEI (.slice (some ⟨0,0,s0⟩) 0 c0) (.slice none 0 0) (True) [.gone]) Try.func25 (by kernel_rfl) (cast (congrFun (congrFun (iiHN_eq) s0) c0) (iiHN_ok s0 c0))
theorem iiHH_call (s0 : Option Nat) (c0 : Nat) (s1 : Option Nat) (c1 : Nat) : Call Try.prog 25 [.slice (some ⟨0,0,s0⟩) 0 c0,.slice (some ⟨1,0,s1⟩) 0 c1] [.gone,.gone] fun v _ => v = .bool true :=
 Call.ofVc (VOk.ofCt CtOk.none) mixed (c := iiB) (inv := iiEI (.slice (some ⟨0,0,s0⟩) 0 c0) (.slice (some ⟨1,0,s1⟩) 0 c1) (True) [.gone,.gone]) Try.func25 (by kernel_rfl) (cast (congrFun (congrFun (congrFun (congrFun (iiHH_eq) s0) c0) s1) c1) (iiHH_ok s0 c0 s1 c1))
theorem iiHR_call (s0 : Option Nat) (c0 : Nat) (l1 : List Int) (c1 : Nat) : Call Try.prog 25 [.slice (some ⟨0,0,s0⟩) 0 c0,.slice (some ⟨1,0,none⟩) l1.length c1] [.gone,ros l1] fun v _ => v = .bool (decide ([] = l1)) :=
 Call.ofVc (VOk.ofCt CtOk.none) mixed (c := iiB) (inv := iiEI (.slice (some ⟨0,0,s0⟩) 0 c0) (.slice (some ⟨1,0,none⟩) l1.length c1) (l1.length = 0) [.gone,ros l1]) Try.func25 (by kernel_rfl) (cast (congrFun (congrFun (congrFun (congrFun (iiHR_eq) s0) c0) l1) c1) (iiHR_ok s0 c0 l1 c1))
theorem iiRN_call (l0 : List Int) (c0 : Nat) : Call Try.prog 25 [.slice (some ⟨0,0,none⟩) l0.length c0,.slice none 0 0] [ros l0] fun v _ => v = .bool (decide (l0 = [])) :=
 Call.ofVc (VOk.ofCt CtOk.none) mixed (c := iiB) (inv := iiEI (.slice (some ⟨0,0,none⟩) l0.length c0) (.slice none 0 0) (l0.length = 0) [ros l0]) Try.func25 (by kernel_rfl) (cast (congrFun (congrFun (iiRN_eq) l0) c0) (iiRN_ok l0 c0))
theorem iiRH_call (l0 : List Int) (c0 : Nat) (s1 : Option Nat) (c1 : Nat) : Call Try.prog 25 [.slice (some ⟨0,0,none⟩) l0.length c0,.slice (some ⟨1,0,s1⟩) 0 c1] [ros l0,.gone] fun v _ => v = .bool (decide (l0 = [])) :=
 Call.ofVc (VOk.ofCt CtOk.none) mixed (c := iiB) (inv := iiEI (.slice (some ⟨0,0,none⟩) l0.length c0) (.slice (some ⟨1,0,s1⟩) 0 c1) (l0.length = 0) [ros l0,.gone]) Try.func25 (by kernel_rfl) (cast (congrFun (congrFun (congrFun (congrFun (iiRH_eq) l0) c0) s1) c1) (iiRH_ok l0 c0 s1 c1))
theorem iiRR_call (l0 : List Int) (c0 : Nat) (l1 : List Int) (c1 : Nat)  (hl : l0.length≤1000000): Call Try.prog 25 [.slice (some ⟨0,0,none⟩) l0.length c0,.slice (some ⟨1,0,none⟩) l1.length c1] [ros l0,ros l1] fun v _ => v = .bool (decide (l0 = l1)) :=
 Call.ofVc (VOk.ofCt CtOk.none) mixed (c := iiB) (inv := iiRI l0 l1 c0 c1) Try.func25 (by kernel_rfl) (cast (congrFun (congrFun (congrFun (congrFun (iiRR_eq) l0) c0) l1) c1) (iiRR_ok l0 c0 l1 c1 hl))
def iiS (r : List Arg) : Prop × Value := match r with
 | [a,b] => (a.list.length≤1000000,.bool (decide (a.list = b.list)))
 | _ => (False,undef)
theorem iiG_ok : ∀ args H φ v H' l,pureG [.ints .i64,.ints .i64] iiS args H = some (φ,v,H',l)→Asks φ→Call Try.prog 25 args H (fun v' H2 => v' = v∧H2 = H')∧Kept H H' l :=
 pureG_ok fun r hk hs => match r,hk with
   | [_,_],⟨ha,hb,_⟩ => by
     rcases ha with rfl | ⟨s,rfl⟩ | ⟨l,rfl⟩ <;> rcases hb with rfl | ⟨s',rfl⟩ | ⟨l',rfl⟩ <;> refine ⟨rfl,fun caps => ?_⟩
     · exact iiNN_call
     · exact iiNH_call s' _
     · exact iiNR_call l' _
     · exact iiHN_call s _
     · exact iiHH_call s _ s' _
     · exact iiHR_call s _ l' _
     · exact iiRN_call l _
     · exact iiRH_call l _ s' _
     · exact iiRR_call l _ l' _ hs
end Go.Pier.Lg
set_option maxRecDepth 100000
set_option linter.unusedVariables false
set_option linter.unusedSimpArgs false
namespace Go.Pier.Lg
open Go Go.Pier Go.Proofs
theorem Call.gone {f : FuncId} {args : List Value} {H : Heap} {q : Value→Prop} (h : Call Try.prog f args (H ++ [.gone]) fun v _ => q v) : Call Try.prog f args H fun v _ => q v := fun ρ w R hs => by
 have hwr : ∀ b,wr (H ++ [.gone]) b = true→wr H b = true := fun b hb => by
   by_cases hl : b < H.length
   · unfold wr at hb ⊢; rwa [List.getElem?_append_left hl] at hb
   · unfold wr at hb
     rw [List.getElem?_append_right (by omega)] at hb
     by_cases e : b - H.length = 0
     · rw [e] at hb; simp at hb
     · rw [List.getElem?_eq_none (by simp; omega)] at hb; cases hb
 have hro : ∀ b,isRo (H ++ [.gone]) b = true→isRo H b = true := fun b hb => by
   by_cases hl : b < H.length
   · unfold isRo at hb ⊢; rwa [List.getElem?_append_left hl] at hb
   · unfold isRo at hb
     rw [List.getElem?_append_right (by omega)] at hb
     by_cases e : b - H.length = 0
     · rw [e] at hb; simp at hb
     · rw [List.getElem?_eq_none (by simp; omega)] at hb; cases hb
 have hmx : ∀ b,isMix (H ++ [.gone]) b = true→isMix H b = true := fun b hb => by
   by_cases hl : b < H.length
   · unfold isMix at hb ⊢; rwa [List.getElem?_append_left hl] at hb
   · unfold isMix at hb
     rw [List.getElem?_append_right (by omega)] at hb
     by_cases e : b - H.length = 0
     · rw [e] at hb; simp at hb
     · rw [List.getElem?_eq_none (by simp; omega)] at hb; cases hb
 have hget : ∀ (b : Nat) (o : AObj),(H ++ [.gone])[b]? = some o→o = .gone∨H[b]? = some o := fun b o hb => by
   by_cases hl : b < H.length
   · rw [List.getElem?_append_left hl] at hb; exact .inr hb
   · rw [List.getElem?_append_right (by omega)] at hb
     by_cases e : b - H.length = 0
     · rw [e] at hb; simp at hb; exact .inl hb.symm
     · rw [List.getElem?_eq_none (by simp; omega)] at hb; cases hb
 have R2 : Rel ρ (H ++ [.gone]) w := ⟨fun b o hb => by
     rcases hget b o hb with rfl | h1
     · trivial
     · exact R.obj b o h1,fun b b' hb hb' => R.inj b b' (hwr b hb) (hwr b' hb'),fun b b' hb hb' => R.sep b b' (hro b hb) (hwr b' hb'),fun b b' hb hb' => R.deep b b' (hmx b hb) (hwr b' hb'),fun b o hb => by
     rcases hget b o hb with rfl | h1
     · rfl
     · exact AObj.sc_mono (by simp) (R.scp b o h1)⟩
 refine (h ρ w R2 (List.all_eq_true.2 fun v hv => sc_mono (by simp) (List.all_eq_true.1 hs v hv))).mono ?_
 rintro e w' ⟨ρ',v,H',rfl,hq,R',X,s'⟩
 have hl : H.length + 1≤H'.length := by have := X.len; simpa using this
 have hwi : ∀ b,wr H b = true→wr (H ++ [.gone]) b = true := fun b hb => by
   have := wr_lt hb
   unfold wr at hb ⊢; rwa [List.getElem?_append_left this]
 refine ⟨ρ',v,H',rfl,hq,R',⟨by omega,fun b hb => X.agree b (by simp only [List.length_append,List.length_cons,List.length_nil]; omega),X.size,fun k hk hn => X.keep k hk fun b hb => hn b (hwr b hb),fun b hb => ?_,fun b hb => ?_,fun b hb => hmx b (X.mix b hb),X.os,X.tape,X.output⟩,s'⟩
 · rcases X.wr b hb with h1 | ⟨h1,h2⟩
   · exact .inl (hwr b h1)
   · refine .inr ⟨by simp only [List.length_append,List.length_cons,List.length_nil] at h1; omega,?_⟩
     rcases h2 with h2 | ⟨b0,h3,h4⟩
     · exact .inl h2
     · exact .inr ⟨b0,hwr b0 h3,h4⟩
 · rcases X.ro b hb with h1 | ⟨h1,b0,h3,h4⟩
   · exact .inl (hro b h1)
   · exact .inr ⟨by simp only [List.length_append,List.length_cons,List.length_nil] at h1; omega,b0,hmx b0 h3,h4⟩
theorem fits_cons {p : PK} {ps : List PK} {r : List Arg} (h : fitsAll (p :: ps) r) : ∃ a r',r = a :: r'∧p.fits a∧fitsAll ps r' := by
 cases r with
 | nil => exact h.elim
 | cons a r => exact ⟨a,r,rfl,h.1,h.2⟩
theorem fits_nil {r : List Arg} (h : fitsAll [] r) : r = [] := by
 cases r with
 | nil => rfl
 | cons a r => exact h.elim
end Go.Pier.Lg
