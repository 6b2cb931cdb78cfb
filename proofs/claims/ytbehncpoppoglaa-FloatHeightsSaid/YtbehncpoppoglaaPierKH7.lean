import Derived.Test.YtbehncpoppoglaaPierKH6
import Derived.KernelRfl
import Derived.Test.YtbehncpoppoglaaPierKH2
import Derived.Test.YtbehncpoppoglaaPierKH5
set_option linter.unusedSimpArgs false
set_option linter.unusedVariables false
set_option maxRecDepth 100000
namespace Go.Pier.Fl
open Go Go.Pier Go.Proofs
end Go.Pier.Fl
namespace Go.Pier.Fl
open Go Go.Pier Go.Proofs
noncomputable def okB (p : Prop) : Bool := @decide p (Classical.propDecidable p)
def rtO (l m : List Int) (a i : Nat) : Prop := l.getD i 0≤(a : Int)→m.getD a 0≤m.getD ((a : Int) - l.getD i 0).toNat 0 + 1
def rtA (l m : List Int) (a : Nat) : Prop := ∀ i,i < l.length→rtO l m a i
noncomputable def heE (l m : List Int) : Int := if errC l ≠ 0 then errC l else if m.length < 1∨301 < m.length then 6 else if okB (∀ j,j < m.length→0≤m.getD j 0∧m.getD j 0≤1000) = false then 3 else if m.getD 0 0 ≠ 0 then 14 else if okB (∀ a,a < m.length→rtA l m a) = false then 14 else 0
noncomputable def heB : Code := Try.f34.body.getD .skip
def he0 (l : List Int) (c : Nat) (m : List Int) (d : Nat) : LInv := LInv.one Nat (fun i => i≤m.length∧∀ j,j < i→0≤m.getD j 0∧m.getD j 0≤1000) (fun i => [(0,.slice (some ⟨0,0,none⟩) l.length c),(1,.slice (some ⟨1,0,none⟩) m.length d),(5,vi i)]) (fun _ => [ros l,ros m]) (fun i => m.length - i)
def he4 (l : List Int) (c : Nat) (m : List Int) (d : Nat) (a : Nat) : Nat→Option LInv := invOf 4 (LInv.one Nat (fun i => i≤l.length∧∀ j,j < i→rtO l m a j) (fun i => [(0,.slice (some ⟨0,0,none⟩) l.length c),(1,.slice (some ⟨1,0,none⟩) m.length d),(6,vi a),(7,vi i)]) (fun _ => [ros l,ros m]) (fun i => l.length - i))
def he2 (l : List Int) (c : Nat) (m : List Int) (d : Nat) : LInv := LInv.one Nat (fun a => a≤m.length∧∀ b,b < a→rtA l m b) (fun a => [(0,.slice (some ⟨0,0,none⟩) l.length c),(1,.slice (some ⟨1,0,none⟩) m.length d),(6,vi a)]) (fun _ => [ros l,ros m]) (fun a => m.length - a) (fun a => he4 l c m d a)
def heI (l : List Int) (c : Nat) (m : List Int) (d : Nat) : Nat→Option LInv := fun k => match Nat.beq k 0 with
 | true => some (he0 l c m d)
 | false => match Nat.beq k 2 with
   | true => some (he2 l c m d)
   | false => none
noncomputable def hrE : VEnv := { ct := Ct.none.add 23 (pureG [.ints .i64] ciS) }
noncomputable def heVV0  := (Value.int IntKind.i64)
noncomputable def heVV1 (l:List Int) (c:Nat):Prop := (Value.slice (some (ad0 0)) l.length c=Value.slice (some (ad0 0)) l.length c)
noncomputable def heVV2 (m:List Int) (d:Nat):Prop := (Value.slice (some (ad0 1)) m.length d=Value.slice (some (ad0 1)) m.length d)
noncomputable def heVV3 (l:List Int) := (List.take l.length (List.drop 0 (intsOf (List.map heVV0 l))))
noncomputable def heVV4 (l:List Int) (x:Nat) (x_1:Nat) := ((x:Int)-getI (List.map heVV0 l) (0+(x_1:Int).toNat * 1))
noncomputable def heVV5  (x:Nat) := (0+(x:Int).toNat * 1)
noncomputable def heVV6 (l:List Int):Prop := ((List.take l.length (List.drop 0 (List.map heVV0 l))=List.map heVV0 (heVV3 l)∧0+l.length≤(List.map heVV0 l).length∧true=true)∧(heVV3 l).length≤1000000)
noncomputable def heVV7 (l:List Int) := (AObj.ro (List.map heVV0 l))
noncomputable def heVV8 (m:List Int) := (AObj.ro (List.map heVV0 m))
noncomputable def heVV9  (x_1:Nat) := (0+(x_1:Int).toNat * 1)
noncomputable def heVV10 (l:List Int) (x:Nat) (x_1:Nat) := (0+(IntKind.i64.wrap (heVV4 l x x_1)).toNat * 1)
noncomputable def heVV11 (m:List Int) (x:Nat) := (IntAt IntKind.i64 (List.map heVV0 m) (heVV5 x))
noncomputable def heVV :=
fun (l:List Int) (c:Nat) (m:List Int) (d:Nat)↦Ob (heVV6 l)∧((errC (heVV3 l) !=(0:Int))=true→Ob (heVV6 l)∧True∧Ob (vi (errC (heVV3 l))=vi (heE l m)))∧((errC (heVV3 l) !=(0:Int))=false→(decide ((m.length:Int)<(1:Int))=false→(decide ((301:Int)<(m.length:Int))=true→True∧Ob (vi (6:Int)=vi (heE l m)))∧(decide ((301:Int)<(m.length:Int))=false→(∃ (y:Nat),Ob (y≤m.length∧∀ (j:Nat),j<y→(0:Int)≤m.getD j (0:Int)∧m.getD j (0:Int)≤(1000:Int))∧(Ob (AObj.ro (List.map heVV0 l)=AObj.ro (List.map (nmap1 fun (b:Nat)↦b) (List.map heVV0 l))∧AObj.sc 2 (heVV7 l)=true)∧Ob (AObj.ro (List.map heVV0 m)=AObj.ro (List.map (nmap1 fun (b:Nat)↦b) (List.map heVV0 m))∧AObj.sc 2 (heVV8 m)=true)∧True)∧Ob (heVV1 l c)∧Ob (heVV2 m d)∧Ob ((0:Int)=(y:Int))∧True)∧∀ (x:Nat),Ob (x≤m.length∧∀ (j:Nat),j<x→(0:Int)≤m.getD j (0:Int)∧m.getD j (0:Int)≤(1000:Int))→(decide ((x:Int)<(m.length:Int))=true→Ob ((0:Int)≤(x:Int)∧(x:Int)<(m.length:Int)∧true=true)∧Ob (heVV11 m x)∧(decide (getI (List.map heVV0 m) (heVV5 x)<(0:Int))=false→Ob ((0:Int)≤(x:Int)∧(x:Int)<(m.length:Int)∧true=true)∧Ob (heVV11 m x)∧(decide ((1000:Int)<getI (List.map heVV0 m) (heVV5 x))=true→True∧Ob (vi (3:Int)=vi (heE l m)))∧(decide ((1000:Int)<getI (List.map heVV0 m) (heVV5 x))=false→∃ (y:Nat),Ob (y≤m.length∧∀ (j:Nat),j<y→(0:Int)≤m.getD j (0:Int)∧m.getD j (0:Int)≤(1000:Int))∧Ob (m.length-y<m.length-x)∧(Ob (AObj.ro (List.map heVV0 l)=AObj.ro (List.map (nmap1 fun (b:Nat)↦b) (List.map heVV0 l))∧AObj.sc 2 (heVV7 l)=true)∧Ob (AObj.ro (List.map heVV0 m)=AObj.ro (List.map (nmap1 fun (b:Nat)↦b) (List.map heVV0 m))∧AObj.sc 2 (heVV8 m)=true)∧True)∧Ob (heVV1 l c)∧Ob (heVV2 m d)∧Ob (IntKind.i64.wrap ((x:Int)+(1:Int))=(y:Int))∧True))∧(decide (getI (List.map heVV0 m) (heVV5 x)<(0:Int))=true→True∧Ob (vi (3:Int)=vi (heE l m))))∧(decide ((x:Int)<(m.length:Int))=false→Ob ((0:Int)≤(0:Int)∧(0:Int)<(m.length:Int)∧true=true)∧Ob (IntAt IntKind.i64 (List.map heVV0 m) 0)∧((getI (List.map heVV0 m) 0 !=(0:Int))=true→True∧Ob (vi (14:Int)=vi (heE l m)))∧((getI (List.map heVV0 m) 0 !=(0:Int))=false→(∃ (y:Nat),Ob (y≤m.length∧∀ (b:Nat),b<y→rtA l m b)∧(Ob (AObj.ro (List.map heVV0 l)=AObj.ro (List.map (nmap1 fun (b:Nat)↦b) (List.map heVV0 l))∧AObj.sc 2 (heVV7 l)=true)∧Ob (AObj.ro (List.map heVV0 m)=AObj.ro (List.map (nmap1 fun (b:Nat)↦b) (List.map heVV0 m))∧AObj.sc 2 (heVV8 m)=true)∧True)∧Ob (heVV1 l c)∧Ob (heVV2 m d)∧Ob ((0:Int)=(y:Int))∧True)∧∀ (x:Nat),Ob (x≤m.length∧∀ (b:Nat),b<x→rtA l m b)→(decide ((x:Int)<(m.length:Int))=true→(∃ (y:Nat),Ob (y≤l.length∧∀ (j:Nat),j<y→rtO l m x j)∧(Ob (AObj.ro (List.map heVV0 l)=AObj.ro (List.map (nmap1 fun (b:Nat)↦b) (List.map heVV0 l))∧AObj.sc 2 (heVV7 l)=true)∧Ob (AObj.ro (List.map heVV0 m)=AObj.ro (List.map (nmap1 fun (b:Nat)↦b) (List.map heVV0 m))∧AObj.sc 2 (heVV8 m)=true)∧True)∧Ob (heVV1 l c)∧Ob (heVV2 m d)∧Ob ((x:Int)=(x:Int))∧Ob ((0:Int)=(y:Int))∧True)∧∀ (x_1:Nat),Ob (x_1≤l.length∧∀ (j:Nat),j<x_1→rtO l m x j)→(decide ((x_1:Int)<(l.length:Int))=true→Ob ((0:Int)≤(x_1:Int)∧(x_1:Int)<(l.length:Int)∧true=true)∧Ob (IntAt IntKind.i64 (List.map heVV0 l) (heVV9 x_1))∧(decide (getI (List.map heVV0 l) (heVV9 x_1)≤(x:Int))=true→Ob ((0:Int)≤(x:Int)∧(x:Int)<(m.length:Int)∧true=true)∧Ob (heVV11 m x)∧Ob ((0:Int)≤(x_1:Int)∧(x_1:Int)<(l.length:Int)∧true=true)∧Ob (IntAt IntKind.i64 (List.map heVV0 l) (heVV9 x_1))∧Ob ((0:Int)≤IntKind.i64.wrap (heVV4 l x x_1)∧IntKind.i64.wrap (heVV4 l x x_1)<(m.length:Int)∧true=true)∧Ob (IntAt IntKind.i64 (List.map heVV0 m) (heVV10 l x x_1))∧(decide (IntKind.i64.wrap (getI (List.map heVV0 m) (heVV10 l x x_1)+(1:Int))<getI (List.map heVV0 m) (heVV5 x))=true→True∧Ob (vi (14:Int)=vi (heE l m)))∧(decide (IntKind.i64.wrap (getI (List.map heVV0 m) (heVV10 l x x_1)+(1:Int))<getI (List.map heVV0 m) (heVV5 x))=false→∃ (y:Nat),Ob (y≤l.length∧∀ (j:Nat),j<y→rtO l m x j)∧Ob (l.length-y<l.length-x_1)∧(Ob (AObj.ro (List.map heVV0 l)=AObj.ro (List.map (nmap1 fun (b:Nat)↦b) (List.map heVV0 l))∧AObj.sc 2 (heVV7 l)=true)∧Ob (AObj.ro (List.map heVV0 m)=AObj.ro (List.map (nmap1 fun (b:Nat)↦b) (List.map heVV0 m))∧AObj.sc 2 (heVV8 m)=true)∧True)∧Ob (heVV1 l c)∧Ob (heVV2 m d)∧Ob ((x:Int)=(x:Int))∧Ob (IntKind.i64.wrap ((x_1:Int)+(1:Int))=(y:Int))∧True))∧(decide (getI (List.map heVV0 l) (heVV9 x_1)≤(x:Int))=false→∃ (y:Nat),Ob (y≤l.length∧∀ (j:Nat),j<y→rtO l m x j)∧Ob (l.length-y<l.length-x_1)∧(Ob (AObj.ro (List.map heVV0 l)=AObj.ro (List.map (nmap1 fun (b:Nat)↦b) (List.map heVV0 l))∧AObj.sc 2 (heVV7 l)=true)∧Ob (AObj.ro (List.map heVV0 m)=AObj.ro (List.map (nmap1 fun (b:Nat)↦b) (List.map heVV0 m))∧AObj.sc 2 (heVV8 m)=true)∧True)∧Ob (heVV1 l c)∧Ob (heVV2 m d)∧Ob ((x:Int)=(x:Int))∧Ob (IntKind.i64.wrap ((x_1:Int)+(1:Int))=(y:Int))∧True))∧(decide ((x_1:Int)<(l.length:Int))=false→∃ (y:Nat),Ob (y≤m.length∧∀ (b:Nat),b<y→rtA l m b)∧Ob (m.length-y<m.length-x)∧(Ob (AObj.ro (List.map heVV0 l)=AObj.ro (List.map (nmap1 fun (b:Nat)↦b) (List.map heVV0 l))∧AObj.sc 2 (heVV7 l)=true)∧Ob (AObj.ro (List.map heVV0 m)=AObj.ro (List.map (nmap1 fun (b:Nat)↦b) (List.map heVV0 m))∧AObj.sc 2 (heVV8 m)=true)∧True)∧Ob (heVV1 l c)∧Ob (heVV2 m d)∧Ob (IntKind.i64.wrap ((x:Int)+(1:Int))=(y:Int))∧True))∧(decide ((x:Int)<(m.length:Int))=false→True∧Ob (vi (0:Int)=vi (heE l m)))))))∧(decide ((m.length:Int)<(1:Int))=true→True∧Ob (vi (6:Int)=vi (heE l m))))
theorem heVV_eq : heVV = fun (l : List Int) (c : Nat) (m : List Int) (d : Nat) => vc Try.prog hrE 2 78 true (heI l c m d) heB [] (argFr 0 [.slice (some ⟨0,0,none⟩) l.length c,.slice (some ⟨1,0,none⟩) m.length d]) [ros l,ros m] (retK Try.prog Try.f34 (fun v _ => v = vi (heE l m))) := by kernel_rfl
noncomputable def heNN :=
fun (x:Unit)↦Ob True∧(true=true→Ob True∧True∧Ob (vi (6:Int)=vi (6:Int)))∧(true=false→(true=false→(false=true→True∧Ob (vi (6:Int)=vi (6:Int)))∧(false=false→False))∧(true=true→True∧Ob (vi (6:Int)=vi (6:Int))))
theorem heNN_eq : heNN = fun (_ : Unit) => vc Try.prog hrE 0 78 true (fun _ => none) heB [] (argFr 0 [.slice none 0 0,.slice none 0 0]) [] (retK Try.prog Try.f34 (fun v _ => v = vi 6)) := by kernel_rfl
noncomputable def heNH :=
fun (d:Nat) (t:Option Nat)↦Ob True∧(true=true→Ob True∧True∧Ob (vi (6:Int)=vi (6:Int)))∧(true=false→(true=false→(false=true→True∧Ob (vi (6:Int)=vi (6:Int)))∧(false=false→False))∧(true=true→True∧Ob (vi (6:Int)=vi (6:Int))))
theorem heNH_eq : heNH = fun (d : Nat) (t : Option Nat) => vc Try.prog hrE 1 78 true (fun _ => none) heB [] (argFr 0 [.slice none 0 0,.slice (some ⟨0,0,t⟩) 0 d]) [.gone] (retK Try.prog Try.f34 (fun v _ => v = vi 6)) := by kernel_rfl
noncomputable def heNV :=
fun (m:List Int) (d:Nat)↦Ob True∧(true=true→Ob True∧True∧Ob (vi (6:Int)=vi (6:Int)))∧(true=false→(decide ((m.length:Int)<(1:Int))=false→(decide ((301:Int)<(m.length:Int))=true→True∧Ob (vi (6:Int)=vi (6:Int)))∧(decide ((301:Int)<(m.length:Int))=false→False))∧(decide ((m.length:Int)<(1:Int))=true→True∧Ob (vi (6:Int)=vi (6:Int))))
theorem heNV_eq : heNV = fun (m : List Int) (d : Nat) => vc Try.prog hrE 1 78 true (fun _ => none) heB [] (argFr 0 [.slice none 0 0,.slice (some ⟨0,0,none⟩) m.length d]) [ros m] (retK Try.prog Try.f34 (fun v _ => v = vi 6)) := by kernel_rfl
noncomputable def heHN :=
fun (c:Nat) (s:Option Nat)↦Ob True∧(true=true→Ob True∧True∧Ob (vi (6:Int)=vi (6:Int)))∧(true=false→(true=false→(false=true→True∧Ob (vi (6:Int)=vi (6:Int)))∧(false=false→False))∧(true=true→True∧Ob (vi (6:Int)=vi (6:Int))))
theorem heHN_eq : heHN = fun (c : Nat) (s : Option Nat) => vc Try.prog hrE 1 78 true (fun _ => none) heB [] (argFr 0 [.slice (some ⟨0,0,s⟩) 0 c,.slice none 0 0]) [.gone] (retK Try.prog Try.f34 (fun v _ => v = vi 6)) := by kernel_rfl
noncomputable def heHH :=
fun (c:Nat) (s:Option Nat) (d:Nat) (t:Option Nat)↦Ob True∧(true=true→Ob True∧True∧Ob (vi (6:Int)=vi (6:Int)))∧(true=false→(true=false→(false=true→True∧Ob (vi (6:Int)=vi (6:Int)))∧(false=false→False))∧(true=true→True∧Ob (vi (6:Int)=vi (6:Int))))
theorem heHH_eq : heHH = fun (c : Nat) (s : Option Nat) (d : Nat) (t : Option Nat) => vc Try.prog hrE 2 78 true (fun _ => none) heB [] (argFr 0 [.slice (some ⟨0,0,s⟩) 0 c,.slice (some ⟨1,0,t⟩) 0 d]) [.gone,.gone] (retK Try.prog Try.f34 (fun v _ => v = vi 6)) := by kernel_rfl
noncomputable def heHV :=
fun (c:Nat) (s:Option Nat) (m:List Int) (d:Nat)↦Ob True∧(true=true→Ob True∧True∧Ob (vi (6:Int)=vi (6:Int)))∧(true=false→(decide ((m.length:Int)<(1:Int))=false→(decide ((301:Int)<(m.length:Int))=true→True∧Ob (vi (6:Int)=vi (6:Int)))∧(decide ((301:Int)<(m.length:Int))=false→False))∧(decide ((m.length:Int)<(1:Int))=true→True∧Ob (vi (6:Int)=vi (6:Int))))
theorem heHV_eq : heHV = fun (c : Nat) (s : Option Nat) (m : List Int) (d : Nat) => vc Try.prog hrE 2 78 true (fun _ => none) heB [] (argFr 0 [.slice (some ⟨0,0,s⟩) 0 c,.slice (some ⟨1,0,none⟩) m.length d]) [.gone,ros m] (retK Try.prog Try.f34 (fun v _ => v = vi 6)) := by kernel_rfl
noncomputable def heVN0 (l:List Int) := (List.take l.length (List.drop 0 (intsOf (List.map (Value.int IntKind.i64) l))))
noncomputable def heVN1 (l:List Int):Prop := ((List.take l.length (List.drop 0 (List.map (Value.int IntKind.i64) l))=List.map (Value.int IntKind.i64) (heVN0 l)∧0+l.length≤(List.map (Value.int IntKind.i64) l).length∧true=true)∧(heVN0 l).length≤1000000)
noncomputable def heVN :=
fun (l:List Int) (c:Nat)↦Ob (heVN1 l)∧((errC (heVN0 l) !=(0:Int))=true→Ob (heVN1 l)∧True∧Ob (vi (errC (heVN0 l))=vi (heE l [])))∧((errC (heVN0 l) !=(0:Int))=false→(true=false→(false=true→True∧Ob (vi (6:Int)=vi (heE l [])))∧(false=false→False))∧(true=true→True∧Ob (vi (6:Int)=vi (heE l []))))
theorem heVN_eq : heVN = fun (l : List Int) (c : Nat) => vc Try.prog hrE 1 78 true (fun _ => none) heB [] (argFr 0 [.slice (some ⟨0,0,none⟩) l.length c,.slice none 0 0]) [ros l] (retK Try.prog Try.f34 (fun v _ => v = vi (heE l []))) := by kernel_rfl
noncomputable def heVH0 (l:List Int) := (List.take l.length (List.drop 0 (intsOf (List.map (Value.int IntKind.i64) l))))
noncomputable def heVH1 (l:List Int):Prop := ((List.take l.length (List.drop 0 (List.map (Value.int IntKind.i64) l))=List.map (Value.int IntKind.i64) (heVH0 l)∧0+l.length≤(List.map (Value.int IntKind.i64) l).length∧true=true)∧(heVH0 l).length≤1000000)
noncomputable def heVH :=
fun (l:List Int) (c d:Nat) (t:Option Nat)↦Ob (heVH1 l)∧((errC (heVH0 l) !=(0:Int))=true→Ob (heVH1 l)∧True∧Ob (vi (errC (heVH0 l))=vi (heE l [])))∧((errC (heVH0 l) !=(0:Int))=false→(true=false→(false=true→True∧Ob (vi (6:Int)=vi (heE l [])))∧(false=false→False))∧(true=true→True∧Ob (vi (6:Int)=vi (heE l []))))
theorem heVH_eq : heVH = fun (l : List Int) (c : Nat) (d : Nat) (t : Option Nat) => vc Try.prog hrE 2 78 true (fun _ => none) heB [] (argFr 0 [.slice (some ⟨0,0,none⟩) l.length c,.slice (some ⟨1,0,t⟩) 0 d]) [ros l,.gone] (retK Try.prog Try.f34 (fun v _ => v = vi (heE l []))) := by kernel_rfl
theorem okB_t {p : Prop} (h : p) : ¬ okB p = false := by
 unfold okB
 rw [@decide_eq_true p (Classical.propDecidable p) h]; decide
theorem okB_f {p : Prop} (h : ¬ p) : okB p = false := @decide_eq_false p (Classical.propDecidable p) h
theorem heE_c {l m : List Int} (h : ¬ errC l = 0) : heE l m = errC l := by rw [heE,if_pos h]
theorem heE_m {l m : List Int} (h : errC l = 0) (hm : m.length < 1∨301 < m.length) : heE l m = 6 := by rw [heE,if_neg (fun k => k h),if_pos hm]
theorem heE_r {l m : List Int} (h : errC l = 0) (hm : ¬ (m.length < 1∨301 < m.length)) (hr : ¬ ∀ j,j < m.length→0≤m.getD j 0∧m.getD j 0≤1000) : heE l m = 3 := by rw [heE,if_neg (fun k => k h),if_neg hm,if_pos (okB_f hr)]
theorem heE_0 {l m : List Int} (h : errC l = 0) (hm : ¬ (m.length < 1∨301 < m.length)) (hr : ∀ j,j < m.length→0≤m.getD j 0∧m.getD j 0≤1000) (h0 : ¬ m.getD 0 0 = 0) : heE l m = 14 := by rw [heE,if_neg (fun k => k h),if_neg hm,if_neg (okB_t hr),if_pos h0]
theorem heE_n {l m : List Int} (h : errC l = 0) (hm : ¬ (m.length < 1∨301 < m.length)) (hr : ∀ j,j < m.length→0≤m.getD j 0∧m.getD j 0≤1000) (h0 : m.getD 0 0 = 0) (ha : ¬ ∀ a,a < m.length→rtA l m a) : heE l m = 14 := by rw [heE,if_neg (fun k => k h),if_neg hm,if_neg (okB_t hr),if_neg (fun k => k h0),if_pos (okB_f ha)]
theorem heE_y {l m : List Int} (h : errC l = 0) (hm : ¬ (m.length < 1∨301 < m.length)) (hr : ∀ j,j < m.length→0≤m.getD j 0∧m.getD j 0≤1000) (h0 : m.getD 0 0 = 0) (ha : ∀ a,a < m.length→rtA l m a) : heE l m = 0 := by rw [heE,if_neg (fun k => k h),if_neg hm,if_neg (okB_t hr),if_neg (fun k => k h0),if_neg (okB_t ha)]
theorem snocP {P : Nat→Prop} {i : Nat} (h : ∀ j,j < i→P j) (h2 : P i) : ∀ j,j < i + 1→P j := fun j hj => by
 by_cases e : j = i
 · rw [e]; exact h2
 · exact h j (by omega)
theorem heVV_ok (l : List Int) (c : Nat) (m : List Int) (d : Nat) (hl : l.length≤1000000) : heVV l c m d := by
 unfold heVV heVV11 heVV10 heVV9 heVV8 heVV7 heVV6 heVV5 heVV4 heVV3 heVV2 heVV1 heVV0
 simp only [SS,reduceCtorEq,Arg.list,Arg.num,Arg.flag,intOf,andP,Nat.reduceLeDiff,Nat.reduceAdd,Nat.reduceMul,Nat.reduceLT]
 refine ⟨hl,fun h => ⟨hl,(heE_c h).symm⟩,fun h => ⟨fun h1 => ⟨fun h2 => (heE_m h (.inr (by omega))).symm,fun h2 => ?_⟩,fun h1 => (heE_m h (.inl (by omega))).symm⟩⟩
 have hc := errC_ok.1 h
 have hfew := hc.few
 have cr : ∀ j,j < l.length→1≤l.getD j 0∧l.getD j 0≤50 := fun j hj => coin_rng hc hj
 have hm : ¬ (m.length < 1∨301 < m.length) := by omega
 refine ⟨⟨0,⟨by omega,fun j hj => by omega⟩,rfl⟩,fun x hx => ⟨fun h3 => ⟨by omega,by omega,fun h4 => ⟨by omega,by omega,fun h5 => (heE_r h hm fun k => by have := k x (by omega); omega).symm,fun h5 => ⟨x + 1,⟨by omega,snocP hx.2 (by omega)⟩,by omega,wrap_succ (n := 9999) (by omega) (by omega)⟩⟩,fun h4 => (heE_r h hm fun k => by have := k x (by omega); omega).symm⟩,fun h3 => ?_⟩⟩
 have hr : ∀ j,j < m.length→0≤m.getD j 0∧m.getD j 0≤1000 := fun j hj => hx.2 j (by omega)
 refine ⟨by omega,by omega,fun h0 => (heE_0 h hm hr h0).symm,fun h0 => ⟨⟨0,⟨by omega,fun j hj => by omega⟩,rfl⟩,fun a ha => ⟨fun h4 => ⟨⟨0,⟨by omega,fun j hj => by omega⟩,rfl⟩,fun i hi => ⟨fun h5 => ?_,fun h5 => ⟨a + 1,⟨by omega,snocP ha.2 fun k hk => hi.2 k (by omega)⟩,by omega,wrap_succ (n := 9999) (by omega) (by omega)⟩⟩⟩,fun h4 => (heE_y h hm hr h0 fun k hk => ha.2 k (by omega)).symm⟩⟩⟩
 have c1 := cr i (by omega)
 have w0 : IntKind.i64.wrap ((a : Int) - l.getD i 0) = (a : Int) - l.getD i 0 := wrap_in (by omega) (by omega)
 have ws : IntKind.i64.wrap ((i : Int) + 1) = ((i + 1 : Nat) : Int) := wrap_succ (n := 100) (by omega) (by omega)
 refine ⟨by omega,by omega,fun h6 => ?_,fun h6 => ⟨i + 1,⟨by omega,snocP hi.2 fun k => absurd k h6⟩,by omega,ws⟩⟩
 have v1 := hr ((a : Int) - l.getD i 0).toNat (by omega)
 have w1 : IntKind.i64.wrap (m.getD ((a : Int) - l.getD i 0).toNat 0 + 1) = m.getD ((a : Int) - l.getD i 0).toNat 0 + 1 := wrap_in (by omega) (by omega)
 rw [w0,w1]
 exact ⟨by omega,by omega,by omega,by omega,by omega,by omega,fun h7 => (heE_n h hm hr h0 fun k => by have := k a (by omega) i (by omega) h6; omega).symm,fun h7 => ⟨i + 1,⟨by omega,snocP hi.2 fun _ => by omega⟩,by omega,ws⟩⟩
theorem heNN_ok (u : Unit) : heNN u := by
 unfold heNN
 simp only [SS,reduceCtorEq,Arg.list,Arg.num,Arg.flag,intOf,andP,Nat.reduceLeDiff,Nat.reduceAdd,Nat.reduceMul,Nat.reduceLT]
theorem heNH_ok (d : Nat) (t : Option Nat) : heNH d t := by
 unfold heNH
 simp only [SS,reduceCtorEq,Arg.list,Arg.num,Arg.flag,intOf,andP,Nat.reduceLeDiff,Nat.reduceAdd,Nat.reduceMul,Nat.reduceLT]
theorem heNV_ok (m : List Int) (d : Nat) : heNV m d := by
 unfold heNV
 simp only [SS,reduceCtorEq,Arg.list,Arg.num,Arg.flag,intOf,andP,Nat.reduceLeDiff,Nat.reduceAdd,Nat.reduceMul,Nat.reduceLT]
theorem heHN_ok (c : Nat) (s : Option Nat) : heHN c s := by
 unfold heHN
 simp only [SS,reduceCtorEq,Arg.list,Arg.num,Arg.flag,intOf,andP,Nat.reduceLeDiff,Nat.reduceAdd,Nat.reduceMul,Nat.reduceLT]
theorem heHH_ok (c : Nat) (s : Option Nat) (d : Nat) (t : Option Nat) : heHH c s d t := by
 unfold heHH
 simp only [SS,reduceCtorEq,Arg.list,Arg.num,Arg.flag,intOf,andP,Nat.reduceLeDiff,Nat.reduceAdd,Nat.reduceMul,Nat.reduceLT]
theorem heHV_ok (c : Nat) (s : Option Nat) (m : List Int) (d : Nat) : heHV c s m d := by
 unfold heHV
 simp only [SS,reduceCtorEq,Arg.list,Arg.num,Arg.flag,intOf,andP,Nat.reduceLeDiff,Nat.reduceAdd,Nat.reduceMul,Nat.reduceLT]
theorem heVN_ok (l : List Int) (c : Nat) (hl : l.length≤1000000) : heVN l c := by
 unfold heVN heVN1 heVN0
 simp only [SS,reduceCtorEq,Arg.list,Arg.num,Arg.flag,intOf,andP,Nat.reduceLeDiff,Nat.reduceAdd,Nat.reduceMul,Nat.reduceLT]
 exact ⟨hl,fun h => ⟨hl,(heE_c h).symm⟩,fun h => (heE_m h (.inl (by simp))).symm⟩
theorem heVH_ok (l : List Int) (c : Nat) (d : Nat) (t : Option Nat) (hl : l.length≤1000000) : heVH l c d t := by
 unfold heVH heVH1 heVH0
 simp only [SS,reduceCtorEq,Arg.list,Arg.num,Arg.flag,intOf,andP,Nat.reduceLeDiff,Nat.reduceAdd,Nat.reduceMul,Nat.reduceLT]
 exact ⟨hl,fun h => ⟨hl,(heE_c h).symm⟩,fun h => (heE_m h (.inl (by simp))).symm⟩
theorem hrE_ok : VOk Try.prog hrE := VOk.ofCt (CtOk.none.add rcG_ok)
noncomputable def hrS (r : List Arg) : Prop × Value := match r with
 | [.ints _ l,.ints _ m] => (l.length≤1000000,vi (heE l m))
 | [.ints _ l,_] => (l.length≤1000000,vi (heE l []))
 | [_,_] => (True,vi 6)
 | _ => (False,undef)
theorem hrG_ok : ∀ args H φ v H' l,pureG [.ints .i64,.ints .i64] hrS args H = some (φ,v,H',l)→Asks φ→Call Try.prog 34 args H (fun v' H2 => v' = v∧H2 = H')∧Kept H H' l :=
 pureG_ok fun r hk hs => match r,hk with
   | [_,_],⟨h1,h2,_⟩ => by
     rcases h1 with rfl | ⟨s,rfl⟩ | ⟨l,rfl⟩ <;> rcases h2 with rfl | ⟨t,rfl⟩ | ⟨m,rfl⟩
     · exact ⟨rfl,fun caps => Call.ofVc hrE_ok mixed (c := heB) (inv := fun _ => none) Try.func34 (by kernel_rfl) (cast (congrFun heNN_eq ()) (heNN_ok ()))⟩
     · exact ⟨rfl,fun caps => Call.ofVc hrE_ok mixed (c := heB) (inv := fun _ => none) Try.func34 (by kernel_rfl) (cast (congrFun (congrFun heNH_eq (caps 0)) t) (heNH_ok (caps 0) t))⟩
     · exact ⟨rfl,fun caps => Call.ofVc hrE_ok mixed (c := heB) (inv := fun _ => none) Try.func34 (by kernel_rfl) (cast (congrFun (congrFun heNV_eq m) (caps 0)) (heNV_ok m (caps 0)))⟩
     · exact ⟨rfl,fun caps => Call.ofVc hrE_ok mixed (c := heB) (inv := fun _ => none) Try.func34 (by kernel_rfl) (cast (congrFun (congrFun heHN_eq (caps 0)) s) (heHN_ok (caps 0) s))⟩
     · exact ⟨rfl,fun caps => Call.ofVc hrE_ok mixed (c := heB) (inv := fun _ => none) Try.func34 (by kernel_rfl) (cast (congrFun (congrFun (congrFun (congrFun heHH_eq (caps 0)) s) (caps 1)) t) (heHH_ok (caps 0) s (caps 1) t))⟩
     · exact ⟨rfl,fun caps => Call.ofVc hrE_ok mixed (c := heB) (inv := fun _ => none) Try.func34 (by kernel_rfl) (cast (congrFun (congrFun (congrFun (congrFun heHV_eq (caps 0)) s) m) (caps 1)) (heHV_ok (caps 0) s m (caps 1)))⟩
     · exact ⟨rfl,fun caps => Call.ofVc hrE_ok mixed (c := heB) (inv := fun _ => none) Try.func34 (by kernel_rfl) (cast (congrFun (congrFun heVN_eq l) (caps 0)) (heVN_ok l (caps 0) hs))⟩
     · exact ⟨rfl,fun caps => Call.ofVc hrE_ok mixed (c := heB) (inv := fun _ => none) Try.func34 (by kernel_rfl) (cast (congrFun (congrFun (congrFun (congrFun heVH_eq l) (caps 0)) (caps 1)) t) (heVH_ok l (caps 0) (caps 1) t hs))⟩
     · exact ⟨rfl,fun caps => Call.ofVc hrE_ok mixed (c := heB) (inv := heI l (caps 0) m (caps 1)) Try.func34 (by kernel_rfl) (cast (congrFun (congrFun (congrFun (congrFun heVV_eq l) (caps 0)) m) (caps 1)) (heVV_ok l (caps 0) m (caps 1) hs))⟩
end Go.Pier.Fl
namespace Go.Pier.Sk
open Go Go.Pier
variable {P : Program}
def empI (_ : Nat) : Int := 0
end Go.Pier.Sk
namespace Go.Pier.Fl
open Go Go.Pier Go.Proofs
end Go.Pier.Fl
namespace Go.Pier.Fl
open Go Go.Pier Go.Proofs
noncomputable def cnE : VEnv := { ct := (Ct.none.add 61 (pureG [.int .i64,.int .i64,.ints .i64] wiS)).add 60 (pureG [.ints .i64] tnS) }
theorem cnE_ok : VOk Try.prog cnE := VOk.ofCt ((CtOk.none.add wiG_ok).add tnG_ok)
end Go.Pier.Fl
namespace Go.Pier.Fl
open Go Go.Pier Go.Proofs
noncomputable def hpB : Code := Try.f33.body.getD .skip
def hpI (l : List Int) (c : Nat) (m : List Int) (d : Nat) : List Value→Heap→Nat→Option LInv := fun _ H => invOf 0 (LInv.one Nat (fun a => a≤m.length∧∀ b,b < a→rtA l m b) (fun a => [(0,ptr0 2),(1,.slice (some ⟨1,0,none⟩) m.length d),(13,.slice (some ⟨1,0,none⟩) m.length d),(14,vi m.length),(15,vi a)]) (fun _ => H) (fun a => m.length - a)
 (fun a => invOf 2 (LInv.one Nat (fun i => i≤l.length∧∀ j,j < i→rtO l m a j) (fun i => [(0,ptr0 2),(1,.slice (some ⟨1,0,none⟩) m.length d),(13,.slice (some ⟨1,0,none⟩) m.length d),(14,vi m.length),(15,vi a),(5,vi a),(6,vi (m.getD a 0)),(24,.slice (some ⟨0,0,none⟩) l.length c),(25,vi l.length),(26,vi i)]) (fun _ => H) (fun i => l.length - i))))
noncomputable def hpE (l : List Int) (c : Nat) (m : List Int) (d : Nat) : VEnv := { ct := Ct.none.add 61 (pureG [.int .i64,.int .i64,.ints .i64] wiS),cc := ccOr (twCc l c) (ccIn Try.prog {} [⟨77,Try.f77,hpI l c m d⟩]) }
noncomputable def hpNN :=
fun (x:Unit)↦Ob True∧(true=true→True∧Ob (vi (6:Int)=vi (6:Int)))∧(true=false→(true=false→(false=true→True∧Ob (vi (6:Int)=vi (6:Int)))∧(false=false→Ob (0≤1000000)∧(false=true→True∧Ob (vi (3:Int)=vi (6:Int)))∧(false=false→False)))∧(true=true→True∧Ob (vi (6:Int)=vi (6:Int))))
theorem hpNN_eq : hpNN = fun (_ : Unit) => vc Try.prog cnE 0 30 true (fun _ => none) hpB [] (argFr 0 [.slice none 0 0,.slice none 0 0]) [] (retK Try.prog Try.f33 (fun v _ => v = vi 6)) := by kernel_rfl
noncomputable def hpNH :=
fun (d:Nat) (t:Option Nat)↦Ob True∧(true=true→True∧Ob (vi (6:Int)=vi (6:Int)))∧(true=false→(true=false→(false=true→True∧Ob (vi (6:Int)=vi (6:Int)))∧(false=false→Ob (0≤1000000)∧((!true)=true→True∧Ob (vi (3:Int)=vi (6:Int)))∧((!true)=false→False)))∧(true=true→True∧Ob (vi (6:Int)=vi (6:Int))))
theorem hpNH_eq : hpNH = fun (d : Nat) (t : Option Nat) => vc Try.prog cnE 1 30 true (fun _ => none) hpB [] (argFr 0 [.slice none 0 0,.slice (some ⟨0,0,t⟩) 0 d]) [.gone] (retK Try.prog Try.f33 (fun v _ => v = vi 6)) := by kernel_rfl
noncomputable def hpNV0 (m:List Int) := (List.take m.length (List.drop 0 (intsOf (List.map (Value.int IntKind.i64) m))))
noncomputable def hpNV1 (m:List Int) := (!wiF (Arg.plain (vi (0:Int))).num (Arg.plain (vi (1000:Int))).num (Arg.ints IntKind.i64 (hpNV0 m)).list)
noncomputable def hpNV :=
fun (m:List Int) (d:Nat)↦Ob True∧(true=true→True∧Ob (vi (6:Int)=vi (6:Int)))∧(true=false→(decide ((m.length:Int)<(1:Int))=false→(decide ((301:Int)<(m.length:Int))=true→True∧Ob (vi (6:Int)=vi (6:Int)))∧(decide ((301:Int)<(m.length:Int))=false→Ob ((List.take m.length (List.drop 0 (List.map (Value.int IntKind.i64) m))=List.map (Value.int IntKind.i64) (hpNV0 m)∧0+m.length≤(List.map (Value.int IntKind.i64) m).length∧true=true)∧(Arg.ints IntKind.i64 (hpNV0 m)).list.length≤1000000)∧((hpNV1 m)=true→True∧Ob (vi (3:Int)=vi (6:Int)))∧((hpNV1 m)=false→False)))∧(decide ((m.length:Int)<(1:Int))=true→True∧Ob (vi (6:Int)=vi (6:Int))))
theorem hpNV_eq : hpNV = fun (m : List Int) (d : Nat) => vc Try.prog cnE 1 30 true (fun _ => none) hpB [] (argFr 0 [.slice none 0 0,.slice (some ⟨0,0,none⟩) m.length d]) [ros m] (retK Try.prog Try.f33 (fun v _ => v = vi 6)) := by kernel_rfl
noncomputable def hpHN :=
fun (c:Nat) (s:Option Nat)↦Ob True∧(true=true→True∧Ob (vi (6:Int)=vi (6:Int)))∧(true=false→(true=false→(false=true→True∧Ob (vi (6:Int)=vi (6:Int)))∧(false=false→Ob (0≤1000000)∧(false=true→True∧Ob (vi (3:Int)=vi (6:Int)))∧(false=false→False)))∧(true=true→True∧Ob (vi (6:Int)=vi (6:Int))))
theorem hpHN_eq : hpHN = fun (c : Nat) (s : Option Nat) => vc Try.prog cnE 1 30 true (fun _ => none) hpB [] (argFr 0 [.slice (some ⟨0,0,s⟩) 0 c,.slice none 0 0]) [.gone] (retK Try.prog Try.f33 (fun v _ => v = vi 6)) := by kernel_rfl
noncomputable def hpHH :=
fun (c:Nat) (s:Option Nat) (d:Nat) (t:Option Nat)↦Ob True∧(true=true→True∧Ob (vi (6:Int)=vi (6:Int)))∧(true=false→(true=false→(false=true→True∧Ob (vi (6:Int)=vi (6:Int)))∧(false=false→Ob (0≤1000000)∧((!true)=true→True∧Ob (vi (3:Int)=vi (6:Int)))∧((!true)=false→False)))∧(true=true→True∧Ob (vi (6:Int)=vi (6:Int))))
theorem hpHH_eq : hpHH = fun (c : Nat) (s : Option Nat) (d : Nat) (t : Option Nat) => vc Try.prog cnE 2 30 true (fun _ => none) hpB [] (argFr 0 [.slice (some ⟨0,0,s⟩) 0 c,.slice (some ⟨1,0,t⟩) 0 d]) [.gone,.gone] (retK Try.prog Try.f33 (fun v _ => v = vi 6)) := by kernel_rfl
noncomputable def hpHV0 (m:List Int) := (List.take m.length (List.drop 0 (intsOf (List.map (Value.int IntKind.i64) m))))
noncomputable def hpHV1 (m:List Int) := (!wiF (Arg.plain (vi (0:Int))).num (Arg.plain (vi (1000:Int))).num (Arg.ints IntKind.i64 (hpHV0 m)).list)
noncomputable def hpHV :=
fun (c:Nat) (s:Option Nat) (m:List Int) (d:Nat)↦Ob True∧(true=true→True∧Ob (vi (6:Int)=vi (6:Int)))∧(true=false→(decide ((m.length:Int)<(1:Int))=false→(decide ((301:Int)<(m.length:Int))=true→True∧Ob (vi (6:Int)=vi (6:Int)))∧(decide ((301:Int)<(m.length:Int))=false→Ob ((List.take m.length (List.drop 0 (List.map (Value.int IntKind.i64) m))=List.map (Value.int IntKind.i64) (hpHV0 m)∧0+m.length≤(List.map (Value.int IntKind.i64) m).length∧true=true)∧(Arg.ints IntKind.i64 (hpHV0 m)).list.length≤1000000)∧((hpHV1 m)=true→True∧Ob (vi (3:Int)=vi (6:Int)))∧((hpHV1 m)=false→False)))∧(decide ((m.length:Int)<(1:Int))=true→True∧Ob (vi (6:Int)=vi (6:Int))))
theorem hpHV_eq : hpHV = fun (c : Nat) (s : Option Nat) (m : List Int) (d : Nat) => vc Try.prog cnE 2 30 true (fun _ => none) hpB [] (argFr 0 [.slice (some ⟨0,0,s⟩) 0 c,.slice (some ⟨1,0,none⟩) m.length d]) [.gone,ros m] (retK Try.prog Try.f33 (fun v _ => v = vi 6)) := by kernel_rfl
noncomputable def hpVN :=
fun (l:List Int) (c:Nat)↦Ob (some (AObj.ro (List.map (Value.int IntKind.i64) l))=some (AObj.ro (List.map (Value.int IntKind.i64) l))∧l.length=l.length∧c=c∧l.length≤1000000)∧(Ob (errC l≠(0:Int))→((errC l !=(0:Int))=true→True∧Ob (vi (errC l)=vi (heE l [])))∧((errC l !=(0:Int))=false→(true=false→(false=true→True∧Ob (vi (6:Int)=vi (heE l [])))∧(false=false→Ob (0≤1000000)∧(false=true→True∧Ob (vi (3:Int)=vi (heE l [])))∧(false=false→False)))∧(true=true→True∧Ob (vi (6:Int)=vi (heE l [])))))∧(Ob (errC l=(0:Int))→∀ (zl:List Int),Ob (isZ zl)→(false=true→True∧Ob (vi (0:Int)=vi (heE l [])))∧(false=false→(true=false→(false=true→True∧Ob (vi (6:Int)=vi (heE l [])))∧(false=false→Ob (0≤1000000)∧(false=true→True∧Ob (vi (3:Int)=vi (heE l [])))∧(false=false→False)))∧(true=true→True∧Ob (vi (6:Int)=vi (heE l [])))))
theorem hpVN_eq : hpVN = fun (l : List Int) (c : Nat) => vc Try.prog (hpE l c [] 0) 1 30 true (fun _ => none) hpB [] (argFr 0 [.slice (some ⟨0,0,none⟩) l.length c,.slice none 0 0]) [ros l] (retK Try.prog Try.f33 (fun v _ => v = vi (heE l []))) := by kernel_rfl
noncomputable def hpVH :=
fun (l:List Int) (c d:Nat) (t:Option Nat)↦Ob (some (AObj.ro (List.map (Value.int IntKind.i64) l))=some (AObj.ro (List.map (Value.int IntKind.i64) l))∧l.length=l.length∧c=c∧l.length≤1000000)∧(Ob (errC l≠(0:Int))→((errC l !=(0:Int))=true→True∧Ob (vi (errC l)=vi (heE l [])))∧((errC l !=(0:Int))=false→(true=false→(false=true→True∧Ob (vi (6:Int)=vi (heE l [])))∧(false=false→Ob (0≤1000000)∧((!true)=true→True∧Ob (vi (3:Int)=vi (heE l [])))∧((!true)=false→Ob ((0:Int)≤(0:Int)∧(0:Int)<(↑(0:Nat):Int)∧std ⟨1,0,t⟩ d=true)∧False)))∧(true=true→True∧Ob (vi (6:Int)=vi (heE l [])))))∧(Ob (errC l=(0:Int))→∀ (zl:List Int),Ob (isZ zl)→(false=true→True∧Ob (vi (0:Int)=vi (heE l [])))∧(false=false→(true=false→(false=true→True∧Ob (vi (6:Int)=vi (heE l [])))∧(false=false→Ob (0≤1000000)∧((!true)=true→True∧Ob (vi (3:Int)=vi (heE l [])))∧((!true)=false→Ob ((0:Int)≤(0:Int)∧(0:Int)<(↑(0:Nat):Int)∧std ⟨1,0,t⟩ d=true)∧False)))∧(true=true→True∧Ob (vi (6:Int)=vi (heE l [])))))
theorem hpVH_eq : hpVH = fun (l : List Int) (c : Nat) (d : Nat) (t : Option Nat) => vc Try.prog (hpE l c [] 0) 2 30 true (fun _ => none) hpB [] (argFr 0 [.slice (some ⟨0,0,none⟩) l.length c,.slice (some ⟨1,0,t⟩) 0 d]) [ros l,.gone] (retK Try.prog Try.f33 (fun v _ => v = vi (heE l []))) := by kernel_rfl
noncomputable def hpVV0  := (Value.int IntKind.i64)
noncomputable def hpVV1 (m:List Int) (d:Nat):Prop := (Value.slice (some (ad0 1)) m.length d=Value.slice (some (ad0 1)) m.length d)
noncomputable def hpVV2 (l:List Int) (c:Nat) (zl:List Int) := (Value.slice (some (ad0 0)) l.length c::List.map hpVV0 zl)
noncomputable def hpVV3 (m:List Int) := (!wiF (Arg.plain (vi (0:Int))).num (Arg.plain (vi (1000:Int))).num (Arg.ints IntKind.i64 (List.take m.length (List.drop 0 (intsOf (List.map hpVV0 m))))).list)
noncomputable def hpVV4 (m:List Int):Prop := ((List.take m.length (List.drop 0 (List.map hpVV0 m))=List.map hpVV0 (List.take m.length (List.drop 0 (intsOf (List.map hpVV0 m))))∧0+m.length≤(List.map hpVV0 m).length∧true=true)∧(Arg.ints IntKind.i64 (List.take m.length (List.drop 0 (intsOf (List.map hpVV0 m))))).list.length≤1000000)
noncomputable def hpVV5 (l:List Int) (x:Nat) (x_1:Nat) := ((x:Int)-getI (List.map hpVV0 l) (0+(x_1:Int).toNat * 1))
noncomputable def hpVV6 (m:List Int):Prop := ((m.length:Int)=(m.length:Int))
noncomputable def hpVV7 (l:List Int) := (AObj.ro (List.map hpVV0 l))
noncomputable def hpVV8 (l:List Int) (x:Nat) (x_1:Nat) := (0+(IntKind.i64.wrap (hpVV5 l x x_1)).toNat * 1)
noncomputable def hpVV9 (m:List Int) := (AObj.ro (List.map hpVV0 m))
noncomputable def hpVV10  (x_1:Nat) := (0+(x_1:Int).toNat * 1)
noncomputable def hpVV11  (x:Nat) := (0+(x:Int).toNat * 1)
noncomputable def hpVV12 (l:List Int) (m:List Int):Prop := (vi (0:Int)=vi (heE l m))
noncomputable def hpVV :=
fun (l:List Int) (c:Nat) (m:List Int) (d:Nat)↦Ob (some (hpVV7 l)=some (hpVV7 l)∧l.length=l.length∧c=c∧l.length≤1000000)∧(Ob (errC l≠(0:Int))→((errC l !=(0:Int))=true→True∧Ob (vi (errC l)=vi (heE l m)))∧((errC l !=(0:Int))=false→(decide ((m.length:Int)<(1:Int))=false→(decide ((301:Int)<(m.length:Int))=true→True∧Ob (vi (6:Int)=vi (heE l m)))∧(decide ((301:Int)<(m.length:Int))=false→Ob (hpVV4 m)∧((hpVV3 m)=true→True∧Ob (vi (3:Int)=vi (heE l m)))∧((hpVV3 m)=false→Ob ((0:Int)≤(0:Int)∧(0:Int)<(m.length:Int)∧true=true)∧Ob (IntAt IntKind.i64 (List.map hpVV0 m) 0)∧(decide ((0:Int)<getI (List.map hpVV0 m) 0)=true→(true=true→True∧Ob (vi (14:Int)=vi (heE l m)))∧(true=false→True∧Ob (hpVV12 l m)))∧(decide ((0:Int)<getI (List.map hpVV0 m) 0)=false→(∃ (y:Nat),Ob (y≤m.length∧∀ (b:Nat),b<y→rtA l m b)∧(Ob (AObj.ro (List.map hpVV0 l)=AObj.ro (List.map (nmap1 fun (b:Nat)↦b) (List.map hpVV0 l))∧AObj.sc 2 (hpVV7 l)=true)∧Ob (AObj.ro (List.map hpVV0 m)=AObj.ro (List.map (nmap1 fun (b:Nat)↦b) (List.map hpVV0 m))∧AObj.sc 2 (hpVV9 m)=true)∧True)∧False∧Ob (hpVV1 m d)∧Ob (hpVV1 m d)∧Ob (hpVV6 m)∧Ob ((0:Int)=(y:Int))∧True)∧∀ (x:Nat),Ob (x≤m.length∧∀ (b:Nat),b<x→rtA l m b)→(decide ((x:Int)<(m.length:Int))=true→Ob ((0:Int)≤(x:Int)∧(x:Int)<(m.length:Int)∧true=true)∧Ob (IntAt IntKind.i64 (List.map hpVV0 m) (hpVV11 x))∧False)∧(decide ((x:Int)<(m.length:Int))=false→(false=true→True∧Ob (vi (14:Int)=vi (heE l m)))∧(false=false→True∧Ob (hpVV12 l m)))))))∧(decide ((m.length:Int)<(1:Int))=true→True∧Ob (vi (6:Int)=vi (heE l m)))))∧(Ob (errC l=(0:Int))→∀ (zl:List Int),Ob (isZ zl)→(false=true→True∧Ob (hpVV12 l m))∧(false=false→(decide ((m.length:Int)<(1:Int))=false→(decide ((301:Int)<(m.length:Int))=true→True∧Ob (vi (6:Int)=vi (heE l m)))∧(decide ((301:Int)<(m.length:Int))=false→Ob (hpVV4 m)∧((hpVV3 m)=true→True∧Ob (vi (3:Int)=vi (heE l m)))∧((hpVV3 m)=false→Ob ((0:Int)≤(0:Int)∧(0:Int)<(m.length:Int)∧true=true)∧Ob (IntAt IntKind.i64 (List.map hpVV0 m) 0)∧(decide ((0:Int)<getI (List.map hpVV0 m) 0)=true→(true=true→True∧Ob (vi (14:Int)=vi (heE l m)))∧(true=false→True∧Ob (hpVV12 l m)))∧(decide ((0:Int)<getI (List.map hpVV0 m) 0)=false→(∃ (y:Nat),Ob (y≤m.length∧∀ (b:Nat),b<y→rtA l m b)∧(Ob (AObj.ro (List.map hpVV0 l)=AObj.ro (List.map (nmap1 fun (b:Nat)↦b) (List.map hpVV0 l))∧AObj.sc 3 (hpVV7 l)=true)∧Ob (AObj.ro (List.map hpVV0 m)=AObj.ro (List.map (nmap1 fun (b:Nat)↦b) (List.map hpVV0 m))∧AObj.sc 3 (hpVV9 m)=true)∧Ob (AObj.rw (hpVV2 l c zl) none=AObj.rw (List.map (nmap1 fun (b:Nat)↦b) (hpVV2 l c zl)) none∧AObj.sc 3 (AObj.rw (hpVV2 l c zl) none)=true)∧True)∧Ob (ptr0 2=ptr0 2)∧Ob (hpVV1 m d)∧Ob (hpVV1 m d)∧Ob (hpVV6 m)∧Ob ((0:Int)=(y:Int))∧True)∧∀ (x:Nat),Ob (x≤m.length∧∀ (b:Nat),b<x→rtA l m b)→(decide ((x:Int)<(m.length:Int))=true→Ob ((0:Int)≤(x:Int)∧(x:Int)<(m.length:Int)∧true=true)∧Ob (IntAt IntKind.i64 (List.map hpVV0 m) (hpVV11 x))∧(∃ (y:Nat),Ob (y≤l.length∧∀ (j:Nat),j<y→rtO l m x j)∧(Ob (AObj.ro (List.map hpVV0 l)=AObj.ro (List.map (nmap1 fun (b:Nat)↦b) (List.map hpVV0 l))∧AObj.sc 3 (hpVV7 l)=true)∧Ob (AObj.ro (List.map hpVV0 m)=AObj.ro (List.map (nmap1 fun (b:Nat)↦b) (List.map hpVV0 m))∧AObj.sc 3 (hpVV9 m)=true)∧Ob (AObj.rw (hpVV2 l c zl) none=AObj.rw (List.map (nmap1 fun (b:Nat)↦b) (hpVV2 l c zl)) none∧AObj.sc 3 (AObj.rw (hpVV2 l c zl) none)=true)∧True)∧Ob (ptr0 2=ptr0 2)∧Ob (hpVV1 m d)∧Ob (hpVV1 m d)∧Ob (hpVV6 m)∧Ob ((x:Int)=(x:Int))∧Ob ((x:Int)=(x:Int))∧Ob (getI (List.map hpVV0 m) (hpVV11 x)=m.getD x (0:Int))∧Ob (Value.slice (some (ad0 0)) l.length c=Value.slice (some (ad0 0)) l.length c)∧Ob ((l.length:Int)=(l.length:Int))∧Ob ((0:Int)=(y:Int))∧True)∧∀ (x_1:Nat),Ob (x_1≤l.length∧∀ (j:Nat),j<x_1→rtO l m x j)→(decide ((x_1:Int)<(l.length:Int))=true→Ob ((0:Int)≤(x_1:Int)∧(x_1:Int)<(l.length:Int)∧true=true)∧Ob (IntAt IntKind.i64 (List.map hpVV0 l) (hpVV10 x_1))∧(decide ((x:Int)<getI (List.map hpVV0 l) (hpVV10 x_1))=true→∃ (y:Nat),Ob (y≤m.length∧∀ (b:Nat),b<y→rtA l m b)∧Ob (m.length-y<m.length-x)∧(Ob (AObj.ro (List.map hpVV0 l)=AObj.ro (List.map (nmap1 fun (b:Nat)↦b) (List.map hpVV0 l))∧AObj.sc 3 (hpVV7 l)=true)∧Ob (AObj.ro (List.map hpVV0 m)=AObj.ro (List.map (nmap1 fun (b:Nat)↦b) (List.map hpVV0 m))∧AObj.sc 3 (hpVV9 m)=true)∧Ob (AObj.rw (hpVV2 l c zl) none=AObj.rw (List.map (nmap1 fun (b:Nat)↦b) (hpVV2 l c zl)) none∧AObj.sc 3 (AObj.rw (hpVV2 l c zl) none)=true)∧True)∧Ob (ptr0 2=ptr0 2)∧Ob (hpVV1 m d)∧Ob (hpVV1 m d)∧Ob (hpVV6 m)∧Ob (IntKind.i64.wrap ((x:Int)+(1:Int))=(y:Int))∧True)∧(decide ((x:Int)<getI (List.map hpVV0 l) (hpVV10 x_1))=false→Ob ((0:Int)≤IntKind.i64.wrap (hpVV5 l x x_1)∧IntKind.i64.wrap (hpVV5 l x x_1)<(m.length:Int)∧true=true)∧Ob (IntAt IntKind.i64 (List.map hpVV0 m) (hpVV8 l x x_1))∧(decide (IntKind.i64.wrap (getI (List.map hpVV0 m) (hpVV8 l x x_1)+(1:Int))<m.getD x (0:Int))=true→(true=true→True∧Ob (vi (14:Int)=vi (heE l m)))∧(true=false→True∧Ob (hpVV12 l m)))∧(decide (IntKind.i64.wrap (getI (List.map hpVV0 m) (hpVV8 l x x_1)+(1:Int))<m.getD x (0:Int))=false→∃ (y:Nat),Ob (y≤l.length∧∀ (j:Nat),j<y→rtO l m x j)∧Ob (l.length-y<l.length-x_1)∧(Ob (AObj.ro (List.map hpVV0 l)=AObj.ro (List.map (nmap1 fun (b:Nat)↦b) (List.map hpVV0 l))∧AObj.sc 3 (hpVV7 l)=true)∧Ob (AObj.ro (List.map hpVV0 m)=AObj.ro (List.map (nmap1 fun (b:Nat)↦b) (List.map hpVV0 m))∧AObj.sc 3 (hpVV9 m)=true)∧Ob (AObj.rw (hpVV2 l c zl) none=AObj.rw (List.map (nmap1 fun (b:Nat)↦b) (hpVV2 l c zl)) none∧AObj.sc 3 (AObj.rw (hpVV2 l c zl) none)=true)∧True)∧Ob (ptr0 2=ptr0 2)∧Ob (hpVV1 m d)∧Ob (hpVV1 m d)∧Ob (hpVV6 m)∧Ob ((x:Int)=(x:Int))∧Ob ((x:Int)=(x:Int))∧Ob (m.getD x (0:Int)=m.getD x (0:Int))∧Ob (Value.slice (some (ad0 0)) l.length c=Value.slice (some (ad0 0)) l.length c)∧Ob ((l.length:Int)=(l.length:Int))∧Ob (IntKind.i64.wrap ((x_1:Int)+(1:Int))=(y:Int))∧True)))∧(decide ((x_1:Int)<(l.length:Int))=false→∃ (y:Nat),Ob (y≤m.length∧∀ (b:Nat),b<y→rtA l m b)∧Ob (m.length-y<m.length-x)∧(Ob (AObj.ro (List.map hpVV0 l)=AObj.ro (List.map (nmap1 fun (b:Nat)↦b) (List.map hpVV0 l))∧AObj.sc 3 (hpVV7 l)=true)∧Ob (AObj.ro (List.map hpVV0 m)=AObj.ro (List.map (nmap1 fun (b:Nat)↦b) (List.map hpVV0 m))∧AObj.sc 3 (hpVV9 m)=true)∧Ob (AObj.rw (hpVV2 l c zl) none=AObj.rw (List.map (nmap1 fun (b:Nat)↦b) (hpVV2 l c zl)) none∧AObj.sc 3 (AObj.rw (hpVV2 l c zl) none)=true)∧True)∧Ob (ptr0 2=ptr0 2)∧Ob (hpVV1 m d)∧Ob (hpVV1 m d)∧Ob (hpVV6 m)∧Ob (IntKind.i64.wrap ((x:Int)+(1:Int))=(y:Int))∧True))∧(decide ((x:Int)<(m.length:Int))=false→(false=true→True∧Ob (vi (14:Int)=vi (heE l m)))∧(false=false→True∧Ob (hpVV12 l m)))))))∧(decide ((m.length:Int)<(1:Int))=true→True∧Ob (vi (6:Int)=vi (heE l m)))))
theorem hpVV_eq : hpVV = fun (l : List Int) (c : Nat) (m : List Int) (d : Nat) => vc Try.prog (hpE l c m d) 2 30 true (fun _ => none) hpB [] (argFr 0 [.slice (some ⟨0,0,none⟩) l.length c,.slice (some ⟨1,0,none⟩) m.length d]) [ros l,ros m] (retK Try.prog Try.f33 (fun v _ => v = vi (heE l m))) := by kernel_rfl
theorem hpNN_ok (u : Unit) : hpNN u := by
 unfold hpNN
 simp only [SS,reduceCtorEq,Arg.list,Arg.num,Arg.flag,intOf,andP,Nat.reduceLeDiff,Nat.reduceAdd,Nat.reduceMul,Nat.reduceLT]
theorem hpNH_ok (d : Nat) (t : Option Nat) : hpNH d t := by
 unfold hpNH
 simp only [SS,reduceCtorEq,Arg.list,Arg.num,Arg.flag,intOf,andP,Nat.reduceLeDiff,Nat.reduceAdd,Nat.reduceMul,Nat.reduceLT]
theorem hpNV_ok (m : List Int) (d : Nat) : hpNV m d := by
 unfold hpNV hpNV1 hpNV0
 simp only [SS,reduceCtorEq,Arg.list,Arg.num,Arg.flag,intOf,andP,Nat.reduceLeDiff,Nat.reduceAdd,Nat.reduceMul,Nat.reduceLT]
theorem hpHN_ok (c : Nat) (s : Option Nat) : hpHN c s := by
 unfold hpHN
 simp only [SS,reduceCtorEq,Arg.list,Arg.num,Arg.flag,intOf,andP,Nat.reduceLeDiff,Nat.reduceAdd,Nat.reduceMul,Nat.reduceLT]
theorem hpHH_ok (c : Nat) (s : Option Nat) (d : Nat) (t : Option Nat) : hpHH c s d t := by
 unfold hpHH
 simp only [SS,reduceCtorEq,Arg.list,Arg.num,Arg.flag,intOf,andP,Nat.reduceLeDiff,Nat.reduceAdd,Nat.reduceMul,Nat.reduceLT]
theorem hpHV_ok (c : Nat) (s : Option Nat) (m : List Int) (d : Nat) : hpHV c s m d := by
 unfold hpHV hpHV1 hpHV0
 simp only [SS,reduceCtorEq,Arg.list,Arg.num,Arg.flag,intOf,andP,Nat.reduceLeDiff,Nat.reduceAdd,Nat.reduceMul,Nat.reduceLT]
theorem hpVN_ok (l : List Int) (c : Nat) (hl : l.length≤1000000) : hpVN l c := by
 unfold hpVN
 simp only [SS,reduceCtorEq,Arg.list,Arg.num,Arg.flag,intOf,andP,Nat.reduceLeDiff,Nat.reduceAdd,Nat.reduceMul,Nat.reduceLT]
 exact ⟨hl,fun h => ⟨fun _ => (heE_c h).symm,fun h2 => absurd h2 h⟩,fun h zl _ => (heE_m h (.inl (by simp))).symm⟩
theorem hpVH_ok (l : List Int) (c : Nat) (d : Nat) (t : Option Nat) (hl : l.length≤1000000) : hpVH l c d t := by
 unfold hpVH
 simp only [SS,reduceCtorEq,Arg.list,Arg.num,Arg.flag,intOf,andP,Nat.reduceLeDiff,Nat.reduceAdd,Nat.reduceMul,Nat.reduceLT]
 exact ⟨hl,fun h => ⟨fun _ => (heE_c h).symm,fun h2 => absurd h2 h⟩,fun h zl _ => (heE_m h (.inl (by simp))).symm⟩
theorem hpVV_ok (l : List Int) (c : Nat) (m : List Int) (d : Nat) (hl : l.length≤1000000) : hpVV l c m d := by
 unfold hpVV hpVV12 hpVV11 hpVV10 hpVV9 hpVV8 hpVV7 hpVV6 hpVV5 hpVV4 hpVV3 hpVV2 hpVV1 hpVV0
 simp only [SS,reduceCtorEq,Arg.list,Arg.num,Arg.flag,intOf,andP,Nat.reduceLeDiff,Nat.reduceAdd,Nat.reduceMul,Nat.reduceLT,til_sc,nm_sl]
 refine ⟨hl,fun h => ⟨fun _ => (heE_c h).symm,fun h2 => absurd h2 h⟩,fun h zl hz => ⟨fun h1 => ⟨fun h2 => (heE_m h (.inr (by omega))).symm,fun h2 => ?_⟩,fun h1 => (heE_m h (.inl (by omega))).symm⟩⟩
 have hc := errC_ok.1 h
 have hfew := hc.few
 have cr : ∀ j,j < l.length→1≤l.getD j 0∧l.getD j 0≤50 := fun j hj => coin_rng hc hj
 have hm : ¬ (m.length < 1∨301 < m.length) := by omega
 refine ⟨by omega,fun h3 => (heE_r h hm fun k => wiF_false h3 fun v hv => ?_).symm,fun h3 => ?_⟩
 · obtain ⟨j,h4,h5⟩ := List.getElem_of_mem hv
   have := k j h4
   rw [List.getD_eq_getElem?_getD,List.getElem?_eq_getElem h4,h5] at this
   exact this
 have hr : ∀ j,j < m.length→0≤m.getD j 0∧m.getD j 0≤1000 := fun j hj => wiF_true h3 _ (ints_mem hj)
 have r0 := hr 0 (by omega)
 refine ⟨by omega,by omega,fun h4 => (heE_0 h hm hr (by omega)).symm,fun h4 => ?_⟩
 have h0 : m.getD 0 0 = 0 := by omega
 refine ⟨⟨0,⟨by omega,fun j hj => by omega⟩,rfl⟩,fun a ha => ⟨fun h5 => ⟨by omega,by omega,⟨0,⟨by omega,fun j hj => by omega⟩,rfl⟩,fun i hi => ⟨fun h6 => ?_,fun h6 => ⟨a + 1,⟨by omega,snocP ha.2 fun k hk => hi.2 k (by omega)⟩,by omega,wrap_succ (n := 9999) (by omega) (by omega)⟩⟩⟩,fun h5 => (heE_y h hm hr h0 fun k hk => ha.2 k (by omega)).symm⟩⟩
 have c1 := cr i (by omega)
 have ws : IntKind.i64.wrap ((i : Int) + 1) = ((i + 1 : Nat) : Int) := wrap_succ (n := 100) (by omega) (by omega)
 refine ⟨by omega,by omega,fun h7 => ⟨a + 1,⟨by omega,snocP ha.2 fun k hk => ?_⟩,by omega,wrap_succ (n := 9999) (by omega) (by omega)⟩,fun h7 => ?_⟩
 · by_cases e : k < i
   · exact hi.2 k e
   · intro h8
     have := coin_le hc (k - i) i (by omega)
     rw [show i + (k - i) = k by omega] at this
     omega
 · have w0 : IntKind.i64.wrap ((a : Int) - l.getD i 0) = (a : Int) - l.getD i 0 := wrap_in (by omega) (by omega)
   have v1 := hr ((a : Int) - l.getD i 0).toNat (by omega)
   have w1 : IntKind.i64.wrap (m.getD ((a : Int) - l.getD i 0).toNat 0 + 1) = m.getD ((a : Int) - l.getD i 0).toNat 0 + 1 := wrap_in (by omega) (by omega)
   rw [w0,w1]
   exact ⟨by omega,by omega,fun h8 => (heE_n h hm hr h0 fun k => by have := k a (by omega) i (by omega) (by omega); omega).symm,fun h8 => ⟨i + 1,⟨by omega,snocP hi.2 fun _ => by omega⟩,by omega,ws⟩⟩
theorem hpE_ok {l : List Int} {c : Nat} {m : List Int} {d : Nat} : VOk Try.prog (hpE l c m d) := ⟨CtOk.none.add wiG_ok,ccOr_ok twCc_ok (ccIn_ok E0_ok mixed (inl_one Try.func77)),E0_ok.yc,E0_ok.orc⟩
theorem hpG_ok : ∀ args H φ v H' l,pureG [.ints .i64,.ints .i64] hrS args H = some (φ,v,H',l)→Asks φ→Call Try.prog 33 args H (fun v' H2 => v' = v∧H2 = H')∧Kept H H' l :=
 pureG_ok fun r hk hs => match r,hk with
   | [_,_],⟨h1,h2,_⟩ => by
     rcases h1 with rfl | ⟨s,rfl⟩ | ⟨l,rfl⟩ <;> rcases h2 with rfl | ⟨t,rfl⟩ | ⟨m,rfl⟩
     · exact ⟨rfl,fun caps => Call.ofVc cnE_ok mixed (c := hpB) (inv := fun _ => none) Try.func33 (by kernel_rfl) (cast (congrFun hpNN_eq ()) (hpNN_ok ()))⟩
     · exact ⟨rfl,fun caps => Call.ofVc cnE_ok mixed (c := hpB) (inv := fun _ => none) Try.func33 (by kernel_rfl) (cast (congrFun (congrFun hpNH_eq (caps 0)) t) (hpNH_ok (caps 0) t))⟩
     · exact ⟨rfl,fun caps => Call.ofVc cnE_ok mixed (c := hpB) (inv := fun _ => none) Try.func33 (by kernel_rfl) (cast (congrFun (congrFun hpNV_eq m) (caps 0)) (hpNV_ok m (caps 0)))⟩
     · exact ⟨rfl,fun caps => Call.ofVc cnE_ok mixed (c := hpB) (inv := fun _ => none) Try.func33 (by kernel_rfl) (cast (congrFun (congrFun hpHN_eq (caps 0)) s) (hpHN_ok (caps 0) s))⟩
     · exact ⟨rfl,fun caps => Call.ofVc cnE_ok mixed (c := hpB) (inv := fun _ => none) Try.func33 (by kernel_rfl) (cast (congrFun (congrFun (congrFun (congrFun hpHH_eq (caps 0)) s) (caps 1)) t) (hpHH_ok (caps 0) s (caps 1) t))⟩
     · exact ⟨rfl,fun caps => Call.ofVc cnE_ok mixed (c := hpB) (inv := fun _ => none) Try.func33 (by kernel_rfl) (cast (congrFun (congrFun (congrFun (congrFun hpHV_eq (caps 0)) s) m) (caps 1)) (hpHV_ok (caps 0) s m (caps 1)))⟩
     · exact ⟨rfl,fun caps => Call.ofVc hpE_ok mixed (c := hpB) (inv := fun _ => none) Try.func33 (by kernel_rfl) (cast (congrFun (congrFun hpVN_eq l) (caps 0)) (hpVN_ok l (caps 0) hs))⟩
     · exact ⟨rfl,fun caps => Call.ofVc hpE_ok mixed (c := hpB) (inv := fun _ => none) Try.func33 (by kernel_rfl) (cast (congrFun (congrFun (congrFun (congrFun hpVH_eq l) (caps 0)) (caps 1)) t) (hpVH_ok l (caps 0) (caps 1) t hs))⟩
     · exact ⟨rfl,fun caps => Call.ofVc hpE_ok mixed (c := hpB) (inv := fun _ => none) Try.func33 (by kernel_rfl) (cast (congrFun (congrFun (congrFun (congrFun hpVV_eq l) (caps 0)) m) (caps 1)) (hpVV_ok l (caps 0) m (caps 1) hs))⟩
end Go.Pier.Fl
namespace Go.Pier.Fl
open Go Go.Pier Go.Proofs
noncomputable def lsB : Code := Try.f30.body.getD .skip
def lsI (l m : List Int) (c d : Nat) : Nat→Option LInv := invOf 0 (LInv.one Nat (fun i => i≤l.length∧∀ j,j < i→l.getD j 0 = m.getD j 0) (fun i => [(0,.slice (some ⟨0,0,none⟩) l.length c),(1,.slice (some ⟨1,0,none⟩) m.length d),(5,vi i)]) (fun _ => [ros l,ros m]) (fun i => l.length - i))
def lsS (r : List Arg) : Prop × Value := match r with
 | [.ints _ l,.ints _ m] => (l.length≤1000,.bool (l == m))
 | [.plain _,.plain _] => (True,.bool true)
 | _ => (False,undef)
noncomputable def lsVV :=
fun (l:List Int) (c:Nat) (m:List Int) (d:Nat)↦(((l.length:Int) !=(m.length:Int))=true→True∧Ob (Value.bool false=Value.bool (l==m)))∧(((l.length:Int) !=(m.length:Int))=false→(∃ (y:Nat),Ob (y≤l.length∧∀ (j:Nat),j<y→l.getD j (0:Int)=m.getD j (0:Int))∧(Ob (AObj.ro (List.map (Value.int IntKind.i64) l)=AObj.ro (List.map (nmap1 fun (b:Nat)↦b) (List.map (Value.int IntKind.i64) l))∧AObj.sc 2 (AObj.ro (List.map (Value.int IntKind.i64) l))=true)∧Ob (AObj.ro (List.map (Value.int IntKind.i64) m)=AObj.ro (List.map (nmap1 fun (b:Nat)↦b) (List.map (Value.int IntKind.i64) m))∧AObj.sc 2 (AObj.ro (List.map (Value.int IntKind.i64) m))=true)∧True)∧Ob (Value.slice (some (ad0 0)) l.length c=Value.slice (some (ad0 0)) l.length c)∧Ob (Value.slice (some (ad0 1)) m.length d=Value.slice (some (ad0 1)) m.length d)∧Ob ((0:Int)=(y:Int))∧True)∧∀ (x:Nat),Ob (x≤l.length∧∀ (j:Nat),j<x→l.getD j (0:Int)=m.getD j (0:Int))→(decide ((x:Int)<(l.length:Int))=true→Ob ((0:Int)≤(x:Int)∧(x:Int)<(l.length:Int)∧true=true)∧Ob (IntAt IntKind.i64 (List.map (Value.int IntKind.i64) l) (0+(x:Int).toNat * 1))∧Ob ((0:Int)≤(x:Int)∧(x:Int)<(m.length:Int)∧true=true)∧Ob (IntAt IntKind.i64 (List.map (Value.int IntKind.i64) m) (0+(x:Int).toNat * 1))∧((getI (List.map (Value.int IntKind.i64) l) (0+(x:Int).toNat * 1) !=getI (List.map (Value.int IntKind.i64) m) (0+(x:Int).toNat * 1))=true→True∧Ob (Value.bool false=Value.bool (l==m)))∧((getI (List.map (Value.int IntKind.i64) l) (0+(x:Int).toNat * 1) !=getI (List.map (Value.int IntKind.i64) m) (0+(x:Int).toNat * 1))=false→∃ (y:Nat),Ob (y≤l.length∧∀ (j:Nat),j<y→l.getD j (0:Int)=m.getD j (0:Int))∧Ob (l.length-y<l.length-x)∧(Ob (AObj.ro (List.map (Value.int IntKind.i64) l)=AObj.ro (List.map (nmap1 fun (b:Nat)↦b) (List.map (Value.int IntKind.i64) l))∧AObj.sc 2 (AObj.ro (List.map (Value.int IntKind.i64) l))=true)∧Ob (AObj.ro (List.map (Value.int IntKind.i64) m)=AObj.ro (List.map (nmap1 fun (b:Nat)↦b) (List.map (Value.int IntKind.i64) m))∧AObj.sc 2 (AObj.ro (List.map (Value.int IntKind.i64) m))=true)∧True)∧Ob (Value.slice (some (ad0 0)) l.length c=Value.slice (some (ad0 0)) l.length c)∧Ob (Value.slice (some (ad0 1)) m.length d=Value.slice (some (ad0 1)) m.length d)∧Ob (IntKind.i64.wrap ((x:Int)+(1:Int))=(y:Int))∧True))∧(decide ((x:Int)<(l.length:Int))=false→True∧Ob (Value.bool true=Value.bool (l==m))))
theorem lsVV_eq : lsVV = fun (l : List Int) (c : Nat) (m : List Int) (d : Nat) => vc Try.prog {} 2 26 true (lsI l m c d) lsB [] (argFr 0 [.slice (some ⟨0,0,none⟩) l.length c,.slice (some ⟨1,0,none⟩) m.length d]) [ros l,ros m] (retK Try.prog Try.f30 (fun v _ => v = .bool (l == m))) := by kernel_rfl
noncomputable def lsNN :=
fun (x:Unit)↦(false=true→True∧Ob (Value.bool false=Value.bool true))∧(false=false→(∃ (y:Unit),Ob True∧True∧Ob (Value.slice none 0 0=Value.slice none 0 0)∧Ob (Value.slice none 0 0=Value.slice none 0 0)∧Ob ((0:Int)=(0:Int))∧True)∧∀ (x:Unit),Ob True→(false=true→False)∧(false=false→True∧Ob (Value.bool true=Value.bool true)))
theorem lsNN_eq : lsNN = fun (_ : Unit) => vc Try.prog {} 0 26 true (invOf 0 (LInv.one Unit (fun _ => True) (fun _ => [(0,.slice none 0 0),(1,.slice none 0 0),(5,vi 0)]) (fun _ => []) (fun _ => 1))) lsB [] (argFr 0 [.slice none 0 0,.slice none 0 0]) [] (retK Try.prog Try.f30 (fun v _ => v = .bool true)) := by kernel_rfl
theorem eq_no {l m : List Int} (h : l ≠ m) : false = (l == m) := by
 cases e : l == m with
 | false => rfl
 | true => exact absurd (eq_of_beq e) h
theorem eq_all {l m : List Int} (hl : l.length = m.length) (h : ∀ j,j < l.length→l.getD j 0 = m.getD j 0) : l = m := by
 refine List.ext_getElem hl fun j h1 h2 => ?_
 have := h j h1
 rw [List.getD_eq_getElem?_getD,List.getElem?_eq_getElem h1,List.getD_eq_getElem?_getD,List.getElem?_eq_getElem h2] at this
 exact this
theorem lsVV_ok (l : List Int) (c : Nat) (m : List Int) (d : Nat) (hl : l.length≤1000) : lsVV l c m d := by
 unfold lsVV
 simp only [SS,reduceCtorEq,Arg.list,Arg.num,Arg.flag,intOf,andP,Nat.reduceLeDiff,Nat.reduceAdd,Nat.reduceMul,Nat.reduceLT]
 refine ⟨fun h => eq_no fun e => h (by rw [e]),fun h => ⟨⟨0,⟨by omega,fun j hj => by omega⟩,rfl⟩,fun x hx => ⟨fun h1 => ⟨by omega,by omega,by omega,by omega,fun h2 => eq_no fun e => h2 (by rw [e]),fun h2 => ⟨x + 1,⟨by omega,fun j hj => ?_⟩,by omega,wrap_succ (n := 9999) (by omega) (by omega)⟩⟩,fun h1 => ?_⟩⟩⟩
 · by_cases e : j = x
   · rw [e]; exact h2
   · exact hx.2 j (by omega)
 · rw [eq_all (l := l) (m := m) (by omega) fun j hj => hx.2 j (by omega)]
   exact (beq_self_eq_true m).symm
theorem lsNN_ok (u : Unit) : lsNN u := by
 unfold lsNN
 simp only [SS,reduceCtorEq,Arg.list,Arg.num,Arg.flag,intOf,andP,Nat.reduceLeDiff,Nat.reduceAdd,Nat.reduceMul,Nat.reduceLT]
theorem lsG_ok : ∀ args H φ v H' l,pureG [.ints .i64,.ints .i64] lsS args H = some (φ,v,H',l)→Asks φ→Call Try.prog 30 args H (fun v' H2 => v' = v∧H2 = H')∧Kept H H' l :=
 pureG_ok fun r hk hs => match r,hk with
   | [_,_],⟨h1,h2,_⟩ => by
     rcases h1 with rfl | ⟨s,rfl⟩ | ⟨l,rfl⟩ <;> rcases h2 with rfl | ⟨t,rfl⟩ | ⟨m,rfl⟩
     · exact ⟨rfl,fun caps => Call.ofVc E0_ok mixed (c := lsB) (inv := invOf 0 (LInv.one Unit (fun _ => True) (fun _ => [(0,.slice none 0 0),(1,.slice none 0 0),(5,vi 0)]) (fun _ => []) (fun _ => 1))) Try.func30 (by kernel_rfl) (cast (congrFun lsNN_eq ()) (lsNN_ok ()))⟩
     · exact hs.elim
     · exact hs.elim
     · exact hs.elim
     · exact hs.elim
     · exact hs.elim
     · exact hs.elim
     · exact hs.elim
     · exact ⟨rfl,fun caps => Call.ofVc E0_ok mixed (c := lsB) (inv := lsI l m (caps 0) (caps 1)) Try.func30 (by kernel_rfl) (cast (congrFun (congrFun (congrFun (congrFun lsVV_eq l) (caps 0)) m) (caps 1)) (lsVV_ok l _ m _ hs))⟩
end Go.Pier.Fl
