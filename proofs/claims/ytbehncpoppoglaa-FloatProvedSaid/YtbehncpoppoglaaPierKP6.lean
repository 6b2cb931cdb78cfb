import Derived.Test.YtbehncpoppoglaaPierKP5
import Derived.KernelRfl
import Derived.Test.YtbehncpoppoglaaPierKP2
import Derived.Test.YtbehncpoppoglaaPierKP4
set_option linter.unusedSimpArgs false
set_option linter.unusedVariables false
set_option maxRecDepth 100000
namespace Go.Pier.Fl
open Go Go.Pier Go.Proofs
end Go.Pier.Fl
namespace Go.Pier.Fl
open Go Go.Pier Go.Proofs
noncomputable def okB (p : Prop) : Bool := @decide p (Classical.propDecidable p)
def rtO (l m : List Int) (a i : Nat) : Prop := l.getD i 0≤(a : Int)→m.getD a 0≤m.getD ((a : Int) - l.getD i 0).toNat 0 + 1
def rtA (l m : List Int) (a : Nat) : Prop := ∀ i,i < l.length→rtO l m a i
noncomputable def heE (l m : List Int) : Int := if errC l ≠ 0 then errC l else if m.length < 1∨301 < m.length then 6 else if okB (∀ j,j < m.length→0≤m.getD j 0∧m.getD j 0≤1000) = false then 3 else if m.getD 0 0 ≠ 0 then 14 else if okB (∀ a,a < m.length→rtA l m a) = false then 14 else 0
noncomputable def heB : Code := Try.f34.body.getD .skip
def he0 (l : List Int) (c : Nat) (m : List Int) (d : Nat) : LInv := LInv.one Nat (fun i => i≤m.length∧∀ j,j < i→0≤m.getD j 0∧m.getD j 0≤1000) (fun i => [(0,.slice (some ⟨0,0,none⟩) l.length c),(1,.slice (some ⟨1,0,none⟩) m.length d),(5,vi i)]) (fun _ => [ros l,ros m]) (fun i => m.length - i)
def he4 (l : List Int) (c : Nat) (m : List Int) (d : Nat) (a : Nat) : Nat→Option LInv := invOf 4 (LInv.one Nat (fun i => i≤l.length∧∀ j,j < i→rtO l m a j) (fun i => [(0,.slice (some ⟨0,0,none⟩) l.length c),(1,.slice (some ⟨1,0,none⟩) m.length d),(6,vi a),(7,vi i)]) (fun _ => [ros l,ros m]) (fun i => l.length - i))
def he2 (l : List Int) (c : Nat) (m : List Int) (d : Nat) : LInv := LInv.one Nat (fun a => a≤m.length∧∀ b,b < a→rtA l m b) (fun a => [(0,.slice (some ⟨0,0,none⟩) l.length c),(1,.slice (some ⟨1,0,none⟩) m.length d),(6,vi a)]) (fun _ => [ros l,ros m]) (fun a => m.length - a) (fun a => he4 l c m d a)
def heI (l : List Int) (c : Nat) (m : List Int) (d : Nat) : Nat→Option LInv := fun k => match Nat.beq k 0 with
 | true => some (he0 l c m d)
 | false => match Nat.beq k 2 with
   | true => some (he2 l c m d)
   | false => none
noncomputable def hrE : VEnv := { ct := Ct.none.add 23 (pureG [.ints .i64] ciS) }
noncomputable def heVV0  := (Value.int IntKind.i64)
noncomputable def heVV1 (l:List Int) (c:Nat):Prop := (Value.slice (some (ad0 0)) l.length c=Value.slice (some (ad0 0)) l.length c)
noncomputable def heVV2 (m:List Int) (d:Nat):Prop := (Value.slice (some (ad0 1)) m.length d=Value.slice (some (ad0 1)) m.length d)
noncomputable def heVV3 (l:List Int) := (List.take l.length (List.drop 0 (intsOf (List.map heVV0 l))))
noncomputable def heVV4 (l:List Int) (x:Nat) (x_1:Nat) := ((x:Int)-getI (List.map heVV0 l) (0+(x_1:Int).toNat * 1))
noncomputable def heVV5  (x:Nat) := (0+(x:Int).toNat * 1)
noncomputable def heVV6 (l:List Int):Prop := ((List.take l.length (List.drop 0 (List.map heVV0 l))=List.map heVV0 (heVV3 l)∧0+l.length≤(List.map heVV0 l).length∧true=true)∧(heVV3 l).length≤1000000)
noncomputable def heVV7 (l:List Int) := (AObj.ro (List.map heVV0 l))
noncomputable def heVV8 (m:List Int) := (AObj.ro (List.map heVV0 m))
noncomputable def heVV9  (x_1:Nat) := (0+(x_1:Int).toNat * 1)
noncomputable def heVV10 (l:List Int) (x:Nat) (x_1:Nat) := (0+(IntKind.i64.wrap (heVV4 l x x_1)).toNat * 1)
noncomputable def heVV11 (m:List Int) (x:Nat) := (IntAt IntKind.i64 (List.map heVV0 m) (heVV5 x))
noncomputable def heVV :=
fun (l:List Int) (c:Nat) (m:List Int) (d:Nat)↦Ob (heVV6 l)∧((errC (heVV3 l) !=(0:Int))=true→Ob (heVV6 l)∧True∧Ob (vi (errC (heVV3 l))=vi (heE l m)))∧((errC (heVV3 l) !=(0:Int))=false→(decide ((m.length:Int)<(1:Int))=false→(decide ((301:Int)<(m.length:Int))=true→True∧Ob (vi (6:Int)=vi (heE l m)))∧(decide ((301:Int)<(m.length:Int))=false→(∃ (y:Nat),Ob (y≤m.length∧∀ (j:Nat),j<y→(0:Int)≤m.getD j (0:Int)∧m.getD j (0:Int)≤(1000:Int))∧(Ob (AObj.ro (List.map heVV0 l)=AObj.ro (List.map (nmap1 fun (b:Nat)↦b) (List.map heVV0 l))∧AObj.sc 2 (heVV7 l)=true)∧Ob (AObj.ro (List.map heVV0 m)=AObj.ro (List.map (nmap1 fun (b:Nat)↦b) (List.map heVV0 m))∧AObj.sc 2 (heVV8 m)=true)∧True)∧Ob (heVV1 l c)∧Ob (heVV2 m d)∧Ob ((0:Int)=(y:Int))∧True)∧∀ (x:Nat),Ob (x≤m.length∧∀ (j:Nat),j<x→(0:Int)≤m.getD j (0:Int)∧m.getD j (0:Int)≤(1000:Int))→(decide ((x:Int)<(m.length:Int))=true→Ob ((0:Int)≤(x:Int)∧(x:Int)<(m.length:Int)∧true=true)∧Ob (heVV11 m x)∧(decide (getI (List.map heVV0 m) (heVV5 x)<(0:Int))=false→Ob ((0:Int)≤(x:Int)∧(x:Int)<(m.length:Int)∧true=true)∧Ob (heVV11 m x)∧(decide ((1000:Int)<getI (List.map heVV0 m) (heVV5 x))=true→True∧Ob (vi (3:Int)=vi (heE l m)))∧(decide ((1000:Int)<getI (List.map heVV0 m) (heVV5 x))=false→∃ (y:Nat),Ob (y≤m.length∧∀ (j:Nat),j<y→(0:Int)≤m.getD j (0:Int)∧m.getD j (0:Int)≤(1000:Int))∧Ob (m.length-y<m.length-x)∧(Ob (AObj.ro (List.map heVV0 l)=AObj.ro (List.map (nmap1 fun (b:Nat)↦b) (List.map heVV0 l))∧AObj.sc 2 (heVV7 l)=true)∧Ob (AObj.ro (List.map heVV0 m)=AObj.ro (List.map (nmap1 fun (b:Nat)↦b) (List.map heVV0 m))∧AObj.sc 2 (heVV8 m)=true)∧True)∧Ob (heVV1 l c)∧Ob (heVV2 m d)∧Ob (IntKind.i64.wrap ((x:Int)+(1:Int))=(y:Int))∧True))∧(decide (getI (List.map heVV0 m) (heVV5 x)<(0:Int))=true→True∧Ob (vi (3:Int)=vi (heE l m))))∧(decide ((x:Int)<(m.length:Int))=false→Ob ((0:Int)≤(0:Int)∧(0:Int)<(m.length:Int)∧true=true)∧Ob (IntAt IntKind.i64 (List.map heVV0 m) 0)∧((getI (List.map heVV0 m) 0 !=(0:Int))=true→True∧Ob (vi (14:Int)=vi (heE l m)))∧((getI (List.map heVV0 m) 0 !=(0:Int))=false→(∃ (y:Nat),Ob (y≤m.length∧∀ (b:Nat),b<y→rtA l m b)∧(Ob (AObj.ro (List.map heVV0 l)=AObj.ro (List.map (nmap1 fun (b:Nat)↦b) (List.map heVV0 l))∧AObj.sc 2 (heVV7 l)=true)∧Ob (AObj.ro (List.map heVV0 m)=AObj.ro (List.map (nmap1 fun (b:Nat)↦b) (List.map heVV0 m))∧AObj.sc 2 (heVV8 m)=true)∧True)∧Ob (heVV1 l c)∧Ob (heVV2 m d)∧Ob ((0:Int)=(y:Int))∧True)∧∀ (x:Nat),Ob (x≤m.length∧∀ (b:Nat),b<x→rtA l m b)→(decide ((x:Int)<(m.length:Int))=true→(∃ (y:Nat),Ob (y≤l.length∧∀ (j:Nat),j<y→rtO l m x j)∧(Ob (AObj.ro (List.map heVV0 l)=AObj.ro (List.map (nmap1 fun (b:Nat)↦b) (List.map heVV0 l))∧AObj.sc 2 (heVV7 l)=true)∧Ob (AObj.ro (List.map heVV0 m)=AObj.ro (List.map (nmap1 fun (b:Nat)↦b) (List.map heVV0 m))∧AObj.sc 2 (heVV8 m)=true)∧True)∧Ob (heVV1 l c)∧Ob (heVV2 m d)∧Ob ((x:Int)=(x:Int))∧Ob ((0:Int)=(y:Int))∧True)∧∀ (x_1:Nat),Ob (x_1≤l.length∧∀ (j:Nat),j<x_1→rtO l m x j)→(decide ((x_1:Int)<(l.length:Int))=true→Ob ((0:Int)≤(x_1:Int)∧(x_1:Int)<(l.length:Int)∧true=true)∧Ob (IntAt IntKind.i64 (List.map heVV0 l) (heVV9 x_1))∧(decide (getI (List.map heVV0 l) (heVV9 x_1)≤(x:Int))=true→Ob ((0:Int)≤(x:Int)∧(x:Int)<(m.length:Int)∧true=true)∧Ob (heVV11 m x)∧Ob ((0:Int)≤(x_1:Int)∧(x_1:Int)<(l.length:Int)∧true=true)∧Ob (IntAt IntKind.i64 (List.map heVV0 l) (heVV9 x_1))∧Ob ((0:Int)≤IntKind.i64.wrap (heVV4 l x x_1)∧IntKind.i64.wrap (heVV4 l x x_1)<(m.length:Int)∧true=true)∧Ob (IntAt IntKind.i64 (List.map heVV0 m) (heVV10 l x x_1))∧(decide (IntKind.i64.wrap (getI (List.map heVV0 m) (heVV10 l x x_1)+(1:Int))<getI (List.map heVV0 m) (heVV5 x))=true→True∧Ob (vi (14:Int)=vi (heE l m)))∧(decide (IntKind.i64.wrap (getI (List.map heVV0 m) (heVV10 l x x_1)+(1:Int))<getI (List.map heVV0 m) (heVV5 x))=false→∃ (y:Nat),Ob (y≤l.length∧∀ (j:Nat),j<y→rtO l m x j)∧Ob (l.length-y<l.length-x_1)∧(Ob (AObj.ro (List.map heVV0 l)=AObj.ro (List.map (nmap1 fun (b:Nat)↦b) (List.map heVV0 l))∧AObj.sc 2 (heVV7 l)=true)∧Ob (AObj.ro (List.map heVV0 m)=AObj.ro (List.map (nmap1 fun (b:Nat)↦b) (List.map heVV0 m))∧AObj.sc 2 (heVV8 m)=true)∧True)∧Ob (heVV1 l c)∧Ob (heVV2 m d)∧Ob ((x:Int)=(x:Int))∧Ob (IntKind.i64.wrap ((x_1:Int)+(1:Int))=(y:Int))∧True))∧(decide (getI (List.map heVV0 l) (heVV9 x_1)≤(x:Int))=false→∃ (y:Nat),Ob (y≤l.length∧∀ (j:Nat),j<y→rtO l m x j)∧Ob (l.length-y<l.length-x_1)∧(Ob (AObj.ro (List.map heVV0 l)=AObj.ro (List.map (nmap1 fun (b:Nat)↦b) (List.map heVV0 l))∧AObj.sc 2 (heVV7 l)=true)∧Ob (AObj.ro (List.map heVV0 m)=AObj.ro (List.map (nmap1 fun (b:Nat)↦b) (List.map heVV0 m))∧AObj.sc 2 (heVV8 m)=true)∧True)∧Ob (heVV1 l c)∧Ob (heVV2 m d)∧Ob ((x:Int)=(x:Int))∧Ob (IntKind.i64.wrap ((x_1:Int)+(1:Int))=(y:Int))∧True))∧(decide ((x_1:Int)<(l.length:Int))=false→∃ (y:Nat),Ob (y≤m.length∧∀ (b:Nat),b<y→rtA l m b)∧Ob (m.length-y<m.length-x)∧(Ob (AObj.ro (List.map heVV0 l)=AObj.ro (List.map (nmap1 fun (b:Nat)↦b) (List.map heVV0 l))∧AObj.sc 2 (heVV7 l)=true)∧Ob (AObj.ro (List.map heVV0 m)=AObj.ro (List.map (nmap1 fun (b:Nat)↦b) (List.map heVV0 m))∧AObj.sc 2 (heVV8 m)=true)∧True)∧Ob (heVV1 l c)∧Ob (heVV2 m d)∧Ob (IntKind.i64.wrap ((x:Int)+(1:Int))=(y:Int))∧True))∧(decide ((x:Int)<(m.length:Int))=false→True∧Ob (vi (0:Int)=vi (heE l m)))))))∧(decide ((m.length:Int)<(1:Int))=true→True∧Ob (vi (6:Int)=vi (heE l m))))
theorem heVV_eq : heVV = fun (l : List Int) (c : Nat) (m : List Int) (d : Nat) => vc Try.prog hrE 2 78 true (heI l c m d) heB [] (argFr 0 [.slice (some ⟨0,0,none⟩) l.length c,.slice (some ⟨1,0,none⟩) m.length d]) [ros l,ros m] (retK Try.prog Try.f34 (fun v _ => v = vi (heE l m))) := by kernel_rfl
noncomputable def heNN :=
fun (x:Unit)↦Ob True∧(true=true→Ob True∧True∧Ob (vi (6:Int)=vi (6:Int)))∧(true=false→(true=false→(false=true→True∧Ob (vi (6:Int)=vi (6:Int)))∧(false=false→False))∧(true=true→True∧Ob (vi (6:Int)=vi (6:Int))))
theorem heNN_eq : heNN = fun (_ : Unit) => vc Try.prog hrE 0 78 true (fun _ => none) heB [] (argFr 0 [.slice none 0 0,.slice none 0 0]) [] (retK Try.prog Try.f34 (fun v _ => v = vi 6)) := by kernel_rfl
noncomputable def heNH :=
fun (d:Nat) (t:Option Nat)↦Ob True∧(true=true→Ob True∧True∧Ob (vi (6:Int)=vi (6:Int)))∧(true=false→(true=false→(false=true→True∧Ob (vi (6:Int)=vi (6:Int)))∧(false=false→False))∧(true=true→True∧Ob (vi (6:Int)=vi (6:Int))))
theorem heNH_eq : heNH = fun (d : Nat) (t : Option Nat) => vc Try.prog hrE 1 78 true (fun _ => none) heB [] (argFr 0 [.slice none 0 0,.slice (some ⟨0,0,t⟩) 0 d]) [.gone] (retK Try.prog Try.f34 (fun v _ => v = vi 6)) := by kernel_rfl
noncomputable def heNV :=
fun (m:List Int) (d:Nat)↦Ob True∧(true=true→Ob True∧True∧Ob (vi (6:Int)=vi (6:Int)))∧(true=false→(decide ((m.length:Int)<(1:Int))=false→(decide ((301:Int)<(m.length:Int))=true→True∧Ob (vi (6:Int)=vi (6:Int)))∧(decide ((301:Int)<(m.length:Int))=false→False))∧(decide ((m.length:Int)<(1:Int))=true→True∧Ob (vi (6:Int)=vi (6:Int))))
theorem heNV_eq : heNV = fun (m : List Int) (d : Nat) => vc Try.prog hrE 1 78 true (fun _ => none) heB [] (argFr 0 [.slice none 0 0,.slice (some ⟨0,0,none⟩) m.length d]) [ros m] (retK Try.prog Try.f34 (fun v _ => v = vi 6)) := by kernel_rfl
noncomputable def heHN :=
fun (c:Nat) (s:Option Nat)↦Ob True∧(true=true→Ob True∧True∧Ob (vi (6:Int)=vi (6:Int)))∧(true=false→(true=false→(false=true→True∧Ob (vi (6:Int)=vi (6:Int)))∧(false=false→False))∧(true=true→True∧Ob (vi (6:Int)=vi (6:Int))))
theorem heHN_eq : heHN = fun (c : Nat) (s : Option Nat) => vc Try.prog hrE 1 78 true (fun _ => none) heB [] (argFr 0 [.slice (some ⟨0,0,s⟩) 0 c,.slice none 0 0]) [.gone] (retK Try.prog Try.f34 (fun v _ => v = vi 6)) := by kernel_rfl
noncomputable def heHH :=
fun (c:Nat) (s:Option Nat) (d:Nat) (t:Option Nat)↦Ob True∧(true=true→Ob True∧True∧Ob (vi (6:Int)=vi (6:Int)))∧(true=false→(true=false→(false=true→True∧Ob (vi (6:Int)=vi (6:Int)))∧(false=false→False))∧(true=true→True∧Ob (vi (6:Int)=vi (6:Int))))
theorem heHH_eq : heHH = fun (c : Nat) (s : Option Nat) (d : Nat) (t : Option Nat) => vc Try.prog hrE 2 78 true (fun _ => none) heB [] (argFr 0 [.slice (some ⟨0,0,s⟩) 0 c,.slice (some ⟨1,0,t⟩) 0 d]) [.gone,.gone] (retK Try.prog Try.f34 (fun v _ => v = vi 6)) := by kernel_rfl
noncomputable def heHV :=
fun (c:Nat) (s:Option Nat) (m:List Int) (d:Nat)↦Ob True∧(true=true→Ob True∧True∧Ob (vi (6:Int)=vi (6:Int)))∧(true=false→(decide ((m.length:Int)<(1:Int))=false→(decide ((301:Int)<(m.length:Int))=true→True∧Ob (vi (6:Int)=vi (6:Int)))∧(decide ((301:Int)<(m.length:Int))=false→False))∧(decide ((m.length:Int)<(1:Int))=true→True∧Ob (vi (6:Int)=vi (6:Int))))
theorem heHV_eq : heHV = fun (c : Nat) (s : Option Nat) (m : List Int) (d : Nat) => vc Try.prog hrE 2 78 true (fun _ => none) heB [] (argFr 0 [.slice (some ⟨0,0,s⟩) 0 c,.slice (some ⟨1,0,none⟩) m.length d]) [.gone,ros m] (retK Try.prog Try.f34 (fun v _ => v = vi 6)) := by kernel_rfl
noncomputable def heVN0 (l:List Int) := (List.take l.length (List.drop 0 (intsOf (List.map (Value.int IntKind.i64) l))))
noncomputable def heVN1 (l:List Int):Prop := ((List.take l.length (List.drop 0 (List.map (Value.int IntKind.i64) l))=List.map (Value.int IntKind.i64) (heVN0 l)∧0+l.length≤(List.map (Value.int IntKind.i64) l).length∧true=true)∧(heVN0 l).length≤1000000)
noncomputable def heVN :=
fun (l:List Int) (c:Nat)↦Ob (heVN1 l)∧((errC (heVN0 l) !=(0:Int))=true→Ob (heVN1 l)∧True∧Ob (vi (errC (heVN0 l))=vi (heE l [])))∧((errC (heVN0 l) !=(0:Int))=false→(true=false→(false=true→True∧Ob (vi (6:Int)=vi (heE l [])))∧(false=false→False))∧(true=true→True∧Ob (vi (6:Int)=vi (heE l []))))
theorem heVN_eq : heVN = fun (l : List Int) (c : Nat) => vc Try.prog hrE 1 78 true (fun _ => none) heB [] (argFr 0 [.slice (some ⟨0,0,none⟩) l.length c,.slice none 0 0]) [ros l] (retK Try.prog Try.f34 (fun v _ => v = vi (heE l []))) := by kernel_rfl
noncomputable def heVH0 (l:List Int) := (List.take l.length (List.drop 0 (intsOf (List.map (Value.int IntKind.i64) l))))
noncomputable def heVH1 (l:List Int):Prop := ((List.take l.length (List.drop 0 (List.map (Value.int IntKind.i64) l))=List.map (Value.int IntKind.i64) (heVH0 l)∧0+l.length≤(List.map (Value.int IntKind.i64) l).length∧true=true)∧(heVH0 l).length≤1000000)
noncomputable def heVH :=
fun (l:List Int) (c d:Nat) (t:Option Nat)↦Ob (heVH1 l)∧((errC (heVH0 l) !=(0:Int))=true→Ob (heVH1 l)∧True∧Ob (vi (errC (heVH0 l))=vi (heE l [])))∧((errC (heVH0 l) !=(0:Int))=false→(true=false→(false=true→True∧Ob (vi (6:Int)=vi (heE l [])))∧(false=false→False))∧(true=true→True∧Ob (vi (6:Int)=vi (heE l []))))
theorem heVH_eq : heVH = fun (l : List Int) (c : Nat) (d : Nat) (t : Option Nat) => vc Try.prog hrE 2 78 true (fun _ => none) heB [] (argFr 0 [.slice (some ⟨0,0,none⟩) l.length c,.slice (some ⟨1,0,t⟩) 0 d]) [ros l,.gone] (retK Try.prog Try.f34 (fun v _ => v = vi (heE l []))) := by kernel_rfl
theorem okB_t {p : Prop} (h : p) : ¬ okB p = false := by
 unfold okB
 rw [@decide_eq_true p (Classical.propDecidable p) h]; decide
theorem okB_f {p : Prop} (h : ¬ p) : okB p = false := @decide_eq_false p (Classical.propDecidable p) h
theorem heE_c {l m : List Int} (h : ¬ errC l = 0) : heE l m = errC l := by rw [heE,if_pos h]
theorem heE_m {l m : List Int} (h : errC l = 0) (hm : m.length < 1∨301 < m.length) : heE l m = 6 := by rw [heE,if_neg (fun k => k h),if_pos hm]
theorem heE_r {l m : List Int} (h : errC l = 0) (hm : ¬ (m.length < 1∨301 < m.length)) (hr : ¬ ∀ j,j < m.length→0≤m.getD j 0∧m.getD j 0≤1000) : heE l m = 3 := by rw [heE,if_neg (fun k => k h),if_neg hm,if_pos (okB_f hr)]
theorem heE_0 {l m : List Int} (h : errC l = 0) (hm : ¬ (m.length < 1∨301 < m.length)) (hr : ∀ j,j < m.length→0≤m.getD j 0∧m.getD j 0≤1000) (h0 : ¬ m.getD 0 0 = 0) : heE l m = 14 := by rw [heE,if_neg (fun k => k h),if_neg hm,if_neg (okB_t hr),if_pos h0]
theorem heE_n {l m : List Int} (h : errC l = 0) (hm : ¬ (m.length < 1∨301 < m.length)) (hr : ∀ j,j < m.length→0≤m.getD j 0∧m.getD j 0≤1000) (h0 : m.getD 0 0 = 0) (ha : ¬ ∀ a,a < m.length→rtA l m a) : heE l m = 14 := by rw [heE,if_neg (fun k => k h),if_neg hm,if_neg (okB_t hr),if_neg (fun k => k h0),if_pos (okB_f ha)]
theorem heE_y {l m : List Int} (h : errC l = 0) (hm : ¬ (m.length < 1∨301 < m.length)) (hr : ∀ j,j < m.length→0≤m.getD j 0∧m.getD j 0≤1000) (h0 : m.getD 0 0 = 0) (ha : ∀ a,a < m.length→rtA l m a) : heE l m = 0 := by rw [heE,if_neg (fun k => k h),if_neg hm,if_neg (okB_t hr),if_neg (fun k => k h0),if_neg (okB_t ha)]
theorem snocP {P : Nat→Prop} {i : Nat} (h : ∀ j,j < i→P j) (h2 : P i) : ∀ j,j < i + 1→P j := fun j hj => by
 by_cases e : j = i
 · rw [e]; exact h2
 · exact h j (by omega)
theorem heVV_ok (l : List Int) (c : Nat) (m : List Int) (d : Nat) (hl : l.length≤1000000) : heVV l c m d := by
 unfold heVV heVV11 heVV10 heVV9 heVV8 heVV7 heVV6 heVV5 heVV4 heVV3 heVV2 heVV1 heVV0
 simp only [SS,reduceCtorEq,Arg.list,Arg.num,Arg.flag,intOf,andP,Nat.reduceLeDiff,Nat.reduceAdd,Nat.reduceMul,Nat.reduceLT]
 refine ⟨hl,fun h => ⟨hl,(heE_c h).symm⟩,fun h => ⟨fun h1 => ⟨fun h2 => (heE_m h (.inr (by omega))).symm,fun h2 => ?_⟩,fun h1 => (heE_m h (.inl (by omega))).symm⟩⟩
 have hc := errC_ok.1 h
 have hfew := hc.few
 have cr : ∀ j,j < l.length→1≤l.getD j 0∧l.getD j 0≤50 := fun j hj => coin_rng hc hj
 have hm : ¬ (m.length < 1∨301 < m.length) := by omega
 refine ⟨⟨0,⟨by omega,fun j hj => by omega⟩,rfl⟩,fun x hx => ⟨fun h3 => ⟨by omega,by omega,fun h4 => ⟨by omega,by omega,fun h5 => (heE_r h hm fun k => by have := k x (by omega); omega).symm,fun h5 => ⟨x + 1,⟨by omega,snocP hx.2 (by omega)⟩,by omega,wrap_succ (n := 9999) (by omega) (by omega)⟩⟩,fun h4 => (heE_r h hm fun k => by have := k x (by omega); omega).symm⟩,fun h3 => ?_⟩⟩
 have hr : ∀ j,j < m.length→0≤m.getD j 0∧m.getD j 0≤1000 := fun j hj => hx.2 j (by omega)
 refine ⟨by omega,by omega,fun h0 => (heE_0 h hm hr h0).symm,fun h0 => ⟨⟨0,⟨by omega,fun j hj => by omega⟩,rfl⟩,fun a ha => ⟨fun h4 => ⟨⟨0,⟨by omega,fun j hj => by omega⟩,rfl⟩,fun i hi => ⟨fun h5 => ?_,fun h5 => ⟨a + 1,⟨by omega,snocP ha.2 fun k hk => hi.2 k (by omega)⟩,by omega,wrap_succ (n := 9999) (by omega) (by omega)⟩⟩⟩,fun h4 => (heE_y h hm hr h0 fun k hk => ha.2 k (by omega)).symm⟩⟩⟩
 have c1 := cr i (by omega)
 have w0 : IntKind.i64.wrap ((a : Int) - l.getD i 0) = (a : Int) - l.getD i 0 := wrap_in (by omega) (by omega)
 have ws : IntKind.i64.wrap ((i : Int) + 1) = ((i + 1 : Nat) : Int) := wrap_succ (n := 100) (by omega) (by omega)
 refine ⟨by omega,by omega,fun h6 => ?_,fun h6 => ⟨i + 1,⟨by omega,snocP hi.2 fun k => absurd k h6⟩,by omega,ws⟩⟩
 have v1 := hr ((a : Int) - l.getD i 0).toNat (by omega)
 have w1 : IntKind.i64.wrap (m.getD ((a : Int) - l.getD i 0).toNat 0 + 1) = m.getD ((a : Int) - l.getD i 0).toNat 0 + 1 := wrap_in (by omega) (by omega)
 rw [w0,w1]
 exact ⟨by omega,by omega,by omega,by omega,by omega,by omega,fun h7 => (heE_n h hm hr h0 fun k => by have := k a (by omega) i (by omega) h6; omega).symm,fun h7 => ⟨i + 1,⟨by omega,snocP hi.2 fun _ => by omega⟩,by omega,ws⟩⟩
theorem heNN_ok (u : Unit) : heNN u := by
 unfold heNN
 simp only [SS,reduceCtorEq,Arg.list,Arg.num,Arg.flag,intOf,andP,Nat.reduceLeDiff,Nat.reduceAdd,Nat.reduceMul,Nat.reduceLT]
theorem heNH_ok (d : Nat) (t : Option Nat) : heNH d t := by
 unfold heNH
 simp only [SS,reduceCtorEq,Arg.list,Arg.num,Arg.flag,intOf,andP,Nat.reduceLeDiff,Nat.reduceAdd,Nat.reduceMul,Nat.reduceLT]
theorem heNV_ok (m : List Int) (d : Nat) : heNV m d := by
 unfold heNV
 simp only [SS,reduceCtorEq,Arg.list,Arg.num,Arg.flag,intOf,andP,Nat.reduceLeDiff,Nat.reduceAdd,Nat.reduceMul,Nat.reduceLT]
theorem heHN_ok (c : Nat) (s : Option Nat) : heHN c s := by
 unfold heHN
 simp only [SS,reduceCtorEq,Arg.list,Arg.num,Arg.flag,intOf,andP,Nat.reduceLeDiff,Nat.reduceAdd,Nat.reduceMul,Nat.reduceLT]
theorem heHH_ok (c : Nat) (s : Option Nat) (d : Nat) (t : Option Nat) : heHH c s d t := by
 unfold heHH
 simp only [SS,reduceCtorEq,Arg.list,Arg.num,Arg.flag,intOf,andP,Nat.reduceLeDiff,Nat.reduceAdd,Nat.reduceMul,Nat.reduceLT]
theorem heHV_ok (c : Nat) (s : Option Nat) (m : List Int) (d : Nat) : heHV c s m d := by
 unfold heHV
 simp only [SS,reduceCtorEq,Arg.list,Arg.num,Arg.flag,intOf,andP,Nat.reduceLeDiff,Nat.reduceAdd,Nat.reduceMul,Nat.reduceLT]
theorem heVN_ok (l : List Int) (c : Nat) (hl : l.length≤1000000) : heVN l c := by
 unfold heVN heVN1 heVN0
 simp only [SS,reduceCtorEq,Arg.list,Arg.num,Arg.flag,intOf,andP,Nat.reduceLeDiff,Nat.reduceAdd,Nat.reduceMul,Nat.reduceLT]
 exact ⟨hl,fun h => ⟨hl,(heE_c h).symm⟩,fun h => (heE_m h (.inl (by simp))).symm⟩
theorem heVH_ok (l : List Int) (c : Nat) (d : Nat) (t : Option Nat) (hl : l.length≤1000000) : heVH l c d t := by
 unfold heVH heVH1 heVH0
 simp only [SS,reduceCtorEq,Arg.list,Arg.num,Arg.flag,intOf,andP,Nat.reduceLeDiff,Nat.reduceAdd,Nat.reduceMul,Nat.reduceLT]
 exact ⟨hl,fun h => ⟨hl,(heE_c h).symm⟩,fun h => (heE_m h (.inl (by simp))).symm⟩
theorem hrE_ok : VOk Try.prog hrE := VOk.ofCt (CtOk.none.add rcG_ok)
noncomputable def hrS (r : List Arg) : Prop × Value := match r with
 | [.ints _ l,.ints _ m] => (l.length≤1000000,vi (heE l m))
 | [.ints _ l,_] => (l.length≤1000000,vi (heE l []))
 | [_,_] => (True,vi 6)
 | _ => (False,undef)
theorem hrG_ok : ∀ args H φ v H' l,pureG [.ints .i64,.ints .i64] hrS args H = some (φ,v,H',l)→Asks φ→Call Try.prog 34 args H (fun v' H2 => v' = v∧H2 = H')∧Kept H H' l :=
 pureG_ok fun r hk hs => match r,hk with
   | [_,_],⟨h1,h2,_⟩ => by
     rcases h1 with rfl | ⟨s,rfl⟩ | ⟨l,rfl⟩ <;> rcases h2 with rfl | ⟨t,rfl⟩ | ⟨m,rfl⟩
     · exact ⟨rfl,fun caps => Call.ofVc hrE_ok mixed (c := heB) (inv := fun _ => none) Try.func34 (by kernel_rfl) (cast (congrFun heNN_eq ()) (heNN_ok ()))⟩
     · exact ⟨rfl,fun caps => Call.ofVc hrE_ok mixed (c := heB) (inv := fun _ => none) Try.func34 (by kernel_rfl) (cast (congrFun (congrFun heNH_eq (caps 0)) t) (heNH_ok (caps 0) t))⟩
     · exact ⟨rfl,fun caps => Call.ofVc hrE_ok mixed (c := heB) (inv := fun _ => none) Try.func34 (by kernel_rfl) (cast (congrFun (congrFun heNV_eq m) (caps 0)) (heNV_ok m (caps 0)))⟩
     · exact ⟨rfl,fun caps => Call.ofVc hrE_ok mixed (c := heB) (inv := fun _ => none) Try.func34 (by kernel_rfl) (cast (congrFun (congrFun heHN_eq (caps 0)) s) (heHN_ok (caps 0) s))⟩
     · exact ⟨rfl,fun caps => Call.ofVc hrE_ok mixed (c := heB) (inv := fun _ => none) Try.func34 (by kernel_rfl) (cast (congrFun (congrFun (congrFun (congrFun heHH_eq (caps 0)) s) (caps 1)) t) (heHH_ok (caps 0) s (caps 1) t))⟩
     · exact ⟨rfl,fun caps => Call.ofVc hrE_ok mixed (c := heB) (inv := fun _ => none) Try.func34 (by kernel_rfl) (cast (congrFun (congrFun (congrFun (congrFun heHV_eq (caps 0)) s) m) (caps 1)) (heHV_ok (caps 0) s m (caps 1)))⟩
     · exact ⟨rfl,fun caps => Call.ofVc hrE_ok mixed (c := heB) (inv := fun _ => none) Try.func34 (by kernel_rfl) (cast (congrFun (congrFun heVN_eq l) (caps 0)) (heVN_ok l (caps 0) hs))⟩
     · exact ⟨rfl,fun caps => Call.ofVc hrE_ok mixed (c := heB) (inv := fun _ => none) Try.func34 (by kernel_rfl) (cast (congrFun (congrFun (congrFun (congrFun heVH_eq l) (caps 0)) (caps 1)) t) (heVH_ok l (caps 0) (caps 1) t hs))⟩
     · exact ⟨rfl,fun caps => Call.ofVc hrE_ok mixed (c := heB) (inv := heI l (caps 0) m (caps 1)) Try.func34 (by kernel_rfl) (cast (congrFun (congrFun (congrFun (congrFun heVV_eq l) (caps 0)) m) (caps 1)) (heVV_ok l (caps 0) m (caps 1) hs))⟩
end Go.Pier.Fl
namespace Go.Pier.Sk
open Go Go.Pier
variable {P : Program}
def empI (_ : Nat) : Int := 0
end Go.Pier.Sk
namespace Go.Pier.Fl
open Go Go.Pier Go.Proofs
noncomputable def amB : Code := Try.f63.body.getD .skip
noncomputable def amE : VEnv := { orc := orcIx Try.prog }
def amI (l : List Int) (c : Nat) (f : Nat→Int) : Nat→Option LInv := invOf 0 (LInv.one Nat (fun i => i≤l.length) (fun i => [(3,ptr0 2),(5,vi (dotF l f i)),(9,.slice (some ⟨0,0,none⟩) l.length c),(10,vi l.length),(11,vi i)]) (fun _ => [ros l,.rw [.slice (some ⟨0,0,none⟩) l.length c] none,.rw (I5 f []) none]) (fun i => l.length - i))
noncomputable def amV0 (f:Nat→Int):List Value := [vi (f 0),vi (f 1),vi (f 2),vi (f 3),vi (f 4)]
noncomputable def amV1 (l:List Int) := (List.map (Value.int IntKind.i64) l)
noncomputable def amV2  (x:Nat) := (0+(x:Int).toNat * 1)
noncomputable def amV3 (l:List Int) (c:Nat):Prop := (AObj.rw [Value.slice (some (ad0 0)) l.length c] none=AObj.rw [Value.slice (some (ad0 0)) l.length c] none∧true=true)
noncomputable def amV :=
fun (l:List Int) (c:Nat) (f:Nat→Int)↦(∃ (y:Nat),Ob (y≤l.length)∧(Ob (AObj.ro (amV1 l)=AObj.ro (List.map (nmap1 fun (b:Nat)↦b) (amV1 l))∧AObj.sc 3 (AObj.ro (amV1 l))=true)∧Ob (amV3 l c)∧Ob (AObj.rw (amV0 f) none=AObj.rw (amV0 f) none∧true=true)∧True)∧Ob (ptr0 2=ptr0 2)∧Ob ((0:Int)=dotF l f y)∧Ob (Value.slice (some (ad0 0)) l.length c=Value.slice (some (ad0 0)) l.length c)∧Ob ((l.length:Int)=(l.length:Int))∧Ob ((0:Int)=(y:Int))∧True)∧∀ (x:Nat),Ob (x≤l.length)→(decide ((x:Int)<(l.length:Int))=true→Ob ((0:Int)≤(x:Int)∧(x:Int)<(l.length:Int)∧true=true)∧Ob (IntAt IntKind.i64 (amV1 l) (amV2 x))∧Ob ((0:Int)≤(x:Int)∧(x:Int)<(↑(5:Nat):Int))∧Ob (IntAt IntKind.i64 (amV0 f) (amV2 x))∧∃ (y:Nat),Ob (y≤l.length)∧Ob (l.length-y<l.length-x)∧(Ob (AObj.ro (amV1 l)=AObj.ro (List.map (nmap1 fun (b:Nat)↦b) (amV1 l))∧AObj.sc 3 (AObj.ro (amV1 l))=true)∧Ob (amV3 l c)∧Ob (AObj.rw (amV0 f) none=AObj.rw (amV0 f) none∧true=true)∧True)∧Ob (ptr0 2=ptr0 2)∧Ob (IntKind.i64.wrap (dotF l f x+IntKind.i64.wrap (getI (amV0 f) (amV2 x) * getI (amV1 l) (amV2 x)))=dotF l f y)∧Ob (Value.slice (some (ad0 0)) l.length c=Value.slice (some (ad0 0)) l.length c)∧Ob ((l.length:Int)=(l.length:Int))∧Ob (IntKind.i64.wrap ((x:Int)+(1:Int))=(y:Int))∧True)∧(decide ((x:Int)<(l.length:Int))=false→(Ob (AObj.ro (amV1 l)=AObj.ro (List.map (nmap1 fun (b:Nat)↦b) (amV1 l))∧AObj.sc 1 (AObj.ro (amV1 l))=true)∧True)∧Ob (dotF l f x=dotF l f l.length)∧True)
theorem amV_ok (l : List Int) (c : Nat) (f : Nat→Int) (hr : rngC l) (hf : smallP f) : amV l c f := by
 unfold amV amV3 amV2 amV1 amV0
 have h5 := hr.1
 simp only [SS,reduceCtorEq,Arg.list,Arg.num,Arg.flag,intOf,andP,Nat.reduceLeDiff,Nat.reduceAdd,Nat.reduceMul,Nat.reduceLT,nm_sl]
 refine ⟨⟨0,by omega,rfl,rfl⟩,fun x hx => ⟨fun h1 => ?_,fun h1 => ?_⟩⟩
 · have hb := dot_bd (l := l) (y := f) (B := 50) (C := 100000) (by omega) (by omega) x (fun j hj => by have := hr.2 j (by omega); omega) fun j hj => hf.at (by omega)
   have a := hr.2 x (by omega)
   have b := hf.at (a := x) (by omega)
   have m1 := Int.mul_nonneg (show 0≤l.getD x 0 by omega) b.1
   have m2 := Int.mul_le_mul a.2 b.2 b.1 (by omega)
   have e0 : getI [vi (f 0),vi (f 1),vi (f 2),vi (f 3),vi (f 4)] x = f x := gi5 (by omega)
   have e1 : IntKind.i64.wrap (f x * l.getD x 0) = l.getD x 0 * f x := by rw [Int.mul_comm]; exact wrap_in (by omega) (by omega)
   have e2 : IntKind.i64.wrap (dotF l f x + l.getD x 0 * f x) = dotF l f (x + 1) := by rw [dotF]; exact wrap_in (by omega) (by omega)
   rw [e0,e1,e2]
   exact ⟨by omega,by omega,by omega,I5_at (f := f) (by omega),x + 1,by omega,by omega,rfl,wrap_succ (n := 10) (by omega) (by omega)⟩
 · rw [show x = l.length by omega]
theorem amE_ok : VOk Try.prog amE := ⟨CtOk.none,E0_ok.cc,E0_ok.yc,orcIx_ok⟩
theorem am_call (l : List Int) (c : Nat) (f : Nat→Int) (hr : rngC l) (hf : smallP f) : Call Try.prog 63 [.agg #[.slice (some ⟨0,0,none⟩) l.length c],C5 f] [ros l] fun v H' => v = vi (dotF l f l.length)∧H' = [ros l] :=
 Call.ofVcR (E := amE) (H := [ros l]) (args := [.agg #[.slice (some ⟨0,0,none⟩) l.length c],C5 f]) (σ := fun b => b) (v2 := vi (dotF l f l.length)) (H2 := [ros l]) amE_ok mixed (c := amB) (inv := amI l c f) Try.func63 (by kernel_rfl) (cast (by kernel_rfl) (amV_ok l c f hr hf))
def amCt (l : List Int) : List Value→Heap→Option (Option Prop × Value × Heap × List Nat) := fun args H => match args with
 | [.agg ⟨[.slice (some ⟨0,0,none⟩) n _]⟩,.agg ⟨[.int .i64 a0,.int .i64 a1,.int .i64 a2,.int .i64 a3,.int .i64 a4]⟩] => some (some (H[0]? = some (ros l)∧n = l.length∧rngC l∧smallP (l5 a0 a1 a2 a3 a4)),vi (dotF l (l5 a0 a1 a2 a3 a4) l.length),H,[])
 | _ => none
theorem amCt_ok {l : List Int} : ∀ args H φ v H' k,amCt l args H = some (φ,v,H',k)→Asks φ→Call Try.prog 63 args H (fun v' H2 => v' = v∧H2 = H')∧Kept H H' k := fun args H φ v H' k h hφ => by
 unfold amCt at h
 split at h <;> cases h
 rename_i n d a0 a1 a2 a3 a4
 obtain ⟨h0,rfl,h2,h3⟩ := hφ
 refine ⟨?_,Kept.refl _ _⟩
 have hlt : 0 < H.length := (List.getElem?_eq_some_iff.1 h0).1
 have hF : sc 0 (vi (dotF l (l5 a0 a1 a2 a3 a4) l.length)) = true := rfl
 have := Call.frameP (P := Try.prog) (f := 63) (Et := [ros l]) (H := H) (L := [0]) (args := [.agg #[.slice (some ⟨0,0,none⟩) l.length d], C5 (l5 a0 a1 a2 a3 a4)]) (vs := [.agg #[.slice (some ⟨0,0,none⟩) l.length d], C5 (l5 a0 a1 a2 a3 a4)]) (v := vi (dotF l (l5 a0 a1 a2 a3 a4) l.length)) rfl (by simp) (fun x hx => by simp at hx; omega)
     (fun c o h => ?_) (fun o ho => by rw [List.mem_singleton.1 ho]; exact ros_sc) (fun c o h _ => ?_) (fun o ho => by rw [List.mem_singleton.1 ho]; exact ros_sc) (by simp [C5,nmap,nmap2,nmap1,nmap0,am]) (by simp [C5,sc,sc2,sc1,sc0]) (am_call l d (l5 a0 a1 a2 a3 a4) h2 h3) (fun o ho => by rw [List.mem_singleton.1 ho]; exact ros_nm) (nm_closed hF) (by rw [nmap_closed hF]; exact sc_mono (Nat.zero_le _) hF)
 · rw [nmap_closed hF] at this
   exact this
 · rcases c with _ | c
   · cases h; exact .inr (by rw [ros_omap]; exact h0)
   · simp at h
 · rcases c with _ | c
   · cases h; exact ⟨by rw [ros_omap,ros_omap],by rw [ros_omap]; exact ros_sc⟩
   · simp at h
end Go.Pier.Fl
namespace Go.Pier.Fl
open Go Go.Pier Go.Proofs
noncomputable def coO : Orc := Go.Pier.Sk.orcCp0 Try.prog
noncomputable def cc0E : VEnv := { orc := coO }
noncomputable def ccE (l : List Int) (c : Nat) : VEnv := { ct := ((Ct.none.add 61 (pureG [.int .i64,.int .i64,.ints .i64] wiS)).add 63 (amCt l)).add 64 (pure3 [ps5] maS),cc := ccOr (twCc l c) (ccIn Try.prog cc0E [⟨62,Try.f62,fun _ _ _ => none⟩]) }
noncomputable def cnE : VEnv := { ct := (Ct.none.add 61 (pureG [.int .i64,.int .i64,.ints .i64] wiS)).add 60 (pureG [.ints .i64] tnS) }
noncomputable def ccB : Code := Try.f20.body.getD .skip
noncomputable def ccVV0 (m:List Int) := (l5 (getI (List.map (Value.int IntKind.i64) m) 0) (getI (List.map (Value.int IntKind.i64) m) 1) (getI (List.map (Value.int IntKind.i64) m) 2) (getI (List.map (Value.int IntKind.i64) m) 3) (getI (List.map (Value.int IntKind.i64) m) 4))
noncomputable def ccVV1 (m:List Int) := (List.take m.length (List.drop 0 (intsOf (List.map (Value.int IntKind.i64) m))))
noncomputable def ccVV2 (l:List Int) (m:List Int):Array Value := ⟨[vi (chA l m),vi (chM l m),vi (errK l m)]⟩
noncomputable def ccVV3  := (Value.int IntKind.i64)
noncomputable def ccVV4 (m:List Int) := (!wiF (Arg.plain (vi (0:Int))).num (Arg.plain (vi (1000:Int))).num (Arg.ints IntKind.i64 (ccVV1 m)).list)
noncomputable def ccVV :=
fun (l:List Int) (c:Nat) (m:List Int) (d:Nat)↦Ob (some (AObj.ro (List.map ccVV3 l))=some (AObj.ro (List.map ccVV3 l))∧l.length=l.length∧c=c∧l.length≤1000000)∧(Ob (errC l≠(0:Int))→((errC l !=(0:Int))=true→True∧Ob (Value.tuple ⟨[vi (0:Int),vi (0:Int),vi (errC l)]⟩=Value.tuple (ccVV2 l m)))∧((errC l !=(0:Int))=false→False))∧(Ob (errC l=(0:Int))→∀ (zl:List Int),Ob (isZ zl)→(false=true→True∧Ob (Value.tuple ⟨[vi (0:Int),vi (0:Int),vi (0:Int)]⟩=Value.tuple (ccVV2 l m)))∧(false=false→(((m.length:Int) !=(l.length:Int))=true→True∧Ob (Value.tuple ⟨[vi (0:Int),vi (0:Int),vi (15:Int)]⟩=Value.tuple (ccVV2 l m)))∧(((m.length:Int) !=(l.length:Int))=false→Ob ((List.take m.length (List.drop 0 (List.map ccVV3 m))=List.map ccVV3 (ccVV1 m)∧0+m.length≤(List.map ccVV3 m).length∧true=true)∧(Arg.ints IntKind.i64 (ccVV1 m)).list.length≤1000000)∧((ccVV4 m)=true→True∧Ob (Value.tuple ⟨[vi (0:Int),vi (0:Int),vi (3:Int)]⟩=Value.tuple (ccVV2 l m)))∧((ccVV4 m)=false→Ob (([vi (0:Int),vi (0:Int),vi (0:Int),vi (0:Int),vi (0:Int)]=List.replicate 5 (vi (0:Int))∧0+5≤5∧true=true)∧(ad0 1)=(ad0 1)∧List.map ccVV3 m=List.map ccVV3 (intsOf (List.map ccVV3 m))∧(List.map ccVV3 m).length=m.length∧m.length≤5)∧Ob (0+5≤5)∧Ob (0+5≤5)∧Ob (some (AObj.ro (List.map ccVV3 l))=some (AObj.ro (List.map ccVV3 l))∧l.length=l.length∧rngC l∧smallP (ccVV0 m))∧Ob (smallP (ccVV0 m))∧True∧Ob (Value.tuple ⟨[vi (dotF l (ccVV0 m) l.length),vi (m5 (ccVV0 m)),vi (0:Int)]⟩=Value.tuple (ccVV2 l m))))))
theorem ccVV_eq : ccVV = fun (l : List Int) (c : Nat) (m : List Int) (d : Nat) => vc Try.prog (ccE l c) 2 40 true (fun _ => none) ccB [] (argFr 0 [.slice (some ⟨0,0,none⟩) l.length c,.slice (some ⟨1,0,none⟩) m.length d]) [ros l,ros m] (retK Try.prog Try.f20 (fun v _ => v = .tuple #[vi (chA l m),vi (chM l m),vi (errK l m)])) := by kernel_rfl
noncomputable def ccVN0 (l:List Int):Array Value := ⟨[vi (0:Int),vi (0:Int),vi (errK l [])]⟩
noncomputable def ccVN1  := (l5 (0 : Int) (0 : Int) (0 : Int) (0 : Int) (0 : Int))
noncomputable def ccVN2 (l:List Int) := (AObj.ro (List.map (Value.int IntKind.i64) l))
noncomputable def ccVN :=
fun (l:List Int) (c:Nat)↦Ob (some (ccVN2 l)=some (ccVN2 l)∧l.length=l.length∧c=c∧l.length≤1000000)∧(Ob (errC l≠(0:Int))→((errC l !=(0:Int))=true→True∧Ob (Value.tuple ⟨[vi (0:Int),vi (0:Int),vi (errC l)]⟩=Value.tuple (ccVN0 l)))∧((errC l !=(0:Int))=false→False))∧(Ob (errC l=(0:Int))→∀ (zl:List Int),Ob (isZ zl)→(false=true→True∧Ob (Value.tuple ⟨[vi (0:Int),vi (0:Int),vi (0:Int)]⟩=Value.tuple (ccVN0 l)))∧(false=false→(((↑(0:Nat):Int) !=(l.length:Int))=true→True∧Ob (Value.tuple ⟨[vi (0:Int),vi (0:Int),vi (15:Int)]⟩=Value.tuple (ccVN0 l)))∧(((↑(0:Nat):Int) !=(l.length:Int))=false→Ob (0≤1000000)∧(false=true→True∧Ob (Value.tuple ⟨[vi (0:Int),vi (0:Int),vi (3:Int)]⟩=Value.tuple (ccVN0 l)))∧(false=false→Ob (0+5≤5)∧Ob (0+5≤5)∧Ob (some (ccVN2 l)=some (ccVN2 l)∧l.length=l.length∧rngC l∧smallP ccVN1)∧Ob (smallP ccVN1)∧True∧Ob (Value.tuple ⟨[vi (dotF l ccVN1 l.length),vi (m5 ccVN1),vi (0:Int)]⟩=Value.tuple (ccVN0 l))))))
theorem ccVN_eq : ccVN = fun (l : List Int) (c : Nat) => vc Try.prog (ccE l c) 1 40 true (fun _ => none) ccB [] (argFr 0 [.slice (some ⟨0,0,none⟩) l.length c,.slice none 0 0]) [ros l] (retK Try.prog Try.f20 (fun v _ => v = .tuple #[vi 0,vi 0,vi (errK l [])])) := by kernel_rfl
noncomputable def ccVH0 (l:List Int):Array Value := ⟨[vi (0:Int),vi (0:Int),vi (errK l [])]⟩
noncomputable def ccVH1  := (l5 (0 : Int) (0 : Int) (0 : Int) (0 : Int) (0 : Int))
noncomputable def ccVH2 (l:List Int) := (AObj.ro (List.map (Value.int IntKind.i64) l))
noncomputable def ccVH :=
fun (l:List Int) (c d:Nat) (t:Option Nat)↦Ob (some (ccVH2 l)=some (ccVH2 l)∧l.length=l.length∧c=c∧l.length≤1000000)∧(Ob (errC l≠(0:Int))→((errC l !=(0:Int))=true→True∧Ob (Value.tuple ⟨[vi (0:Int),vi (0:Int),vi (errC l)]⟩=Value.tuple (ccVH0 l)))∧((errC l !=(0:Int))=false→False))∧(Ob (errC l=(0:Int))→∀ (zl:List Int),Ob (isZ zl)→(false=true→True∧Ob (Value.tuple ⟨[vi (0:Int),vi (0:Int),vi (0:Int)]⟩=Value.tuple (ccVH0 l)))∧(false=false→(((↑(0:Nat):Int) !=(l.length:Int))=true→True∧Ob (Value.tuple ⟨[vi (0:Int),vi (0:Int),vi (15:Int)]⟩=Value.tuple (ccVH0 l)))∧(((↑(0:Nat):Int) !=(l.length:Int))=false→Ob (0≤1000000)∧((!true)=true→True∧Ob (Value.tuple ⟨[vi (0:Int),vi (0:Int),vi (3:Int)]⟩=Value.tuple (ccVH0 l)))∧((!true)=false→Ob False∧Ob (0+5≤5)∧Ob (0+5≤5)∧Ob (some (ccVH2 l)=some (ccVH2 l)∧l.length=l.length∧rngC l∧smallP ccVH1)∧Ob (smallP ccVH1)∧True∧Ob (Value.tuple ⟨[vi (dotF l ccVH1 l.length),vi (m5 ccVH1),vi (0:Int)]⟩=Value.tuple (ccVH0 l))))))
theorem ccVH_eq : ccVH = fun (l : List Int) (c : Nat) (d : Nat) (t : Option Nat) => vc Try.prog (ccE l c) 2 40 true (fun _ => none) ccB [] (argFr 0 [.slice (some ⟨0,0,none⟩) l.length c,.slice (some ⟨1,0,t⟩) 0 d]) [ros l,.gone] (retK Try.prog Try.f20 (fun v _ => v = .tuple #[vi 0,vi 0,vi (errK l [])])) := by kernel_rfl
noncomputable def ccNV :=
fun (m:List Int) (d:Nat)↦Ob True∧(true=true→True∧Ob (Value.tuple ⟨[vi (0:Int),vi (0:Int),vi (6:Int)]⟩=Value.tuple ⟨[vi (0:Int),vi (0:Int),vi (6:Int)]⟩))∧(true=false→False)
theorem ccNV_eq : ccNV = fun (m : List Int) (d : Nat) => vc Try.prog cnE 1 40 true (fun _ => none) ccB [] (argFr 0 [.slice none 0 0,.slice (some ⟨0,0,none⟩) m.length d]) [ros m] (retK Try.prog Try.f20 (fun v _ => v = .tuple #[vi 0,vi 0,vi 6])) := by kernel_rfl
noncomputable def ccNN :=
fun (x:Unit)↦Ob True∧(true=true→True∧Ob (Value.tuple ⟨[vi (0:Int),vi (0:Int),vi (6:Int)]⟩=Value.tuple ⟨[vi (0:Int),vi (0:Int),vi (6:Int)]⟩))∧(true=false→False)
theorem ccNN_eq : ccNN = fun (_ : Unit) => vc Try.prog cnE 0 40 true (fun _ => none) ccB [] (argFr 0 [.slice none 0 0,.slice none 0 0]) [] (retK Try.prog Try.f20 (fun v _ => v = .tuple #[vi 0,vi 0,vi 6])) := by kernel_rfl
noncomputable def ccNH :=
fun (d:Nat) (t:Option Nat)↦Ob True∧(true=true→True∧Ob (Value.tuple ⟨[vi (0:Int),vi (0:Int),vi (6:Int)]⟩=Value.tuple ⟨[vi (0:Int),vi (0:Int),vi (6:Int)]⟩))∧(true=false→False)
theorem ccNH_eq : ccNH = fun (d : Nat) (t : Option Nat) => vc Try.prog cnE 1 40 true (fun _ => none) ccB [] (argFr 0 [.slice none 0 0,.slice (some ⟨0,0,t⟩) 0 d]) [.gone] (retK Try.prog Try.f20 (fun v _ => v = .tuple #[vi 0,vi 0,vi 6])) := by kernel_rfl
noncomputable def ccHV :=
fun (c:Nat) (s:Option Nat) (m:List Int) (d:Nat)↦Ob True∧(true=true→True∧Ob (Value.tuple ⟨[vi (0:Int),vi (0:Int),vi (6:Int)]⟩=Value.tuple ⟨[vi (0:Int),vi (0:Int),vi (6:Int)]⟩))∧(true=false→False)
theorem ccHV_eq : ccHV = fun (c : Nat) (s : Option Nat) (m : List Int) (d : Nat) => vc Try.prog cnE 2 40 true (fun _ => none) ccB [] (argFr 0 [.slice (some ⟨0,0,s⟩) 0 c,.slice (some ⟨1,0,none⟩) m.length d]) [.gone,ros m] (retK Try.prog Try.f20 (fun v _ => v = .tuple #[vi 0,vi 0,vi 6])) := by kernel_rfl
noncomputable def ccHN :=
fun (c:Nat) (s:Option Nat)↦Ob True∧(true=true→True∧Ob (Value.tuple ⟨[vi (0:Int),vi (0:Int),vi (6:Int)]⟩=Value.tuple ⟨[vi (0:Int),vi (0:Int),vi (6:Int)]⟩))∧(true=false→False)
theorem ccHN_eq : ccHN = fun (c : Nat) (s : Option Nat) => vc Try.prog cnE 1 40 true (fun _ => none) ccB [] (argFr 0 [.slice (some ⟨0,0,s⟩) 0 c,.slice none 0 0]) [.gone] (retK Try.prog Try.f20 (fun v _ => v = .tuple #[vi 0,vi 0,vi 6])) := by kernel_rfl
noncomputable def ccHH :=
fun (c:Nat) (s:Option Nat) (d:Nat) (t:Option Nat)↦Ob True∧(true=true→True∧Ob (Value.tuple ⟨[vi (0:Int),vi (0:Int),vi (6:Int)]⟩=Value.tuple ⟨[vi (0:Int),vi (0:Int),vi (6:Int)]⟩))∧(true=false→False)
theorem ccHH_eq : ccHH = fun (c : Nat) (s : Option Nat) (d : Nat) (t : Option Nat) => vc Try.prog cnE 2 40 true (fun _ => none) ccB [] (argFr 0 [.slice (some ⟨0,0,s⟩) 0 c,.slice (some ⟨1,0,t⟩) 0 d]) [.gone,.gone] (retK Try.prog Try.f20 (fun v _ => v = .tuple #[vi 0,vi 0,vi 6])) := by kernel_rfl
theorem l5_gt {m : List Int} {k : Nat} (h : k < 5) : l5 (m.getD 0 0) (m.getD 1 0) (m.getD 2 0) (m.getD 3 0) (m.getD 4 0) k = gt m k := by
 rcases k with _ | _ | _ | _ | _ | k <;> first | rfl | omega
theorem gt_out {m : List Int} {k : Nat} (h : m.length≤k) : gt m k = 0 := by
 unfold gt; rw [List.getD_eq_getElem?_getD,List.getElem?_eq_none h]; rfl
theorem ccVV_ok (l m : List Int) (c d : Nat) (hl : l.length≤1000000) (hm : m.length≤1000000) : ccVV l c m d := by
 unfold ccVV ccVV4 ccVV3 ccVV2 ccVV1 ccVV0
 simp only [SS,reduceCtorEq,Arg.list,Arg.num,Arg.flag,intOf,andP,Nat.reduceLeDiff,Nat.reduceAdd,Nat.reduceMul,Nat.reduceLT]
 refine ⟨hl,fun h => ⟨fun _ => chk_no (errK_c h) h,fun h2 => h h2⟩,fun h zl hz => ⟨fun h2 => chk_no (errK_15 h (by omega)) (by decide),fun h2 => ⟨hm,fun h3 => chk_no (errK_3 h (by omega) (wiF_false h3)) (by decide),fun h3 => ?_⟩⟩⟩
 have hc := errC_ok.1 h
 have hf := hc.few
 have hall := wiF_true h3
 have hg : ∀ k,0≤gt m k∧gt m k≤1000 := fun k => by
   by_cases hk : k < m.length
   · exact hall _ (ints_mem hk)
   · rw [gt_out (by omega)]; omega
 have hs : smallP (l5 (m.getD 0 0) (m.getD 1 0) (m.getD 2 0) (m.getD 3 0) (m.getD 4 0)) := by
   have h := fun k => hg k
   exact ⟨by have := h 0; simp only [gt] at this; exact ⟨this.1,by show m.getD 0 0≤_; omega⟩,by have := h 1; simp only [gt] at this; exact ⟨this.1,by show m.getD 1 0≤_; omega⟩,by have := h 2; simp only [gt] at this; exact ⟨this.1,by show m.getD 2 0≤_; omega⟩,by have := h 3; simp only [gt] at this; exact ⟨this.1,by show m.getD 3 0≤_; omega⟩,by have := h 4; simp only [gt] at this; exact ⟨this.1,by show m.getD 4 0≤_; omega⟩⟩
 have h0 := errK_0 h (by omega) hall
 refine ⟨⟨rfl,by omega⟩,⟨rng_of hc,hs⟩,hs,three_eq ?_ ?_ h0.symm⟩
 · rw [chA,if_pos h0,dot_congr (z := gt m) _ fun k hk => l5_gt (by omega)]
 · have e := pf_tail (y := gt m) (n := l.length) (5 - l.length) fun k h2 h3 => gt_out (by omega)
   rw [show l.length + (5 - l.length) = 5 by omega] at e
   rw [chM,if_pos h0,← e,← pf_m5,pf_congr (z := gt m) _ fun k hk => l5_gt hk]
theorem ccVN_ok (l : List Int) (c : Nat) (hl : l.length≤1000000) : ccVN l c := by
 unfold ccVN ccVN2 ccVN1 ccVN0
 simp only [SS,reduceCtorEq,Arg.list,Arg.num,Arg.flag,intOf,andP,Nat.reduceLeDiff,Nat.reduceAdd,Nat.reduceMul,Nat.reduceLT]
 refine ⟨hl,fun h => ⟨fun _ => three_eq rfl rfl (errK_c h).symm,fun h2 => h h2⟩,fun h zl hz => ⟨fun h2 => three_eq rfl rfl (errK_15 h (by simp; omega)).symm,fun h2 => ?_⟩⟩
 have := (errC_ok.1 h).pos
 omega
theorem ccVH_ok (l : List Int) (c : Nat) (s : Option Nat) (d : Nat) (hl : l.length≤1000000) : ccVH l c d s := by
 unfold ccVH ccVH2 ccVH1 ccVH0
 simp only [SS,reduceCtorEq,Arg.list,Arg.num,Arg.flag,intOf,andP,Nat.reduceLeDiff,Nat.reduceAdd,Nat.reduceMul,Nat.reduceLT]
 refine ⟨hl,fun h => ⟨fun _ => three_eq rfl rfl (errK_c h).symm,fun h2 => h h2⟩,fun h zl hz => ⟨fun h2 => three_eq rfl rfl (errK_15 h (by simp; omega)).symm,fun h2 => ?_⟩⟩
 have := (errC_ok.1 h).pos
 omega
theorem cc0E_ok : VOk Try.prog cc0E := ⟨CtOk.none,E0_ok.cc,E0_ok.yc,Go.Pier.Sk.orcCp0_ok⟩
theorem ccE_ok {l : List Int} {c : Nat} : VOk Try.prog (ccE l c) := ⟨((CtOk.none.add wiG_ok).add amCt_ok).add maG_ok,ccOr_ok twCc_ok (ccIn_ok cc0E_ok mixed (inl_one Try.func62)),E0_ok.yc,E0_ok.orc⟩
theorem cnE_ok : VOk Try.prog cnE := VOk.ofCt ((CtOk.none.add wiG_ok).add tnG_ok)
theorem ccNV_ok (m : List Int) (d : Nat) : ccNV m d := by
 unfold ccNV
 simp only [SS,reduceCtorEq,Arg.list,Arg.num,Arg.flag,intOf,andP,Nat.reduceLeDiff,Nat.reduceAdd,Nat.reduceMul,Nat.reduceLT]
theorem ccNN_ok (u : Unit) : ccNN u := by
 unfold ccNN
 simp only [SS,reduceCtorEq,Arg.list,Arg.num,Arg.flag,intOf,andP,Nat.reduceLeDiff,Nat.reduceAdd,Nat.reduceMul,Nat.reduceLT]
theorem ccNH_ok (d : Nat) (t : Option Nat) : ccNH d t := by
 unfold ccNH
 simp only [SS,reduceCtorEq,Arg.list,Arg.num,Arg.flag,intOf,andP,Nat.reduceLeDiff,Nat.reduceAdd,Nat.reduceMul,Nat.reduceLT]
theorem ccHV_ok (c : Nat) (s : Option Nat) (m : List Int) (d : Nat) : ccHV c s m d := by
 unfold ccHV
 simp only [SS,reduceCtorEq,Arg.list,Arg.num,Arg.flag,intOf,andP,Nat.reduceLeDiff,Nat.reduceAdd,Nat.reduceMul,Nat.reduceLT]
theorem ccHN_ok (c : Nat) (s : Option Nat) : ccHN c s := by
 unfold ccHN
 simp only [SS,reduceCtorEq,Arg.list,Arg.num,Arg.flag,intOf,andP,Nat.reduceLeDiff,Nat.reduceAdd,Nat.reduceMul,Nat.reduceLT]
theorem ccHH_ok (c : Nat) (s : Option Nat) (d : Nat) (t : Option Nat) : ccHH c s d t := by
 unfold ccHH
 simp only [SS,reduceCtorEq,Arg.list,Arg.num,Arg.flag,intOf,andP,Nat.reduceLeDiff,Nat.reduceAdd,Nat.reduceMul,Nat.reduceLT]
theorem ccG_ok : ∀ args H φ v H' l,pureG [.ints .i64,.ints .i64] rkS args H = some (φ,v,H',l)→Asks φ→Call Try.prog 20 args H (fun v' H2 => v' = v∧H2 = H')∧Kept H H' l :=
 pureG_ok fun r hk hs => match r,hk with
   | [_,_],⟨hl,hm,_⟩ => by
     rcases hl with rfl | ⟨s,rfl⟩ | ⟨l,rfl⟩ <;> rcases hm with rfl | ⟨t,rfl⟩ | ⟨m,rfl⟩
     · exact ⟨by simp [rkS,sc,sc2,sc1,sc0],fun caps => Call.ofVc cnE_ok mixed (c := ccB) (inv := fun _ => none) Try.func20 (by kernel_rfl) (cast (congrFun ccNN_eq ()) (ccNN_ok ()))⟩
     · exact ⟨by simp [rkS,sc,sc2,sc1,sc0],fun caps => Call.ofVc cnE_ok mixed (c := ccB) (inv := fun _ => none) Try.func20 (by kernel_rfl) (cast (congrFun (congrFun ccNH_eq (caps 0)) t) (ccNH_ok (caps 0) t))⟩
     · exact ⟨by simp [rkS,sc,sc2,sc1,sc0],fun caps => Call.ofVc cnE_ok mixed (c := ccB) (inv := fun _ => none) Try.func20 (by kernel_rfl) (cast (congrFun (congrFun ccNV_eq m) (caps 0)) (ccNV_ok m (caps 0)))⟩
     · exact ⟨by simp [rkS,sc,sc2,sc1,sc0],fun caps => Call.ofVc cnE_ok mixed (c := ccB) (inv := fun _ => none) Try.func20 (by kernel_rfl) (cast (congrFun (congrFun ccHN_eq (caps 0)) s) (ccHN_ok (caps 0) s))⟩
     · exact ⟨by simp [rkS,sc,sc2,sc1,sc0],fun caps => Call.ofVc cnE_ok mixed (c := ccB) (inv := fun _ => none) Try.func20 (by kernel_rfl) (cast (congrFun (congrFun (congrFun (congrFun ccHH_eq (caps 0)) s) (caps 1)) t) (ccHH_ok (caps 0) s (caps 1) t))⟩
     · exact ⟨by simp [rkS,sc,sc2,sc1,sc0],fun caps => Call.ofVc cnE_ok mixed (c := ccB) (inv := fun _ => none) Try.func20 (by kernel_rfl) (cast (congrFun (congrFun (congrFun (congrFun ccHV_eq (caps 0)) s) m) (caps 1)) (ccHV_ok (caps 0) s m (caps 1)))⟩
     · exact ⟨by simp [rkS,sc,sc2,sc1,sc0],fun caps => Call.ofVc ccE_ok mixed (c := ccB) (inv := fun _ => none) Try.func20 (by kernel_rfl) (cast (congrFun (congrFun ccVN_eq l) (caps 0)) (ccVN_ok l (caps 0) hs))⟩
     · exact ⟨by simp [rkS,sc,sc2,sc1,sc0],fun caps => Call.ofVc ccE_ok mixed (c := ccB) (inv := fun _ => none) Try.func20 (by kernel_rfl) (cast (congrFun (congrFun (congrFun (congrFun ccVH_eq l) (caps 0)) (caps 1)) t) (ccVH_ok l (caps 0) t (caps 1) hs))⟩
     · exact ⟨by simp [rkS,sc,sc2,sc1,sc0],fun caps => Call.ofVc ccE_ok mixed (c := ccB) (inv := fun _ => none) Try.func20 (by kernel_rfl) (cast (congrFun (congrFun (congrFun (congrFun ccVV_eq l) (caps 0)) m) (caps 1)) (ccVV_ok l m (caps 0) (caps 1) hs.1 hs.2))⟩
end Go.Pier.Fl
namespace Go.Pier.Fl
open Go Go.Pier Go.Proofs
noncomputable def hpB : Code := Try.f33.body.getD .skip
def hpI (l : List Int) (c : Nat) (m : List Int) (d : Nat) : List Value→Heap→Nat→Option LInv := fun _ H => invOf 0 (LInv.one Nat (fun a => a≤m.length∧∀ b,b < a→rtA l m b) (fun a => [(0,ptr0 2),(1,.slice (some ⟨1,0,none⟩) m.length d),(13,.slice (some ⟨1,0,none⟩) m.length d),(14,vi m.length),(15,vi a)]) (fun _ => H) (fun a => m.length - a)
 (fun a => invOf 2 (LInv.one Nat (fun i => i≤l.length∧∀ j,j < i→rtO l m a j) (fun i => [(0,ptr0 2),(1,.slice (some ⟨1,0,none⟩) m.length d),(13,.slice (some ⟨1,0,none⟩) m.length d),(14,vi m.length),(15,vi a),(5,vi a),(6,vi (m.getD a 0)),(24,.slice (some ⟨0,0,none⟩) l.length c),(25,vi l.length),(26,vi i)]) (fun _ => H) (fun i => l.length - i))))
noncomputable def hpE (l : List Int) (c : Nat) (m : List Int) (d : Nat) : VEnv := { ct := Ct.none.add 61 (pureG [.int .i64,.int .i64,.ints .i64] wiS),cc := ccOr (twCc l c) (ccIn Try.prog {} [⟨77,Try.f77,hpI l c m d⟩]) }
noncomputable def hpNN :=
fun (x:Unit)↦Ob True∧(true=true→True∧Ob (vi (6:Int)=vi (6:Int)))∧(true=false→(true=false→(false=true→True∧Ob (vi (6:Int)=vi (6:Int)))∧(false=false→Ob (0≤1000000)∧(false=true→True∧Ob (vi (3:Int)=vi (6:Int)))∧(false=false→False)))∧(true=true→True∧Ob (vi (6:Int)=vi (6:Int))))
theorem hpNN_eq : hpNN = fun (_ : Unit) => vc Try.prog cnE 0 30 true (fun _ => none) hpB [] (argFr 0 [.slice none 0 0,.slice none 0 0]) [] (retK Try.prog Try.f33 (fun v _ => v = vi 6)) := by kernel_rfl
noncomputable def hpNH :=
fun (d:Nat) (t:Option Nat)↦Ob True∧(true=true→True∧Ob (vi (6:Int)=vi (6:Int)))∧(true=false→(true=false→(false=true→True∧Ob (vi (6:Int)=vi (6:Int)))∧(false=false→Ob (0≤1000000)∧((!true)=true→True∧Ob (vi (3:Int)=vi (6:Int)))∧((!true)=false→False)))∧(true=true→True∧Ob (vi (6:Int)=vi (6:Int))))
theorem hpNH_eq : hpNH = fun (d : Nat) (t : Option Nat) => vc Try.prog cnE 1 30 true (fun _ => none) hpB [] (argFr 0 [.slice none 0 0,.slice (some ⟨0,0,t⟩) 0 d]) [.gone] (retK Try.prog Try.f33 (fun v _ => v = vi 6)) := by kernel_rfl
noncomputable def hpNV0 (m:List Int) := (List.take m.length (List.drop 0 (intsOf (List.map (Value.int IntKind.i64) m))))
noncomputable def hpNV1 (m:List Int) := (!wiF (Arg.plain (vi (0:Int))).num (Arg.plain (vi (1000:Int))).num (Arg.ints IntKind.i64 (hpNV0 m)).list)
noncomputable def hpNV :=
fun (m:List Int) (d:Nat)↦Ob True∧(true=true→True∧Ob (vi (6:Int)=vi (6:Int)))∧(true=false→(decide ((m.length:Int)<(1:Int))=false→(decide ((301:Int)<(m.length:Int))=true→True∧Ob (vi (6:Int)=vi (6:Int)))∧(decide ((301:Int)<(m.length:Int))=false→Ob ((List.take m.length (List.drop 0 (List.map (Value.int IntKind.i64) m))=List.map (Value.int IntKind.i64) (hpNV0 m)∧0+m.length≤(List.map (Value.int IntKind.i64) m).length∧true=true)∧(Arg.ints IntKind.i64 (hpNV0 m)).list.length≤1000000)∧((hpNV1 m)=true→True∧Ob (vi (3:Int)=vi (6:Int)))∧((hpNV1 m)=false→False)))∧(decide ((m.length:Int)<(1:Int))=true→True∧Ob (vi (6:Int)=vi (6:Int))))
theorem hpNV_eq : hpNV = fun (m : List Int) (d : Nat) => vc Try.prog cnE 1 30 true (fun _ => none) hpB [] (argFr 0 [.slice none 0 0,.slice (some ⟨0,0,none⟩) m.length d]) [ros m] (retK Try.prog Try.f33 (fun v _ => v = vi 6)) := by kernel_rfl
noncomputable def hpHN :=
fun (c:Nat) (s:Option Nat)↦Ob True∧(true=true→True∧Ob (vi (6:Int)=vi (6:Int)))∧(true=false→(true=false→(false=true→True∧Ob (vi (6:Int)=vi (6:Int)))∧(false=false→Ob (0≤1000000)∧(false=true→True∧Ob (vi (3:Int)=vi (6:Int)))∧(false=false→False)))∧(true=true→True∧Ob (vi (6:Int)=vi (6:Int))))
theorem hpHN_eq : hpHN = fun (c : Nat) (s : Option Nat) => vc Try.prog cnE 1 30 true (fun _ => none) hpB [] (argFr 0 [.slice (some ⟨0,0,s⟩) 0 c,.slice none 0 0]) [.gone] (retK Try.prog Try.f33 (fun v _ => v = vi 6)) := by kernel_rfl
noncomputable def hpHH :=
fun (c:Nat) (s:Option Nat) (d:Nat) (t:Option Nat)↦Ob True∧(true=true→True∧Ob (vi (6:Int)=vi (6:Int)))∧(true=false→(true=false→(false=true→True∧Ob (vi (6:Int)=vi (6:Int)))∧(false=false→Ob (0≤1000000)∧((!true)=true→True∧Ob (vi (3:Int)=vi (6:Int)))∧((!true)=false→False)))∧(true=true→True∧Ob (vi (6:Int)=vi (6:Int))))
theorem hpHH_eq : hpHH = fun (c : Nat) (s : Option Nat) (d : Nat) (t : Option Nat) => vc Try.prog cnE 2 30 true (fun _ => none) hpB [] (argFr 0 [.slice (some ⟨0,0,s⟩) 0 c,.slice (some ⟨1,0,t⟩) 0 d]) [.gone,.gone] (retK Try.prog Try.f33 (fun v _ => v = vi 6)) := by kernel_rfl
noncomputable def hpHV0 (m:List Int) := (List.take m.length (List.drop 0 (intsOf (List.map (Value.int IntKind.i64) m))))
noncomputable def hpHV1 (m:List Int) := (!wiF (Arg.plain (vi (0:Int))).num (Arg.plain (vi (1000:Int))).num (Arg.ints IntKind.i64 (hpHV0 m)).list)
noncomputable def hpHV :=
fun (c:Nat) (s:Option Nat) (m:List Int) (d:Nat)↦Ob True∧(true=true→True∧Ob (vi (6:Int)=vi (6:Int)))∧(true=false→(decide ((m.length:Int)<(1:Int))=false→(decide ((301:Int)<(m.length:Int))=true→True∧Ob (vi (6:Int)=vi (6:Int)))∧(decide ((301:Int)<(m.length:Int))=false→Ob ((List.take m.length (List.drop 0 (List.map (Value.int IntKind.i64) m))=List.map (Value.int IntKind.i64) (hpHV0 m)∧0+m.length≤(List.map (Value.int IntKind.i64) m).length∧true=true)∧(Arg.ints IntKind.i64 (hpHV0 m)).list.length≤1000000)∧((hpHV1 m)=true→True∧Ob (vi (3:Int)=vi (6:Int)))∧((hpHV1 m)=false→False)))∧(decide ((m.length:Int)<(1:Int))=true→True∧Ob (vi (6:Int)=vi (6:Int))))
theorem hpHV_eq : hpHV = fun (c : Nat) (s : Option Nat) (m : List Int) (d : Nat) => vc Try.prog cnE 2 30 true (fun _ => none) hpB [] (argFr 0 [.slice (some ⟨0,0,s⟩) 0 c,.slice (some ⟨1,0,none⟩) m.length d]) [.gone,ros m] (retK Try.prog Try.f33 (fun v _ => v = vi 6)) := by kernel_rfl
noncomputable def hpVN :=
fun (l:List Int) (c:Nat)↦Ob (some (AObj.ro (List.map (Value.int IntKind.i64) l))=some (AObj.ro (List.map (Value.int IntKind.i64) l))∧l.length=l.length∧c=c∧l.length≤1000000)∧(Ob (errC l≠(0:Int))→((errC l !=(0:Int))=true→True∧Ob (vi (errC l)=vi (heE l [])))∧((errC l !=(0:Int))=false→(true=false→(false=true→True∧Ob (vi (6:Int)=vi (heE l [])))∧(false=false→Ob (0≤1000000)∧(false=true→True∧Ob (vi (3:Int)=vi (heE l [])))∧(false=false→False)))∧(true=true→True∧Ob (vi (6:Int)=vi (heE l [])))))∧(Ob (errC l=(0:Int))→∀ (zl:List Int),Ob (isZ zl)→(false=true→True∧Ob (vi (0:Int)=vi (heE l [])))∧(false=false→(true=false→(false=true→True∧Ob (vi (6:Int)=vi (heE l [])))∧(false=false→Ob (0≤1000000)∧(false=true→True∧Ob (vi (3:Int)=vi (heE l [])))∧(false=false→False)))∧(true=true→True∧Ob (vi (6:Int)=vi (heE l [])))))
theorem hpVN_eq : hpVN = fun (l : List Int) (c : Nat) => vc Try.prog (hpE l c [] 0) 1 30 true (fun _ => none) hpB [] (argFr 0 [.slice (some ⟨0,0,none⟩) l.length c,.slice none 0 0]) [ros l] (retK Try.prog Try.f33 (fun v _ => v = vi (heE l []))) := by kernel_rfl
noncomputable def hpVH :=
fun (l:List Int) (c d:Nat) (t:Option Nat)↦Ob (some (AObj.ro (List.map (Value.int IntKind.i64) l))=some (AObj.ro (List.map (Value.int IntKind.i64) l))∧l.length=l.length∧c=c∧l.length≤1000000)∧(Ob (errC l≠(0:Int))→((errC l !=(0:Int))=true→True∧Ob (vi (errC l)=vi (heE l [])))∧((errC l !=(0:Int))=false→(true=false→(false=true→True∧Ob (vi (6:Int)=vi (heE l [])))∧(false=false→Ob (0≤1000000)∧((!true)=true→True∧Ob (vi (3:Int)=vi (heE l [])))∧((!true)=false→Ob ((0:Int)≤(0:Int)∧(0:Int)<(↑(0:Nat):Int)∧std ⟨1,0,t⟩ d=true)∧False)))∧(true=true→True∧Ob (vi (6:Int)=vi (heE l [])))))∧(Ob (errC l=(0:Int))→∀ (zl:List Int),Ob (isZ zl)→(false=true→True∧Ob (vi (0:Int)=vi (heE l [])))∧(false=false→(true=false→(false=true→True∧Ob (vi (6:Int)=vi (heE l [])))∧(false=false→Ob (0≤1000000)∧((!true)=true→True∧Ob (vi (3:Int)=vi (heE l [])))∧((!true)=false→Ob ((0:Int)≤(0:Int)∧(0:Int)<(↑(0:Nat):Int)∧std ⟨1,0,t⟩ d=true)∧False)))∧(true=true→True∧Ob (vi (6:Int)=vi (heE l [])))))
theorem hpVH_eq : hpVH = fun (l : List Int) (c : Nat) (d : Nat) (t : Option Nat) => vc Try.prog (hpE l c [] 0) 2 30 true (fun _ => none) hpB [] (argFr 0 [.slice (some ⟨0,0,none⟩) l.length c,.slice (some ⟨1,0,t⟩) 0 d]) [ros l,.gone] (retK Try.prog Try.f33 (fun v _ => v = vi (heE l []))) := by kernel_rfl
noncomputable def hpVV0  := (Value.int IntKind.i64)
noncomputable def hpVV1 (m:List Int) (d:Nat):Prop := (Value.slice (some (ad0 1)) m.length d=Value.slice (some (ad0 1)) m.length d)
noncomputable def hpVV2 (l:List Int) (c:Nat) (zl:List Int) := (Value.slice (some (ad0 0)) l.length c::List.map hpVV0 zl)
noncomputable def hpVV3 (m:List Int) := (!wiF (Arg.plain (vi (0:Int))).num (Arg.plain (vi (1000:Int))).num (Arg.ints IntKind.i64 (List.take m.length (List.drop 0 (intsOf (List.map hpVV0 m))))).list)
noncomputable def hpVV4 (m:List Int):Prop := ((List.take m.length (List.drop 0 (List.map hpVV0 m))=List.map hpVV0 (List.take m.length (List.drop 0 (intsOf (List.map hpVV0 m))))∧0+m.length≤(List.map hpVV0 m).length∧true=true)∧(Arg.ints IntKind.i64 (List.take m.length (List.drop 0 (intsOf (List.map hpVV0 m))))).list.length≤1000000)
noncomputable def hpVV5 (l:List Int) (x:Nat) (x_1:Nat) := ((x:Int)-getI (List.map hpVV0 l) (0+(x_1:Int).toNat * 1))
noncomputable def hpVV6 (m:List Int):Prop := ((m.length:Int)=(m.length:Int))
noncomputable def hpVV7 (l:List Int) := (AObj.ro (List.map hpVV0 l))
noncomputable def hpVV8 (l:List Int) (x:Nat) (x_1:Nat) := (0+(IntKind.i64.wrap (hpVV5 l x x_1)).toNat * 1)
noncomputable def hpVV9 (m:List Int) := (AObj.ro (List.map hpVV0 m))
noncomputable def hpVV10  (x_1:Nat) := (0+(x_1:Int).toNat * 1)
noncomputable def hpVV11  (x:Nat) := (0+(x:Int).toNat * 1)
noncomputable def hpVV12 (l:List Int) (m:List Int):Prop := (vi (0:Int)=vi (heE l m))
noncomputable def hpVV :=
fun (l:List Int) (c:Nat) (m:List Int) (d:Nat)↦Ob (some (hpVV7 l)=some (hpVV7 l)∧l.length=l.length∧c=c∧l.length≤1000000)∧(Ob (errC l≠(0:Int))→((errC l !=(0:Int))=true→True∧Ob (vi (errC l)=vi (heE l m)))∧((errC l !=(0:Int))=false→(decide ((m.length:Int)<(1:Int))=false→(decide ((301:Int)<(m.length:Int))=true→True∧Ob (vi (6:Int)=vi (heE l m)))∧(decide ((301:Int)<(m.length:Int))=false→Ob (hpVV4 m)∧((hpVV3 m)=true→True∧Ob (vi (3:Int)=vi (heE l m)))∧((hpVV3 m)=false→Ob ((0:Int)≤(0:Int)∧(0:Int)<(m.length:Int)∧true=true)∧Ob (IntAt IntKind.i64 (List.map hpVV0 m) 0)∧(decide ((0:Int)<getI (List.map hpVV0 m) 0)=true→(true=true→True∧Ob (vi (14:Int)=vi (heE l m)))∧(true=false→True∧Ob (hpVV12 l m)))∧(decide ((0:Int)<getI (List.map hpVV0 m) 0)=false→(∃ (y:Nat),Ob (y≤m.length∧∀ (b:Nat),b<y→rtA l m b)∧(Ob (AObj.ro (List.map hpVV0 l)=AObj.ro (List.map (nmap1 fun (b:Nat)↦b) (List.map hpVV0 l))∧AObj.sc 2 (hpVV7 l)=true)∧Ob (AObj.ro (List.map hpVV0 m)=AObj.ro (List.map (nmap1 fun (b:Nat)↦b) (List.map hpVV0 m))∧AObj.sc 2 (hpVV9 m)=true)∧True)∧False∧Ob (hpVV1 m d)∧Ob (hpVV1 m d)∧Ob (hpVV6 m)∧Ob ((0:Int)=(y:Int))∧True)∧∀ (x:Nat),Ob (x≤m.length∧∀ (b:Nat),b<x→rtA l m b)→(decide ((x:Int)<(m.length:Int))=true→Ob ((0:Int)≤(x:Int)∧(x:Int)<(m.length:Int)∧true=true)∧Ob (IntAt IntKind.i64 (List.map hpVV0 m) (hpVV11 x))∧False)∧(decide ((x:Int)<(m.length:Int))=false→(false=true→True∧Ob (vi (14:Int)=vi (heE l m)))∧(false=false→True∧Ob (hpVV12 l m)))))))∧(decide ((m.length:Int)<(1:Int))=true→True∧Ob (vi (6:Int)=vi (heE l m)))))∧(Ob (errC l=(0:Int))→∀ (zl:List Int),Ob (isZ zl)→(false=true→True∧Ob (hpVV12 l m))∧(false=false→(decide ((m.length:Int)<(1:Int))=false→(decide ((301:Int)<(m.length:Int))=true→True∧Ob (vi (6:Int)=vi (heE l m)))∧(decide ((301:Int)<(m.length:Int))=false→Ob (hpVV4 m)∧((hpVV3 m)=true→True∧Ob (vi (3:Int)=vi (heE l m)))∧((hpVV3 m)=false→Ob ((0:Int)≤(0:Int)∧(0:Int)<(m.length:Int)∧true=true)∧Ob (IntAt IntKind.i64 (List.map hpVV0 m) 0)∧(decide ((0:Int)<getI (List.map hpVV0 m) 0)=true→(true=true→True∧Ob (vi (14:Int)=vi (heE l m)))∧(true=false→True∧Ob (hpVV12 l m)))∧(decide ((0:Int)<getI (List.map hpVV0 m) 0)=false→(∃ (y:Nat),Ob (y≤m.length∧∀ (b:Nat),b<y→rtA l m b)∧(Ob (AObj.ro (List.map hpVV0 l)=AObj.ro (List.map (nmap1 fun (b:Nat)↦b) (List.map hpVV0 l))∧AObj.sc 3 (hpVV7 l)=true)∧Ob (AObj.ro (List.map hpVV0 m)=AObj.ro (List.map (nmap1 fun (b:Nat)↦b) (List.map hpVV0 m))∧AObj.sc 3 (hpVV9 m)=true)∧Ob (AObj.rw (hpVV2 l c zl) none=AObj.rw (List.map (nmap1 fun (b:Nat)↦b) (hpVV2 l c zl)) none∧AObj.sc 3 (AObj.rw (hpVV2 l c zl) none)=true)∧True)∧Ob (ptr0 2=ptr0 2)∧Ob (hpVV1 m d)∧Ob (hpVV1 m d)∧Ob (hpVV6 m)∧Ob ((0:Int)=(y:Int))∧True)∧∀ (x:Nat),Ob (x≤m.length∧∀ (b:Nat),b<x→rtA l m b)→(decide ((x:Int)<(m.length:Int))=true→Ob ((0:Int)≤(x:Int)∧(x:Int)<(m.length:Int)∧true=true)∧Ob (IntAt IntKind.i64 (List.map hpVV0 m) (hpVV11 x))∧(∃ (y:Nat),Ob (y≤l.length∧∀ (j:Nat),j<y→rtO l m x j)∧(Ob (AObj.ro (List.map hpVV0 l)=AObj.ro (List.map (nmap1 fun (b:Nat)↦b) (List.map hpVV0 l))∧AObj.sc 3 (hpVV7 l)=true)∧Ob (AObj.ro (List.map hpVV0 m)=AObj.ro (List.map (nmap1 fun (b:Nat)↦b) (List.map hpVV0 m))∧AObj.sc 3 (hpVV9 m)=true)∧Ob (AObj.rw (hpVV2 l c zl) none=AObj.rw (List.map (nmap1 fun (b:Nat)↦b) (hpVV2 l c zl)) none∧AObj.sc 3 (AObj.rw (hpVV2 l c zl) none)=true)∧True)∧Ob (ptr0 2=ptr0 2)∧Ob (hpVV1 m d)∧Ob (hpVV1 m d)∧Ob (hpVV6 m)∧Ob ((x:Int)=(x:Int))∧Ob ((x:Int)=(x:Int))∧Ob (getI (List.map hpVV0 m) (hpVV11 x)=m.getD x (0:Int))∧Ob (Value.slice (some (ad0 0)) l.length c=Value.slice (some (ad0 0)) l.length c)∧Ob ((l.length:Int)=(l.length:Int))∧Ob ((0:Int)=(y:Int))∧True)∧∀ (x_1:Nat),Ob (x_1≤l.length∧∀ (j:Nat),j<x_1→rtO l m x j)→(decide ((x_1:Int)<(l.length:Int))=true→Ob ((0:Int)≤(x_1:Int)∧(x_1:Int)<(l.length:Int)∧true=true)∧Ob (IntAt IntKind.i64 (List.map hpVV0 l) (hpVV10 x_1))∧(decide ((x:Int)<getI (List.map hpVV0 l) (hpVV10 x_1))=true→∃ (y:Nat),Ob (y≤m.length∧∀ (b:Nat),b<y→rtA l m b)∧Ob (m.length-y<m.length-x)∧(Ob (AObj.ro (List.map hpVV0 l)=AObj.ro (List.map (nmap1 fun (b:Nat)↦b) (List.map hpVV0 l))∧AObj.sc 3 (hpVV7 l)=true)∧Ob (AObj.ro (List.map hpVV0 m)=AObj.ro (List.map (nmap1 fun (b:Nat)↦b) (List.map hpVV0 m))∧AObj.sc 3 (hpVV9 m)=true)∧Ob (AObj.rw (hpVV2 l c zl) none=AObj.rw (List.map (nmap1 fun (b:Nat)↦b) (hpVV2 l c zl)) none∧AObj.sc 3 (AObj.rw (hpVV2 l c zl) none)=true)∧True)∧Ob (ptr0 2=ptr0 2)∧Ob (hpVV1 m d)∧Ob (hpVV1 m d)∧Ob (hpVV6 m)∧Ob (IntKind.i64.wrap ((x:Int)+(1:Int))=(y:Int))∧True)∧(decide ((x:Int)<getI (List.map hpVV0 l) (hpVV10 x_1))=false→Ob ((0:Int)≤IntKind.i64.wrap (hpVV5 l x x_1)∧IntKind.i64.wrap (hpVV5 l x x_1)<(m.length:Int)∧true=true)∧Ob (IntAt IntKind.i64 (List.map hpVV0 m) (hpVV8 l x x_1))∧(decide (IntKind.i64.wrap (getI (List.map hpVV0 m) (hpVV8 l x x_1)+(1:Int))<m.getD x (0:Int))=true→(true=true→True∧Ob (vi (14:Int)=vi (heE l m)))∧(true=false→True∧Ob (hpVV12 l m)))∧(decide (IntKind.i64.wrap (getI (List.map hpVV0 m) (hpVV8 l x x_1)+(1:Int))<m.getD x (0:Int))=false→∃ (y:Nat),Ob (y≤l.length∧∀ (j:Nat),j<y→rtO l m x j)∧Ob (l.length-y<l.length-x_1)∧(Ob (AObj.ro (List.map hpVV0 l)=AObj.ro (List.map (nmap1 fun (b:Nat)↦b) (List.map hpVV0 l))∧AObj.sc 3 (hpVV7 l)=true)∧Ob (AObj.ro (List.map hpVV0 m)=AObj.ro (List.map (nmap1 fun (b:Nat)↦b) (List.map hpVV0 m))∧AObj.sc 3 (hpVV9 m)=true)∧Ob (AObj.rw (hpVV2 l c zl) none=AObj.rw (List.map (nmap1 fun (b:Nat)↦b) (hpVV2 l c zl)) none∧AObj.sc 3 (AObj.rw (hpVV2 l c zl) none)=true)∧True)∧Ob (ptr0 2=ptr0 2)∧Ob (hpVV1 m d)∧Ob (hpVV1 m d)∧Ob (hpVV6 m)∧Ob ((x:Int)=(x:Int))∧Ob ((x:Int)=(x:Int))∧Ob (m.getD x (0:Int)=m.getD x (0:Int))∧Ob (Value.slice (some (ad0 0)) l.length c=Value.slice (some (ad0 0)) l.length c)∧Ob ((l.length:Int)=(l.length:Int))∧Ob (IntKind.i64.wrap ((x_1:Int)+(1:Int))=(y:Int))∧True)))∧(decide ((x_1:Int)<(l.length:Int))=false→∃ (y:Nat),Ob (y≤m.length∧∀ (b:Nat),b<y→rtA l m b)∧Ob (m.length-y<m.length-x)∧(Ob (AObj.ro (List.map hpVV0 l)=AObj.ro (List.map (nmap1 fun (b:Nat)↦b) (List.map hpVV0 l))∧AObj.sc 3 (hpVV7 l)=true)∧Ob (AObj.ro (List.map hpVV0 m)=AObj.ro (List.map (nmap1 fun (b:Nat)↦b) (List.map hpVV0 m))∧AObj.sc 3 (hpVV9 m)=true)∧Ob (AObj.rw (hpVV2 l c zl) none=AObj.rw (List.map (nmap1 fun (b:Nat)↦b) (hpVV2 l c zl)) none∧AObj.sc 3 (AObj.rw (hpVV2 l c zl) none)=true)∧True)∧Ob (ptr0 2=ptr0 2)∧Ob (hpVV1 m d)∧Ob (hpVV1 m d)∧Ob (hpVV6 m)∧Ob (IntKind.i64.wrap ((x:Int)+(1:Int))=(y:Int))∧True))∧(decide ((x:Int)<(m.length:Int))=false→(false=true→True∧Ob (vi (14:Int)=vi (heE l m)))∧(false=false→True∧Ob (hpVV12 l m)))))))∧(decide ((m.length:Int)<(1:Int))=true→True∧Ob (vi (6:Int)=vi (heE l m)))))
theorem hpVV_eq : hpVV = fun (l : List Int) (c : Nat) (m : List Int) (d : Nat) => vc Try.prog (hpE l c m d) 2 30 true (fun _ => none) hpB [] (argFr 0 [.slice (some ⟨0,0,none⟩) l.length c,.slice (some ⟨1,0,none⟩) m.length d]) [ros l,ros m] (retK Try.prog Try.f33 (fun v _ => v = vi (heE l m))) := by kernel_rfl
theorem hpNN_ok (u : Unit) : hpNN u := by
 unfold hpNN
 simp only [SS,reduceCtorEq,Arg.list,Arg.num,Arg.flag,intOf,andP,Nat.reduceLeDiff,Nat.reduceAdd,Nat.reduceMul,Nat.reduceLT]
theorem hpNH_ok (d : Nat) (t : Option Nat) : hpNH d t := by
 unfold hpNH
 simp only [SS,reduceCtorEq,Arg.list,Arg.num,Arg.flag,intOf,andP,Nat.reduceLeDiff,Nat.reduceAdd,Nat.reduceMul,Nat.reduceLT]
theorem hpNV_ok (m : List Int) (d : Nat) : hpNV m d := by
 unfold hpNV hpNV1 hpNV0
 simp only [SS,reduceCtorEq,Arg.list,Arg.num,Arg.flag,intOf,andP,Nat.reduceLeDiff,Nat.reduceAdd,Nat.reduceMul,Nat.reduceLT]
theorem hpHN_ok (c : Nat) (s : Option Nat) : hpHN c s := by
 unfold hpHN
 simp only [SS,reduceCtorEq,Arg.list,Arg.num,Arg.flag,intOf,andP,Nat.reduceLeDiff,Nat.reduceAdd,Nat.reduceMul,Nat.reduceLT]
theorem hpHH_ok (c : Nat) (s : Option Nat) (d : Nat) (t : Option Nat) : hpHH c s d t := by
 unfold hpHH
 simp only [SS,reduceCtorEq,Arg.list,Arg.num,Arg.flag,intOf,andP,Nat.reduceLeDiff,Nat.reduceAdd,Nat.reduceMul,Nat.reduceLT]
theorem hpHV_ok (c : Nat) (s : Option Nat) (m : List Int) (d : Nat) : hpHV c s m d := by
 unfold hpHV hpHV1 hpHV0
 simp only [SS,reduceCtorEq,Arg.list,Arg.num,Arg.flag,intOf,andP,Nat.reduceLeDiff,Nat.reduceAdd,Nat.reduceMul,Nat.reduceLT]
theorem hpVN_ok (l : List Int) (c : Nat) (hl : l.length≤1000000) : hpVN l c := by
 unfold hpVN
 simp only [SS,reduceCtorEq,Arg.list,Arg.num,Arg.flag,intOf,andP,Nat.reduceLeDiff,Nat.reduceAdd,Nat.reduceMul,Nat.reduceLT]
 exact ⟨hl,fun h => ⟨fun _ => (heE_c h).symm,fun h2 => absurd h2 h⟩,fun h zl _ => (heE_m h (.inl (by simp))).symm⟩
theorem hpVH_ok (l : List Int) (c : Nat) (d : Nat) (t : Option Nat) (hl : l.length≤1000000) : hpVH l c d t := by
 unfold hpVH
 simp only [SS,reduceCtorEq,Arg.list,Arg.num,Arg.flag,intOf,andP,Nat.reduceLeDiff,Nat.reduceAdd,Nat.reduceMul,Nat.reduceLT]
 exact ⟨hl,fun h => ⟨fun _ => (heE_c h).symm,fun h2 => absurd h2 h⟩,fun h zl _ => (heE_m h (.inl (by simp))).symm⟩
theorem hpVV_ok (l : List Int) (c : Nat) (m : List Int) (d : Nat) (hl : l.length≤1000000) : hpVV l c m d := by
 unfold hpVV hpVV12 hpVV11 hpVV10 hpVV9 hpVV8 hpVV7 hpVV6 hpVV5 hpVV4 hpVV3 hpVV2 hpVV1 hpVV0
 simp only [SS,reduceCtorEq,Arg.list,Arg.num,Arg.flag,intOf,andP,Nat.reduceLeDiff,Nat.reduceAdd,Nat.reduceMul,Nat.reduceLT,til_sc,nm_sl]
 refine ⟨hl,fun h => ⟨fun _ => (heE_c h).symm,fun h2 => absurd h2 h⟩,fun h zl hz => ⟨fun h1 => ⟨fun h2 => (heE_m h (.inr (by omega))).symm,fun h2 => ?_⟩,fun h1 => (heE_m h (.inl (by omega))).symm⟩⟩
 have hc := errC_ok.1 h
 have hfew := hc.few
 have cr : ∀ j,j < l.length→1≤l.getD j 0∧l.getD j 0≤50 := fun j hj => coin_rng hc hj
 have hm : ¬ (m.length < 1∨301 < m.length) := by omega
 refine ⟨by omega,fun h3 => (heE_r h hm fun k => wiF_false h3 fun v hv => ?_).symm,fun h3 => ?_⟩
 · obtain ⟨j,h4,h5⟩ := List.getElem_of_mem hv
   have := k j h4
   rw [List.getD_eq_getElem?_getD,List.getElem?_eq_getElem h4,h5] at this
   exact this
 have hr : ∀ j,j < m.length→0≤m.getD j 0∧m.getD j 0≤1000 := fun j hj => wiF_true h3 _ (ints_mem hj)
 have r0 := hr 0 (by omega)
 refine ⟨by omega,by omega,fun h4 => (heE_0 h hm hr (by omega)).symm,fun h4 => ?_⟩
 have h0 : m.getD 0 0 = 0 := by omega
 refine ⟨⟨0,⟨by omega,fun j hj => by omega⟩,rfl⟩,fun a ha => ⟨fun h5 => ⟨by omega,by omega,⟨0,⟨by omega,fun j hj => by omega⟩,rfl⟩,fun i hi => ⟨fun h6 => ?_,fun h6 => ⟨a + 1,⟨by omega,snocP ha.2 fun k hk => hi.2 k (by omega)⟩,by omega,wrap_succ (n := 9999) (by omega) (by omega)⟩⟩⟩,fun h5 => (heE_y h hm hr h0 fun k hk => ha.2 k (by omega)).symm⟩⟩
 have c1 := cr i (by omega)
 have ws : IntKind.i64.wrap ((i : Int) + 1) = ((i + 1 : Nat) : Int) := wrap_succ (n := 100) (by omega) (by omega)
 refine ⟨by omega,by omega,fun h7 => ⟨a + 1,⟨by omega,snocP ha.2 fun k hk => ?_⟩,by omega,wrap_succ (n := 9999) (by omega) (by omega)⟩,fun h7 => ?_⟩
 · by_cases e : k < i
   · exact hi.2 k e
   · intro h8
     have := coin_le hc (k - i) i (by omega)
     rw [show i + (k - i) = k by omega] at this
     omega
 · have w0 : IntKind.i64.wrap ((a : Int) - l.getD i 0) = (a : Int) - l.getD i 0 := wrap_in (by omega) (by omega)
   have v1 := hr ((a : Int) - l.getD i 0).toNat (by omega)
   have w1 : IntKind.i64.wrap (m.getD ((a : Int) - l.getD i 0).toNat 0 + 1) = m.getD ((a : Int) - l.getD i 0).toNat 0 + 1 := wrap_in (by omega) (by omega)
   rw [w0,w1]
   exact ⟨by omega,by omega,fun h8 => (heE_n h hm hr h0 fun k => by have := k a (by omega) i (by omega) (by omega); omega).symm,fun h8 => ⟨i + 1,⟨by omega,snocP hi.2 fun _ => by omega⟩,by omega,ws⟩⟩
theorem hpE_ok {l : List Int} {c : Nat} {m : List Int} {d : Nat} : VOk Try.prog (hpE l c m d) := ⟨CtOk.none.add wiG_ok,ccOr_ok twCc_ok (ccIn_ok E0_ok mixed (inl_one Try.func77)),E0_ok.yc,E0_ok.orc⟩
theorem hpG_ok : ∀ args H φ v H' l,pureG [.ints .i64,.ints .i64] hrS args H = some (φ,v,H',l)→Asks φ→Call Try.prog 33 args H (fun v' H2 => v' = v∧H2 = H')∧Kept H H' l :=
 pureG_ok fun r hk hs => match r,hk with
   | [_,_],⟨h1,h2,_⟩ => by
     rcases h1 with rfl | ⟨s,rfl⟩ | ⟨l,rfl⟩ <;> rcases h2 with rfl | ⟨t,rfl⟩ | ⟨m,rfl⟩
     · exact ⟨rfl,fun caps => Call.ofVc cnE_ok mixed (c := hpB) (inv := fun _ => none) Try.func33 (by kernel_rfl) (cast (congrFun hpNN_eq ()) (hpNN_ok ()))⟩
     · exact ⟨rfl,fun caps => Call.ofVc cnE_ok mixed (c := hpB) (inv := fun _ => none) Try.func33 (by kernel_rfl) (cast (congrFun (congrFun hpNH_eq (caps 0)) t) (hpNH_ok (caps 0) t))⟩
     · exact ⟨rfl,fun caps => Call.ofVc cnE_ok mixed (c := hpB) (inv := fun _ => none) Try.func33 (by kernel_rfl) (cast (congrFun (congrFun hpNV_eq m) (caps 0)) (hpNV_ok m (caps 0)))⟩
     · exact ⟨rfl,fun caps => Call.ofVc cnE_ok mixed (c := hpB) (inv := fun _ => none) Try.func33 (by kernel_rfl) (cast (congrFun (congrFun hpHN_eq (caps 0)) s) (hpHN_ok (caps 0) s))⟩
     · exact ⟨rfl,fun caps => Call.ofVc cnE_ok mixed (c := hpB) (inv := fun _ => none) Try.func33 (by kernel_rfl) (cast (congrFun (congrFun (congrFun (congrFun hpHH_eq (caps 0)) s) (caps 1)) t) (hpHH_ok (caps 0) s (caps 1) t))⟩
     · exact ⟨rfl,fun caps => Call.ofVc cnE_ok mixed (c := hpB) (inv := fun _ => none) Try.func33 (by kernel_rfl) (cast (congrFun (congrFun (congrFun (congrFun hpHV_eq (caps 0)) s) m) (caps 1)) (hpHV_ok (caps 0) s m (caps 1)))⟩
     · exact ⟨rfl,fun caps => Call.ofVc hpE_ok mixed (c := hpB) (inv := fun _ => none) Try.func33 (by kernel_rfl) (cast (congrFun (congrFun hpVN_eq l) (caps 0)) (hpVN_ok l (caps 0) hs))⟩
     · exact ⟨rfl,fun caps => Call.ofVc hpE_ok mixed (c := hpB) (inv := fun _ => none) Try.func33 (by kernel_rfl) (cast (congrFun (congrFun (congrFun (congrFun hpVH_eq l) (caps 0)) (caps 1)) t) (hpVH_ok l (caps 0) (caps 1) t hs))⟩
     · exact ⟨rfl,fun caps => Call.ofVc hpE_ok mixed (c := hpB) (inv := fun _ => none) Try.func33 (by kernel_rfl) (cast (congrFun (congrFun (congrFun (congrFun hpVV_eq l) (caps 0)) m) (caps 1)) (hpVV_ok l (caps 0) m (caps 1) hs))⟩
end Go.Pier.Fl
namespace Go.Pier.Fl
open Go Go.Pier Go.Proofs
end Go.Pier.Fl
namespace Go.Pier.Fl
open Go Go.Pier Go.Proofs
noncomputable def hgCt (l : List Int) (c : Nat) : List Value→Heap→Option (Option Prop × Value × Heap × List Nat) := fun args H => match args with
 | [.pointer (some ⟨1,0,none⟩),.int .i64 a] => some (some (AtZ l c H∧Coins l∧0≤a∧a≤300),.slice (some ⟨H.length,0,none⟩) (a.toNat + 1) (a.toNat + 1),H ++ [.rw ((hL l a.toNat).map (.int .i64)) none],[])
 | _ => none
noncomputable def hoE (l : List Int) (c : Nat) : VEnv := { ct := Ct.none.add 76 (hgCt l c),cc := ccIn Try.prog (tiE l c) [⟨66,Try.f66,fun _ _ _ => none⟩] }
noncomputable def hoB : Code := Try.f31.body.getD .skip
noncomputable def hoO0 (l:List Int):Prop := (AObj.ro (List.map (Value.int IntKind.i64) l)=AObj.ro (List.map (nmap1 (nsub 1 3)) (List.map (Value.int IntKind.i64) l))∧AObj.sc 2 (AObj.ro (List.map (Value.int IntKind.i64) l))=true)
noncomputable def hoO1 (a:Int):Array Value := ⟨[Value.slice (some (ad0 3)) (a.toNat+1) (a.toNat+1),vi (0:Int)]⟩
noncomputable def hoO2 (a:Int) := (!wiF (Arg.plain (vi (0:Int))).num (Arg.plain (vi (300:Int))).num [intOf (vi a)])
noncomputable def hoO3  := (Value.int IntKind.i64)
noncomputable def hoO4 (a:Int):Prop := (([vi a]=[vi (intOf (vi a))]∧0+1≤1∧true=true)∧1≤1000000)
noncomputable def hoO5 (a:Int):Prop := (Value.tuple ⟨[Value.slice none 0 0,vi (3:Int)]⟩=Value.tuple (hoO1 a))
noncomputable def hoO6 (a:Int):Prop := (Value.tuple ⟨[Value.slice none 0 0,vi (0:Int)]⟩=Value.tuple (hoO1 a))
noncomputable def hoO7 (l:List Int) (a:Int):Prop := (Value.tuple ⟨[Value.slice none 0 0,vi (errC l)]⟩=Value.tuple (hoO1 a))
noncomputable def hoO :=
fun (l:List Int) (c:Nat) (a:Int)↦Ob (some (AObj.ro (List.map hoO3 l))=some (AObj.ro (List.map hoO3 l))∧l.length=l.length∧c=c∧l.length≤1000000)∧(Ob (errC l≠(0:Int))→((errC l==(0:Int))=true→Ob (hoO4 a)∧((hoO2 a)=true→(true=true→(Ob (hoO0 l)∧False)∧Ob (hoO5 a)∧True)∧(true=false→False))∧((hoO2 a)=false→((errC l !=(0:Int))=true→(Ob (hoO0 l)∧False)∧Ob (hoO7 l a)∧True)∧((errC l !=(0:Int))=false→False)))∧((errC l==(0:Int))=false→((errC l !=(0:Int))=true→(Ob (hoO0 l)∧False)∧Ob (hoO7 l a)∧True)∧((errC l !=(0:Int))=false→False)))∧(Ob (errC l=(0:Int))→∀ (zl:List Int),Ob (isZ zl)→(true=true→Ob (hoO4 a)∧((hoO2 a)=true→(true=true→(Ob (hoO0 l)∧False)∧Ob (hoO5 a)∧True)∧(true=false→False))∧((hoO2 a)=false→(false=true→(Ob (hoO0 l)∧False)∧Ob (hoO6 a)∧True)∧(false=false→Ob (AtZ l c [AObj.ro (List.map hoO3 l),AObj.rw (Value.slice (some (ad0 0)) l.length c::List.map hoO3 zl) none,AObj.rw [vi a] none]∧Coins l∧(0:Int)≤a∧a≤(300:Int))∧(Ob (hoO0 l)∧Ob (AObj.rw (List.map hoO3 (hL l a.toNat)) none=AObj.rw (List.map (nmap1 (nsub 1 3)) (List.map hoO3 (hL l a.toNat))) none∧AObj.sc 2 (AObj.rw (List.map hoO3 (hL l a.toNat)) none)=true)∧True)∧Ob (Value.tuple (hoO1 a)=Value.tuple (hoO1 a))∧True)))∧(true=false→(false=true→(Ob (hoO0 l)∧False)∧Ob (hoO6 a)∧True)∧(false=false→Ob (AtZ l c [AObj.ro (List.map hoO3 l),AObj.rw (Value.slice (some (ad0 0)) l.length c::List.map hoO3 zl) none]∧Coins l∧(0:Int)≤a∧a≤(300:Int))∧(Ob (hoO0 l)∧False)∧Ob (Value.tuple ⟨[Value.slice (some (ad0 2)) (a.toNat+1) (a.toNat+1),vi (0:Int)]⟩=Value.tuple (hoO1 a))∧True)))
def hoS : List Arg3→Option Born
 | [.one (.view cs n r),.one (.plain (.int .i64 a))] => some ⟨okW a (.view cs n r),fun b => .tuple #[.slice (some ⟨b,0,none⟩) (a.toNat + 1) (a.toNat + 1),vi 0],[.rw ((hL (intsOf cs) a.toNat).map (.int .i64)) none]⟩
 | _ => none
theorem hgCt_ok {l : List Int} {c : Nat} : ∀ args H φ v H' k,hgCt l c args H = some (φ,v,H',k)→Asks φ→Call Try.prog 76 args H (fun v' H2 => v' = v∧H2 = H')∧Kept H H' k := fun args H φ v H' k h hφ => by
 unfold hgCt at h
 split at h <;> cases h
 rename_i a
 obtain ⟨⟨zl,hA⟩,hc,ha0,ha1⟩ := hφ
 obtain ⟨A,rfl⟩ := Int.eq_ofNat_of_zero_le ha0
 refine ⟨?_,Kept.append _ _ _⟩
 have hH : 1 < H.length := (List.getElem?_eq_some_iff.1 hA.2).1
 have e0 : nameL [0,1] 2 H.length 0 = 0 := by simp [nameL]
 have e1 : nameL [0,1] 2 H.length 1 = 1 := by simp [nameL]
 have e2 : nameL [0,1] 2 H.length 2 = H.length := by simp [nameL]
 have := Call.frameG (P := Try.prog) (f := 76) (Et := [ros l,tillO l.length c zl]) (Ft := [ros l,tillO l.length c zl]) (N := [.rw ((hL l A).map (.int .i64)) none]) (H := H) (L := [0,1]) (args := [ptr0 1,vi (A : Int)]) (vs := [ptr0 1,vi (A : Int)]) (v := .slice (some ⟨2,0,none⟩) (A + 1) (A + 1)) rfl rfl (by simp) (fun x hx => by simp at hx; omega)
   (fun c' o h => ?_) (fun o ho => ?_) rfl rfl (hg_call l c zl A hc (by omega)) (fun o ho => ?_) (fun o ho => by rw [List.mem_singleton.1 ho]; rfl) (by simp [nm,nm2,nm1,nm0]) (fun o ho => ?_) (by simp [nmap,nmap2,nmap1,nmap0,am,e2,sc,sc2,sc1,sc0])
 · obtain ⟨t1,_⟩ := this
   have hv : nmap (nameL [0,1] ([ros l,tillO l.length c zl] : Heap).length H.length) (.slice (some ⟨2,0,none⟩) (A + 1) (A + 1)) = .slice (some ⟨H.length,0,none⟩) (A + 1) (A + 1) := by
     show nmap (nameL [0,1] 2 H.length) _ = _
     simp [nmap,nmap2,nmap1,nmap0,am,e2]
   have hs : setG H [ros l,tillO l.length c zl] [0,1] (([ros l,tillO l.length c zl] : Heap).map (omap (nameL [0,1] ([ros l,tillO l.length c zl] : Heap).length H.length))) = H := by
     show H.set 1 (omap (nameL [0,1] 2 H.length) (tillO l.length c zl)) = H
     rw [til_omap e0]
     obtain ⟨k1,k2⟩ := List.getElem?_eq_some_iff.1 hA.2
     rw [← k2]
     exact List.set_getElem_self k1
   rw [hv,hs,List.map_cons,List.map_nil,rw_omap] at t1
   exact t1
 · rcases c' with _ | _ | c'
   · cases h; exact .inr (by rw [ros_omap]; exact hA.1)
   · cases h; exact .inr (by rw [til_omap rfl]; exact hA.2)
   · simp at h
 · rcases List.mem_cons.1 ho with rfl | ho
   · exact ros_sc
   · rw [List.mem_singleton.1 ho]; exact til_sc
 · simp only [List.mem_append,List.mem_cons,List.not_mem_nil,or_false] at ho
   rcases ho with (rfl | rfl) | rfl
   · exact ros_nm
   · exact til_nm rfl
   · exact nm_ints
 · simp only [List.mem_append,List.mem_cons,List.not_mem_nil,or_false] at ho
   rcases ho with (rfl | rfl) | rfl
   · rw [ros_omap]; exact ros_sc
   · show (omap (nameL [0,1] 2 H.length) _).sc _ = true
     rw [til_omap e0]; exact til_sc
   · rw [rw_omap]; exact sc_ints
theorem okWh_of {l : List Int} {a : Int} (h0 : errA l a = 0) {r : Bool} : okW a (Leaf.view (List.map (Value.int .i64) l) l.length r) := by
 obtain ⟨he,hr⟩ := errA_0.1 h0
 exact ⟨by rw [intsOf_map],by simp,by rw [intsOf_map]; exact errC_ok.1 he,hr⟩
theorem hoO_ok (l : List Int) (c : Nat) (a : Int) (h0 : errA l a = 0) : hoO l c a := by
 unfold hoO hoO7 hoO6 hoO5 hoO4 hoO3 hoO2 hoO1 hoO0
 simp only [SS,reduceCtorEq,Arg.list,Arg.num,Arg.flag,intOf,andP,Nat.reduceLeDiff,Nat.reduceAdd,Nat.reduceMul,Nat.reduceLT,til_sc,nm_sl]
 obtain ⟨he,hr⟩ := errA_0.1 h0
 have hc := errC_ok.1 he
 have := hc.few
 exact ⟨by omega,fun h => absurd he h,fun _ zl hz => ⟨fun h => (wi_300 h).2 rfl hr,fun h => ⟨at_z,hc,by omega,by omega⟩⟩⟩
theorem hL_z {l : List Int} (hc : Coins l) : hL l 0 = [0] := by
 have h := fR_get hc 0 (by omega) 0 (by omega)
 have h00 : canB l 0 = true := rfl
 rw [fvA,if_pos h00] at h
 rw [hL,hvF,if_pos h00,← h]
 rfl
theorem hoE_ok {l : List Int} {c : Nat} : VOk Try.prog (hoE l c) := ⟨CtOk.none.add hgCt_ok,ccIn_ok tiE_ok mixed (inl_one Try.func66),E0_ok.yc,E0_ok.orc⟩
theorem ho_call (l : List Int) (c : Nat) (a : Int) (h0 : errA l a = 0) : Call Try.prog 31 [.slice (some ⟨0,0,none⟩) l.length c,vi a] [ros l] fun v H' => v = .tuple #[.slice (some ⟨1,0,none⟩) (a.toNat + 1) (a.toNat + 1),vi 0]∧H' = [ros l] ++ [.rw ((hL l a.toNat).map (.int .i64)) none] :=
 Call.ofVcR (E := hoE l c) (H := [ros l]) (args := [.slice (some ⟨0,0,none⟩) l.length c,vi a]) (σ := nsub 1 3) (v2 := .tuple #[.slice (some ⟨1,0,none⟩) (a.toNat + 1) (a.toNat + 1),vi 0]) (H2 := [ros l,.rw ((hL l a.toNat).map (.int .i64)) none]) hoE_ok mixed (c := hoB) (inv := fun _ => none) Try.func31 (by kernel_rfl) (cast (by kernel_rfl) (hoO_ok l c a h0))
theorem hoG_ok : ∀ args H φ v H' l,born3 [.one (.rows [.i .i64] false),.one (.int .i64)] hoS args H = some (φ,v,H',l)→Asks φ→Call Try.prog 31 args H (fun v' H2 => v' = v∧H2 = H')∧Kept H H' l :=
 born3_ok fun r s hk hs hψ => match r,hk with
   | [.one x,.one y],⟨hx,⟨a,hy⟩,_⟩ => by
     subst hy
     rcases hx with rfl | ⟨s,rfl⟩ | ⟨cs,n,rfl⟩
     · cases hs
     · cases hs
     · cases hs
       obtain ⟨k1,k2,k3,k4⟩ := hψ
       have kl : (intsOf cs).length = n := by rw [intsOf,List.length_map]; exact k2
       have ke : AObj.ro cs = ros (intsOf cs) := by show AObj.ro cs = .ro ((intsOf cs).map (.int .i64)); rw [← k1]
       refine ⟨⟨plainNew_ints,fun ρ b ρ' c h => ?_,fun n => ?_⟩,fun caps hcaps => ?_⟩
       · obtain ⟨h1,h2,h3⟩ := h 0 (by simp)
         simp only [Nat.add_zero] at h1 h2 h3
         simp [ren,ren2,ren1,ren0,Ren.addr,Ren.adr,Ren.cap,h1,h2,h3]
       · simp [sc,sc2,sc1,sc0]
       · have h := ho_call (intsOf cs) (caps 0) a (errA_0.2 ⟨errC_ok.2 k3,k4⟩)
         rw [kl] at h
         have e : canonH3 [Arg3.one (Leaf.view cs n false),Arg3.one (Leaf.plain (vi a))] = [ros (intsOf cs)] := by
           show [AObj.ro cs] = _
           rw [ke]
         rw [e]
         exact h
end Go.Pier.Fl
namespace Go.Pier.Fl
open Go Go.Pier Go.Proofs
theorem hv_bd {l : List Int} (hc : Coins l) {j : Nat} (hj : j≤300) : 0≤hvF l j∧hvF l j≤1000 := by
 have hb := fvA_bd hc hj
 unfold fvA at hb
 unfold hvF
 by_cases h : canB l j = true
 · have := m5_pos hc (b := j) (by omega) h
   rw [if_pos h] at hb ⊢
   omega
 · rw [if_neg h]; omega
theorem hL_right {l : List Int} (hc : Coins l) {a : Nat} (ha : a≤300) : heE l (hL l a) = 0 := by
 have hln := hL_len (l := l) a
 refine heE_y (errC_ok.2 hc) (by omega) (fun j hj => ?_) ?_ fun b hb i hi => ?_
 · rw [hL_get a j (by omega)]
   exact hv_bd hc (by omega)
 · rw [hL_get a 0 (by omega)]
   have h := hL_z hc
   rw [hL] at h
   exact List.head_eq_of_cons_eq h
 · intro hle
   have hr := coin_rng hc hi
   rw [hL_get a b (by omega),hL_get a _ (by omega)]
   obtain ⟨k,hk⟩ : ∃ k : Nat,k = ((b : Int) - l.getD i 0).toNat := ⟨_,rfl⟩
   rw [← hk]
   have hb2 := hv_bd hc (j := b) (by omega)
   by_cases h : canB l k = true
   · have e : k + (l.getD i 0).toNat = b := by omega
     have h1 := add_few hc hi (y := k) (by omega) h
     have h2 := ((best_is hc b (by omega)).2 (up (bF l k) i 1) ?_).1
     · rw [e] at h1
       rw [hvF,hvF,if_pos h,if_pos h2]
       exact h1
     · obtain ⟨p,q⟩ := ((best_is hc k (by omega)).1 h).1
       exact ⟨fun j hj => by
         have := p j hj
         unfold up
         split <;> omega,by rw [dot_up,q,if_pos hi]; omega⟩
   · rw [hvF,hvF,if_neg h]
     rw [hvF] at hb2
     omega
theorem heE_facts {l m : List Int} (h : heE l m = 0) : errC l = 0∧m.getD 0 0 = 0∧(∀ j,j < m.length→0≤m.getD j 0∧m.getD j 0≤1000)∧∀ a,a < m.length→rtA l m a := by
 by_cases h1 : errC l = 0
 · by_cases h2 : m.length < 1∨301 < m.length
   · rw [heE_m h1 h2] at h; cases h
   · by_cases h3 : ∀ j,j < m.length→0≤m.getD j 0∧m.getD j 0≤1000
     · by_cases h4 : m.getD 0 0 = 0
       · by_cases h5 : ∀ a,a < m.length→rtA l m a
         · exact ⟨h1,h4,h3,h5⟩
         · rw [heE_n h1 h2 h3 h4 h5] at h; cases h
       · rw [heE_0 h1 h2 h3 h4] at h; cases h
     · rw [heE_r h1 h2 h3] at h; cases h
 · rw [heE_c h1] at h; exact absurd h h1
theorem le_height {l m : List Int} (h : heE l m = 0) : ∀ A : Nat,A < m.length→∀ y,isCh l A y→m.getD A 0≤pf y l.length := by
 obtain ⟨h1,h0,hr,ha⟩ := heE_facts h
 have hc := errC_ok.1 h1
 intro A
 induction A using Nat.strongRecOn with
 | ind A ih =>
   intro hA y hy
   have hn : ∀ k,k < l.length→0≤l.getD k 0∧0≤y k := fun k hk => ⟨by have := coin_rng hc hk; omega,hy.1 k hk⟩
   by_cases e : A = 0
   · subst e
     rw [h0]
     have : ∀ n,n≤l.length→0≤pf y n := fun n => by
       induction n with
       | zero => intro _; exact Int.le_refl _
       | succ n ih => intro hn'; rw [pf]; have := hy.1 n (by omega); have := ih (by omega); omega
     exact this _ (Nat.le_refl _)
   · obtain ⟨j,hj,hp⟩ := dot_pos l.length hn (by rw [hy.2]; omega)
     have hcr := coin_rng hc hj
     have hy1 : ∀ k,k < l.length→0≤up y j (-1) k := fun k hk => by
       by_cases e2 : k = j
       · subst e2; rw [up_own]; omega
       · rw [up_else e2]; exact hy.1 k hk
     have hd : dotF l (up y j (-1)) l.length = (A : Int) - l.getD j 0 := by rw [dot_up,if_pos hj,hy.2]; omega
     have hge := dot_nonneg (l := l) (y := up y j (-1)) l.length fun k hk => ⟨(hn k hk).1,hy1 k hk⟩
     rw [hd] at hge
     obtain ⟨k,hk⟩ : ∃ k : Nat,k = ((A : Int) - l.getD j 0).toNat := ⟨_,rfl⟩
     have hkA : (k : Int) = (A : Int) - l.getD j 0 := by omega
     have i1 := ih k (by omega) (by omega) (up y j (-1)) ⟨hy1,by rw [hd,hkA]⟩
     rw [pf_up,if_pos hj] at i1
     have r1 := ha A hA j hj (by omega)
     rw [← hk] at r1
     omega
theorem few_chg {l m : List Int} (hk : errK l m = 0) (ha : 0≤chA l m∧chA l m≤300) (hm : isCh l (chA l m) (gt m)) (hc : Coins l) : canB l (chA l m).toNat = true∧fewF l (chA l m)≤chM l m := by
 obtain ⟨A,hA⟩ : ∃ A : Nat,(A : Int) = chA l m := ⟨(chA l m).toNat,by omega⟩
 rw [← hA] at ha hm ⊢
 obtain ⟨b1,b2⟩ := (best_is hc A (by omega)).2 _ hm
 rw [few_val hc ha,Int.toNat_natCast,if_pos b1,chM,if_pos hk]
 exact ⟨b1,b2⟩
theorem few_height {l m : List Int} (h : heE l m = 0) {a : Int} (ha : 0≤a∧a≤300) (hm : a < m.length) (hb : canB l a.toNat = true) : m.getD a.toNat 0≤fewF l a := by
 have hc := errC_ok.1 (heE_facts h).1
 obtain ⟨A,rfl⟩ := Int.eq_ofNat_of_zero_le ha.1
 rw [Int.toNat_natCast] at hb ⊢
 rw [few_val hc ha,Int.toNat_natCast,if_pos hb,best_m5 hc (by omega) hb]
 exact le_height h A (by omega) _ ((best_is hc A (by omega)).1 hb).1
theorem chg_height {l m g : List Int} (h : heE l g = 0) (hk : errK l m = 0) (ha : 0≤chA l m) (hm : isCh l (chA l m) (gt m)) (hg : chA l m < g.length) : g.getD (chA l m).toNat 0≤chM l m := by
 obtain ⟨A,hA⟩ : ∃ A : Nat,(A : Int) = chA l m := ⟨(chA l m).toNat,by omega⟩
 rw [← hA] at hm hg ⊢
 rw [Int.toNat_natCast,chM,if_pos hk]
 exact le_height h A (by omega) _ hm
end Go.Pier.Fl
