import Derived.Test.YtbehncpoppoglaaPierKC6
import Derived.Test.YtbehncpoppoglaaPierFlwk
import Derived.KernelRfl
set_option linter.unusedSimpArgs false
set_option linter.unusedVariables false
set_option maxRecDepth 100000
namespace Go.Pier.Fl
open Go Go.Pier Go.Proofs
noncomputable def lsB : Code := Try.f30.body.getD .skip
noncomputable def qrB : Code := Try.f40.body.getD .skip
noncomputable def sqB : Code := Try.f7.body.getD .skip
def lsI (l m : List Int) (c d : Nat) : Nat→Option LInv := invOf 0 (LInv.one Nat (fun i => i≤l.length∧∀ j,j < i→l.getD j 0 = m.getD j 0) (fun i => [(0,.slice (some ⟨0,0,none⟩) l.length c),(1,.slice (some ⟨1,0,none⟩) m.length d),(5,vi i)]) (fun _ => [ros l,ros m]) (fun i => l.length - i))
def lsS (r : List Arg) : Prop × Value := match r with
 | [.ints _ l,.ints _ m] => (l.length≤1000,.bool (l == m))
 | [.plain _,.plain _] => (True,.bool true)
 | _ => (False,undef)
def qrS (r : List Arg3) : Option Born := match r with
 | [.one (.view cs n r)] => some ⟨okV (.view cs n r),fun b => .tuple #[wS b (resF (intsOf cs)).length,vi 0],[rws (resF (intsOf cs))]⟩
 | _ => none
def qeS (r : List Arg) : Prop × Value := match r with
 | [.ints _ l] => (l.length≤1000000∧errC l ≠ 0,.tuple #[.slice none 0 0,vi (errC l)])
 | [_] => (True,.tuple #[.slice none 0 0,vi 6])
 | _ => (False,undef)
noncomputable def sqT : Ct := (((((Ct.none.add 19 (pureG [] worksS)).add 41 (pureG [.ints .i64] gtS)).add 42 (pureG [.ints .i64] gtS)).add 43 (pureG [.ints .i64] mnS)).add 44 (pureG [.ints .i64] mnS)).add 30 (pureG [.ints .i64,.ints .i64] lsS)
noncomputable def sqE : VEnv := { ct := (sqT.add 39 (born3 [.one (.rows [.i .i64] false)] rtS)).add 40 (born3 [.one (.rows [.i .i64] false)] qrS),cc := ccIn Try.prog {} [⟨18,Try.f18,fun _ _ _ => none⟩] }
noncomputable def seE : VEnv := { ct := (sqT.add 39 (pureG [.ints .i64] qeS)).add 40 (pureG [.ints .i64] qeS),cc := ccIn Try.prog {} [⟨18,Try.f18,fun _ _ _ => none⟩] }
noncomputable def lsVV :=
fun (l:List Int) (c:Nat) (m:List Int) (d:Nat)↦(((l.length:Int) !=(m.length:Int))=true→True∧Ob (Value.bool false=Value.bool (l==m)))∧(((l.length:Int) !=(m.length:Int))=false→(∃ (y:Nat),Ob (y≤l.length∧∀ (j:Nat),j<y→l.getD j (0:Int)=m.getD j (0:Int))∧(Ob (AObj.ro (List.map (Value.int IntKind.i64) l)=AObj.ro (List.map (nmap1 fun (b:Nat)↦b) (List.map (Value.int IntKind.i64) l))∧AObj.sc 2 (AObj.ro (List.map (Value.int IntKind.i64) l))=true)∧Ob (AObj.ro (List.map (Value.int IntKind.i64) m)=AObj.ro (List.map (nmap1 fun (b:Nat)↦b) (List.map (Value.int IntKind.i64) m))∧AObj.sc 2 (AObj.ro (List.map (Value.int IntKind.i64) m))=true)∧True)∧Ob (Value.slice (some (ad0 0)) l.length c=Value.slice (some (ad0 0)) l.length c)∧Ob (Value.slice (some (ad0 1)) m.length d=Value.slice (some (ad0 1)) m.length d)∧Ob ((0:Int)=(y:Int))∧True)∧∀ (x:Nat),Ob (x≤l.length∧∀ (j:Nat),j<x→l.getD j (0:Int)=m.getD j (0:Int))→(decide ((x:Int)<(l.length:Int))=true→Ob ((0:Int)≤(x:Int)∧(x:Int)<(l.length:Int)∧true=true)∧Ob (IntAt IntKind.i64 (List.map (Value.int IntKind.i64) l) (0+(x:Int).toNat * 1))∧Ob ((0:Int)≤(x:Int)∧(x:Int)<(m.length:Int)∧true=true)∧Ob (IntAt IntKind.i64 (List.map (Value.int IntKind.i64) m) (0+(x:Int).toNat * 1))∧((getI (List.map (Value.int IntKind.i64) l) (0+(x:Int).toNat * 1) !=getI (List.map (Value.int IntKind.i64) m) (0+(x:Int).toNat * 1))=true→True∧Ob (Value.bool false=Value.bool (l==m)))∧((getI (List.map (Value.int IntKind.i64) l) (0+(x:Int).toNat * 1) !=getI (List.map (Value.int IntKind.i64) m) (0+(x:Int).toNat * 1))=false→∃ (y:Nat),Ob (y≤l.length∧∀ (j:Nat),j<y→l.getD j (0:Int)=m.getD j (0:Int))∧Ob (l.length-y<l.length-x)∧(Ob (AObj.ro (List.map (Value.int IntKind.i64) l)=AObj.ro (List.map (nmap1 fun (b:Nat)↦b) (List.map (Value.int IntKind.i64) l))∧AObj.sc 2 (AObj.ro (List.map (Value.int IntKind.i64) l))=true)∧Ob (AObj.ro (List.map (Value.int IntKind.i64) m)=AObj.ro (List.map (nmap1 fun (b:Nat)↦b) (List.map (Value.int IntKind.i64) m))∧AObj.sc 2 (AObj.ro (List.map (Value.int IntKind.i64) m))=true)∧True)∧Ob (Value.slice (some (ad0 0)) l.length c=Value.slice (some (ad0 0)) l.length c)∧Ob (Value.slice (some (ad0 1)) m.length d=Value.slice (some (ad0 1)) m.length d)∧Ob (IntKind.i64.wrap ((x:Int)+(1:Int))=(y:Int))∧True))∧(decide ((x:Int)<(l.length:Int))=false→True∧Ob (Value.bool true=Value.bool (l==m))))
theorem lsVV_eq : lsVV = fun (l : List Int) (c : Nat) (m : List Int) (d : Nat) => vc Try.prog {} 2 26 true (lsI l m c d) lsB [] (argFr 0 [.slice (some ⟨0,0,none⟩) l.length c,.slice (some ⟨1,0,none⟩) m.length d]) [ros l,ros m] (retK Try.prog Try.f30 (fun v _ => v = .bool (l == m))) := by kernel_rfl
noncomputable def lsNN :=
fun (x:Unit)↦(false=true→True∧Ob (Value.bool false=Value.bool true))∧(false=false→(∃ (y:Unit),Ob True∧True∧Ob (Value.slice none 0 0=Value.slice none 0 0)∧Ob (Value.slice none 0 0=Value.slice none 0 0)∧Ob ((0:Int)=(0:Int))∧True)∧∀ (x:Unit),Ob True→(false=true→False)∧(false=false→True∧Ob (Value.bool true=Value.bool true)))
theorem lsNN_eq : lsNN = fun (_ : Unit) => vc Try.prog {} 0 26 true (invOf 0 (LInv.one Unit (fun _ => True) (fun _ => [(0,.slice none 0 0),(1,.slice none 0 0),(5,vi 0)]) (fun _ => []) (fun _ => 1))) lsB [] (argFr 0 [.slice none 0 0,.slice none 0 0]) [] (retK Try.prog Try.f30 (fun v _ => v = .bool true)) := by kernel_rfl
noncomputable def qrV :=
fun (l:List Int) (c:Nat)↦Ob ((List.take l.length (List.drop 0 (List.map (Value.int IntKind.i64) l))=List.map (Value.int IntKind.i64) (List.take l.length (List.drop 0 (intsOf (List.map (Value.int IntKind.i64) l))))∧0+l.length≤(List.map (Value.int IntKind.i64) l).length∧true=true)∧(List.take l.length (List.drop 0 (intsOf (List.map (Value.int IntKind.i64) l)))).length≤1000000)∧((errC (List.take l.length (List.drop 0 (intsOf (List.map (Value.int IntKind.i64) l)))) !=(0:Int))=true→Ob ((List.take l.length (List.drop 0 (List.map (Value.int IntKind.i64) l))=List.map (Value.int IntKind.i64) (List.take l.length (List.drop 0 (intsOf (List.map (Value.int IntKind.i64) l))))∧0+l.length≤(List.map (Value.int IntKind.i64) l).length∧true=true)∧(List.take l.length (List.drop 0 (intsOf (List.map (Value.int IntKind.i64) l)))).length≤1000000)∧(Ob (AObj.ro (List.map (Value.int IntKind.i64) l)=AObj.ro (List.map (nmap1 (nsub 1 1)) (List.map (Value.int IntKind.i64) l))∧AObj.sc 2 (AObj.ro (List.map (Value.int IntKind.i64) l))=true)∧False)∧Ob (Value.tuple ⟨[Value.slice none 0 0,vi (errC (List.take l.length (List.drop 0 (intsOf (List.map (Value.int IntKind.i64) l)))))]⟩=Value.tuple ⟨[Value.slice (some ⟨1,0,some 0⟩) (resF l).length 0,vi (0:Int)]⟩)∧True)∧((errC (List.take l.length (List.drop 0 (intsOf (List.map (Value.int IntKind.i64) l)))) !=(0:Int))=false→Ob ((true=true∧Flat (List.map (Value.int IntKind.i64) l))∧okV (Leaf.view (List.map (Value.int IntKind.i64) l) l.length false))∧(Ob (AObj.ro (List.map (Value.int IntKind.i64) l)=AObj.ro (List.map (nmap1 (nsub 1 1)) (List.map (Value.int IntKind.i64) l))∧AObj.sc 2 (AObj.ro (List.map (Value.int IntKind.i64) l))=true)∧Ob (AObj.rw (List.map (Value.int IntKind.i64) (resF (intsOf (List.map (Value.int IntKind.i64) l)))) (some 1)=AObj.rw (List.map (nmap1 (nsub 1 1)) (List.map (Value.int IntKind.i64) (resF l))) (some 1)∧AObj.sc 2 (AObj.rw (List.map (Value.int IntKind.i64) (resF l)) (some 1))=true)∧True)∧Ob (Value.tuple ⟨[Value.slice (some ⟨1,0,some 0⟩) (resF (intsOf (List.map (Value.int IntKind.i64) l))).length 0,vi (0:Int)]⟩=Value.tuple ⟨[Value.slice (some ⟨1,0,some 0⟩) (resF l).length 0,vi (0:Int)]⟩)∧True)
theorem qrV_eq : qrV = fun (l : List Int) (c : Nat) => vc Try.prog roE 1 11 true (fun _ => none) qrB [] (argFr 0 [.slice (some ⟨0,0,none⟩) l.length c]) [ros l] (retR Try.prog Try.f40 1 (nsub 1 1) (.tuple #[wS 1 (resF l).length,vi 0]) [ros l,rws (resF l)]) := by kernel_rfl
noncomputable def qrW :=
fun (l:List Int) (c:Nat)↦Ob ((List.take l.length (List.drop 0 (List.map (Value.int IntKind.i64) l))=List.map (Value.int IntKind.i64) (List.take l.length (List.drop 0 (intsOf (List.map (Value.int IntKind.i64) l))))∧0+l.length≤(List.map (Value.int IntKind.i64) l).length∧true=true)∧(List.take l.length (List.drop 0 (intsOf (List.map (Value.int IntKind.i64) l)))).length≤1000000)∧((errC (List.take l.length (List.drop 0 (intsOf (List.map (Value.int IntKind.i64) l)))) !=(0:Int))=true→Ob ((List.take l.length (List.drop 0 (List.map (Value.int IntKind.i64) l))=List.map (Value.int IntKind.i64) (List.take l.length (List.drop 0 (intsOf (List.map (Value.int IntKind.i64) l))))∧0+l.length≤(List.map (Value.int IntKind.i64) l).length∧true=true)∧(List.take l.length (List.drop 0 (intsOf (List.map (Value.int IntKind.i64) l)))).length≤1000000)∧True∧Ob (Value.tuple ⟨[Value.slice none 0 0,vi (errC (List.take l.length (List.drop 0 (intsOf (List.map (Value.int IntKind.i64) l)))))]⟩=Value.tuple ⟨[Value.slice none 0 0,vi (errC l)]⟩))∧((errC (List.take l.length (List.drop 0 (intsOf (List.map (Value.int IntKind.i64) l)))) !=(0:Int))=false→Ob ((true=true∧Flat (List.map (Value.int IntKind.i64) l))∧okV (Leaf.view (List.map (Value.int IntKind.i64) l) l.length false))∧True∧Ob (Value.tuple ⟨[Value.slice (some ⟨1,0,some 0⟩) (resF (intsOf (List.map (Value.int IntKind.i64) l))).length 0,vi (0:Int)]⟩=Value.tuple ⟨[Value.slice none 0 0,vi (errC l)]⟩))
theorem qrW_eq : qrW = fun (l : List Int) (c : Nat) => vc Try.prog roE 1 11 true (fun _ => none) qrB [] (argFr 0 [.slice (some ⟨0,0,none⟩) l.length c]) [ros l] (retK Try.prog Try.f40 (fun v _ => v = .tuple #[.slice none 0 0,vi (errC l)])) := by kernel_rfl
noncomputable def qrN :=
fun (x:Unit)↦Ob True∧(true=true→Ob True∧True∧Ob (Value.tuple ⟨[Value.slice none 0 0,vi (6:Int)]⟩=Value.tuple ⟨[Value.slice none 0 0,vi (6:Int)]⟩))∧(true=false→False)
theorem qrN_eq : qrN = fun (_ : Unit) => vc Try.prog roE 0 11 true (fun _ => none) qrB [] (argFr 0 [.slice none 0 0]) [] (retK Try.prog Try.f40 (fun v _ => v = .tuple #[.slice none 0 0,vi 6])) := by kernel_rfl
noncomputable def qrH :=
fun (s:Option Nat) (c:Nat)↦Ob True∧(true=true→Ob True∧True∧Ob (Value.tuple ⟨[Value.slice none 0 0,vi (6:Int)]⟩=Value.tuple ⟨[Value.slice none 0 0,vi (6:Int)]⟩))∧(true=false→False)
theorem qrH_eq : qrH = fun (s : Option Nat) (c : Nat) => vc Try.prog roE 1 11 true (fun _ => none) qrB [] (argFr 0 [.slice (some ⟨0,0,s⟩) 0 c]) [.gone] (retK Try.prog Try.f40 (fun v _ => v = .tuple #[.slice none 0 0,vi 6])) := by kernel_rfl
noncomputable def rtW :=
fun (l:List Int) (c:Nat)↦Ob (some (AObj.ro (List.map (Value.int IntKind.i64) l))=some (AObj.ro (List.map (Value.int IntKind.i64) l))∧l.length=l.length∧c=c∧l.length≤1000000)∧(Ob (errC l≠(0:Int))→((errC l !=(0:Int))=true→True∧Ob (Value.tuple ⟨[Value.slice none 0 0,vi (errC l)]⟩=Value.tuple ⟨[Value.slice none 0 0,vi (errC l)]⟩))∧((errC l !=(0:Int))=false→False))∧(Ob (errC l=(0:Int))→∀ (zl:List Int),Ob (isZ zl)→(false=true→True∧Ob (Value.tuple ⟨[Value.slice none 0 0,vi (0:Int)]⟩=Value.tuple ⟨[Value.slice none 0 0,vi (errC l)]⟩))∧(false=false→Ob (AtZ l c [AObj.ro (List.map (Value.int IntKind.i64) l),AObj.rw (Value.slice (some (ad0 0)) l.length c::List.map (Value.int IntKind.i64) zl) none]∧Coins l)∧True∧Ob (Value.tuple ⟨[Value.slice (some (ad0 2)) (resF l).length (resF l).length,vi (0:Int)]⟩=Value.tuple ⟨[Value.slice none 0 0,vi (errC l)]⟩)))
theorem rtW_eq : rtW = fun (l : List Int) (c : Nat) => vc Try.prog (apE l c) 1 16 true (fun _ => none) rtB [] (argFr 0 [.slice (some ⟨0,0,none⟩) l.length c]) [ros l] (retK Try.prog Try.f39 (fun v _ => v = .tuple #[.slice none 0 0,vi (errC l)])) := by kernel_rfl
noncomputable def rtN :=
fun (x:Unit)↦Ob True∧(true=true→True∧Ob (Value.tuple ⟨[Value.slice none 0 0,vi (6:Int)]⟩=Value.tuple ⟨[Value.slice none 0 0,vi (6:Int)]⟩))∧(true=false→False)
theorem rtN_eq : rtN = fun (_ : Unit) => vc Try.prog anE' 0 16 true (fun _ => none) rtB [] (argFr 0 [.slice none 0 0]) [] (retK Try.prog Try.f39 (fun v _ => v = .tuple #[.slice none 0 0,vi 6])) := by kernel_rfl
noncomputable def rtH :=
fun (s:Option Nat) (c:Nat)↦Ob True∧(true=true→True∧Ob (Value.tuple ⟨[Value.slice none 0 0,vi (6:Int)]⟩=Value.tuple ⟨[Value.slice none 0 0,vi (6:Int)]⟩))∧(true=false→False)
theorem rtH_eq : rtH = fun (s : Option Nat) (c : Nat) => vc Try.prog anE' 1 16 true (fun _ => none) rtB [] (argFr 0 [.slice (some ⟨0,0,s⟩) 0 c]) [.gone] (retK Try.prog Try.f39 (fun v _ => v = .tuple #[.slice none 0 0,vi 6])) := by kernel_rfl
noncomputable def sqV :=
fun (l:List Int) (c:Nat)↦(decide ((10:Int)<(l.length:Int))=true→Ob True∧True∧Ob (isTrue (Value.bool true) [AObj.ro (List.map (Value.int IntKind.i64) l)]))∧(decide ((10:Int)<(l.length:Int))=false→Ob ((true=true∧Flat (List.map (Value.int IntKind.i64) l))∧okV (Leaf.view (List.map (Value.int IntKind.i64) l) l.length false))∧Ob ((true=true∧Flat (List.map (Value.int IntKind.i64) l))∧okV (Leaf.view (List.map (Value.int IntKind.i64) l) l.length false))∧Ob ((List.take l.length (List.drop 0 (List.map (Value.int IntKind.i64) l))=List.map (Value.int IntKind.i64) (List.take l.length (List.drop 0 (intsOf (List.map (Value.int IntKind.i64) l))))∧0+l.length≤(List.map (Value.int IntKind.i64) l).length∧true=true)∧(List.take l.length (List.drop 0 (intsOf (List.map (Value.int IntKind.i64) l)))).length≤1000000)∧Ob ((List.take l.length (List.drop 0 (List.map (Value.int IntKind.i64) l))=List.map (Value.int IntKind.i64) (List.take l.length (List.drop 0 (intsOf (List.map (Value.int IntKind.i64) l))))∧0+l.length≤(List.map (Value.int IntKind.i64) l).length∧true=true)∧(List.take l.length (List.drop 0 (intsOf (List.map (Value.int IntKind.i64) l)))).length≤1000000)∧Ob ((List.take l.length (List.drop 0 (List.map (Value.int IntKind.i64) l))=List.map (Value.int IntKind.i64) (List.take l.length (List.drop 0 (intsOf (List.map (Value.int IntKind.i64) l))))∧0+l.length≤(List.map (Value.int IntKind.i64) l).length∧true=true)∧(List.take l.length (List.drop 0 (intsOf (List.map (Value.int IntKind.i64) l)))).length≤1000000)∧Ob ((List.take l.length (List.drop 0 (List.map (Value.int IntKind.i64) l))=List.map (Value.int IntKind.i64) (List.take l.length (List.drop 0 (intsOf (List.map (Value.int IntKind.i64) l))))∧0+l.length≤(List.map (Value.int IntKind.i64) l).length∧true=true)∧(List.take l.length (List.drop 0 (intsOf (List.map (Value.int IntKind.i64) l)))).length≤1000000)∧Ob (((List.take (resF (intsOf (List.map (Value.int IntKind.i64) l))).length (List.drop 0 (List.map (Value.int IntKind.i64) (resF (intsOf (List.map (Value.int IntKind.i64) l)))))=List.map (Value.int IntKind.i64) (List.take (resF (intsOf (List.map (Value.int IntKind.i64) l))).length (List.drop 0 (intsOf (List.map (Value.int IntKind.i64) (resF (intsOf (List.map (Value.int IntKind.i64) l)))))))∧0+(resF (intsOf (List.map (Value.int IntKind.i64) l))).length≤(List.map (Value.int IntKind.i64) (resF (intsOf (List.map (Value.int IntKind.i64) l)))).length∧true=true)∧List.take (resF (intsOf (List.map (Value.int IntKind.i64) l))).length (List.drop 0 (List.map (Value.int IntKind.i64) (resF (intsOf (List.map (Value.int IntKind.i64) l)))))=List.map (Value.int IntKind.i64) (List.take (resF (intsOf (List.map (Value.int IntKind.i64) l))).length (List.drop 0 (intsOf (List.map (Value.int IntKind.i64) (resF (intsOf (List.map (Value.int IntKind.i64) l)))))))∧0+(resF (intsOf (List.map (Value.int IntKind.i64) l))).length≤(List.map (Value.int IntKind.i64) (resF (intsOf (List.map (Value.int IntKind.i64) l)))).length∧true=true)∧(List.take (resF (intsOf (List.map (Value.int IntKind.i64) l))).length (List.drop 0 (intsOf (List.map (Value.int IntKind.i64) (resF (intsOf (List.map (Value.int IntKind.i64) l))))))).length≤1000)∧((List.take (resF (intsOf (List.map (Value.int IntKind.i64) l))).length (List.drop 0 (intsOf (List.map (Value.int IntKind.i64) (resF (intsOf (List.map (Value.int IntKind.i64) l))))))==List.take (resF (intsOf (List.map (Value.int IntKind.i64) l))).length (List.drop 0 (intsOf (List.map (Value.int IntKind.i64) (resF (intsOf (List.map (Value.int IntKind.i64) l)))))))=true→(true=true→((gtV (List.take l.length (List.drop 0 (intsOf (List.map (Value.int IntKind.i64) l))))==gtV (List.take l.length (List.drop 0 (intsOf (List.map (Value.int IntKind.i64) l)))))=true→((gtE (List.take l.length (List.drop 0 (intsOf (List.map (Value.int IntKind.i64) l))))==gtE (List.take l.length (List.drop 0 (intsOf (List.map (Value.int IntKind.i64) l)))))=true→((mnV (List.take l.length (List.drop 0 (intsOf (List.map (Value.int IntKind.i64) l))))==mnV (List.take l.length (List.drop 0 (intsOf (List.map (Value.int IntKind.i64) l)))))=true→((mnE (List.take l.length (List.drop 0 (intsOf (List.map (Value.int IntKind.i64) l))))==mnE (List.take l.length (List.drop 0 (intsOf (List.map (Value.int IntKind.i64) l)))))=true→Ob True∧True∧Ob (isTrue (Value.bool true) [AObj.ro (List.map (Value.int IntKind.i64) l),AObj.rw (List.map (Value.int IntKind.i64) (resF (intsOf (List.map (Value.int IntKind.i64) l)))) none,AObj.rw (List.map (Value.int IntKind.i64) (resF (intsOf (List.map (Value.int IntKind.i64) l)))) (some 1)]))∧((mnE (List.take l.length (List.drop 0 (intsOf (List.map (Value.int IntKind.i64) l))))==mnE (List.take l.length (List.drop 0 (intsOf (List.map (Value.int IntKind.i64) l)))))=false→True∧Ob (isTrue (Value.bool false) [AObj.ro (List.map (Value.int IntKind.i64) l),AObj.rw (List.map (Value.int IntKind.i64) (resF (intsOf (List.map (Value.int IntKind.i64) l)))) none,AObj.rw (List.map (Value.int IntKind.i64) (resF (intsOf (List.map (Value.int IntKind.i64) l)))) (some 1)])))∧((mnV (List.take l.length (List.drop 0 (intsOf (List.map (Value.int IntKind.i64) l))))==mnV (List.take l.length (List.drop 0 (intsOf (List.map (Value.int IntKind.i64) l)))))=false→True∧Ob (isTrue (Value.bool false) [AObj.ro (List.map (Value.int IntKind.i64) l),AObj.rw (List.map (Value.int IntKind.i64) (resF (intsOf (List.map (Value.int IntKind.i64) l)))) none,AObj.rw (List.map (Value.int IntKind.i64) (resF (intsOf (List.map (Value.int IntKind.i64) l)))) (some 1)])))∧((gtE (List.take l.length (List.drop 0 (intsOf (List.map (Value.int IntKind.i64) l))))==gtE (List.take l.length (List.drop 0 (intsOf (List.map (Value.int IntKind.i64) l)))))=false→True∧Ob (isTrue (Value.bool false) [AObj.ro (List.map (Value.int IntKind.i64) l),AObj.rw (List.map (Value.int IntKind.i64) (resF (intsOf (List.map (Value.int IntKind.i64) l)))) none,AObj.rw (List.map (Value.int IntKind.i64) (resF (intsOf (List.map (Value.int IntKind.i64) l)))) (some 1)])))∧((gtV (List.take l.length (List.drop 0 (intsOf (List.map (Value.int IntKind.i64) l))))==gtV (List.take l.length (List.drop 0 (intsOf (List.map (Value.int IntKind.i64) l)))))=false→True∧Ob (isTrue (Value.bool false) [AObj.ro (List.map (Value.int IntKind.i64) l),AObj.rw (List.map (Value.int IntKind.i64) (resF (intsOf (List.map (Value.int IntKind.i64) l)))) none,AObj.rw (List.map (Value.int IntKind.i64) (resF (intsOf (List.map (Value.int IntKind.i64) l)))) (some 1)])))∧(true=false→True∧Ob (isTrue (Value.bool false) [AObj.ro (List.map (Value.int IntKind.i64) l),AObj.rw (List.map (Value.int IntKind.i64) (resF (intsOf (List.map (Value.int IntKind.i64) l)))) none,AObj.rw (List.map (Value.int IntKind.i64) (resF (intsOf (List.map (Value.int IntKind.i64) l)))) (some 1)])))∧((List.take (resF (intsOf (List.map (Value.int IntKind.i64) l))).length (List.drop 0 (intsOf (List.map (Value.int IntKind.i64) (resF (intsOf (List.map (Value.int IntKind.i64) l))))))==List.take (resF (intsOf (List.map (Value.int IntKind.i64) l))).length (List.drop 0 (intsOf (List.map (Value.int IntKind.i64) (resF (intsOf (List.map (Value.int IntKind.i64) l)))))))=false→True∧Ob (isTrue (Value.bool false) [AObj.ro (List.map (Value.int IntKind.i64) l),AObj.rw (List.map (Value.int IntKind.i64) (resF (intsOf (List.map (Value.int IntKind.i64) l)))) none,AObj.rw (List.map (Value.int IntKind.i64) (resF (intsOf (List.map (Value.int IntKind.i64) l)))) (some 1)])))
theorem sqV_eq : sqV = fun (l : List Int) (c : Nat) => vc Try.prog sqE 1 79 true (fun _ => none) sqB [] (argFr 0 [.slice (some ⟨0,0,none⟩) l.length c]) [ros l] (retK Try.prog Try.f7 isTrue) := by kernel_rfl
noncomputable def seV :=
fun (l:List Int) (c:Nat)↦(decide ((10:Int)<(l.length:Int))=true→Ob True∧True∧Ob (isTrue (Value.bool true) [AObj.ro (List.map (Value.int IntKind.i64) l)]))∧(decide ((10:Int)<(l.length:Int))=false→Ob ((List.take l.length (List.drop 0 (List.map (Value.int IntKind.i64) l))=List.map (Value.int IntKind.i64) (List.take l.length (List.drop 0 (intsOf (List.map (Value.int IntKind.i64) l))))∧0+l.length≤(List.map (Value.int IntKind.i64) l).length∧true=true)∧(List.take l.length (List.drop 0 (intsOf (List.map (Value.int IntKind.i64) l)))).length≤1000000∧errC (List.take l.length (List.drop 0 (intsOf (List.map (Value.int IntKind.i64) l))))≠(0:Int))∧Ob ((List.take l.length (List.drop 0 (List.map (Value.int IntKind.i64) l))=List.map (Value.int IntKind.i64) (List.take l.length (List.drop 0 (intsOf (List.map (Value.int IntKind.i64) l))))∧0+l.length≤(List.map (Value.int IntKind.i64) l).length∧true=true)∧(List.take l.length (List.drop 0 (intsOf (List.map (Value.int IntKind.i64) l)))).length≤1000000∧errC (List.take l.length (List.drop 0 (intsOf (List.map (Value.int IntKind.i64) l))))≠(0:Int))∧Ob ((List.take l.length (List.drop 0 (List.map (Value.int IntKind.i64) l))=List.map (Value.int IntKind.i64) (List.take l.length (List.drop 0 (intsOf (List.map (Value.int IntKind.i64) l))))∧0+l.length≤(List.map (Value.int IntKind.i64) l).length∧true=true)∧(List.take l.length (List.drop 0 (intsOf (List.map (Value.int IntKind.i64) l)))).length≤1000000)∧Ob ((List.take l.length (List.drop 0 (List.map (Value.int IntKind.i64) l))=List.map (Value.int IntKind.i64) (List.take l.length (List.drop 0 (intsOf (List.map (Value.int IntKind.i64) l))))∧0+l.length≤(List.map (Value.int IntKind.i64) l).length∧true=true)∧(List.take l.length (List.drop 0 (intsOf (List.map (Value.int IntKind.i64) l)))).length≤1000000)∧Ob ((List.take l.length (List.drop 0 (List.map (Value.int IntKind.i64) l))=List.map (Value.int IntKind.i64) (List.take l.length (List.drop 0 (intsOf (List.map (Value.int IntKind.i64) l))))∧0+l.length≤(List.map (Value.int IntKind.i64) l).length∧true=true)∧(List.take l.length (List.drop 0 (intsOf (List.map (Value.int IntKind.i64) l)))).length≤1000000)∧Ob ((List.take l.length (List.drop 0 (List.map (Value.int IntKind.i64) l))=List.map (Value.int IntKind.i64) (List.take l.length (List.drop 0 (intsOf (List.map (Value.int IntKind.i64) l))))∧0+l.length≤(List.map (Value.int IntKind.i64) l).length∧true=true)∧(List.take l.length (List.drop 0 (intsOf (List.map (Value.int IntKind.i64) l)))).length≤1000000)∧Ob True∧(true=true→((errC (List.take l.length (List.drop 0 (intsOf (List.map (Value.int IntKind.i64) l))))==errC (List.take l.length (List.drop 0 (intsOf (List.map (Value.int IntKind.i64) l)))))=true→((gtV (List.take l.length (List.drop 0 (intsOf (List.map (Value.int IntKind.i64) l))))==gtV (List.take l.length (List.drop 0 (intsOf (List.map (Value.int IntKind.i64) l)))))=true→((gtE (List.take l.length (List.drop 0 (intsOf (List.map (Value.int IntKind.i64) l))))==gtE (List.take l.length (List.drop 0 (intsOf (List.map (Value.int IntKind.i64) l)))))=true→((mnV (List.take l.length (List.drop 0 (intsOf (List.map (Value.int IntKind.i64) l))))==mnV (List.take l.length (List.drop 0 (intsOf (List.map (Value.int IntKind.i64) l)))))=true→((mnE (List.take l.length (List.drop 0 (intsOf (List.map (Value.int IntKind.i64) l))))==mnE (List.take l.length (List.drop 0 (intsOf (List.map (Value.int IntKind.i64) l)))))=true→Ob True∧True∧Ob (isTrue (Value.bool true) [AObj.ro (List.map (Value.int IntKind.i64) l)]))∧((mnE (List.take l.length (List.drop 0 (intsOf (List.map (Value.int IntKind.i64) l))))==mnE (List.take l.length (List.drop 0 (intsOf (List.map (Value.int IntKind.i64) l)))))=false→True∧Ob (isTrue (Value.bool false) [AObj.ro (List.map (Value.int IntKind.i64) l)])))∧((mnV (List.take l.length (List.drop 0 (intsOf (List.map (Value.int IntKind.i64) l))))==mnV (List.take l.length (List.drop 0 (intsOf (List.map (Value.int IntKind.i64) l)))))=false→True∧Ob (isTrue (Value.bool false) [AObj.ro (List.map (Value.int IntKind.i64) l)])))∧((gtE (List.take l.length (List.drop 0 (intsOf (List.map (Value.int IntKind.i64) l))))==gtE (List.take l.length (List.drop 0 (intsOf (List.map (Value.int IntKind.i64) l)))))=false→True∧Ob (isTrue (Value.bool false) [AObj.ro (List.map (Value.int IntKind.i64) l)])))∧((gtV (List.take l.length (List.drop 0 (intsOf (List.map (Value.int IntKind.i64) l))))==gtV (List.take l.length (List.drop 0 (intsOf (List.map (Value.int IntKind.i64) l)))))=false→True∧Ob (isTrue (Value.bool false) [AObj.ro (List.map (Value.int IntKind.i64) l)])))∧((errC (List.take l.length (List.drop 0 (intsOf (List.map (Value.int IntKind.i64) l))))==errC (List.take l.length (List.drop 0 (intsOf (List.map (Value.int IntKind.i64) l)))))=false→True∧Ob (isTrue (Value.bool false) [AObj.ro (List.map (Value.int IntKind.i64) l)])))∧(true=false→True∧Ob (isTrue (Value.bool false) [AObj.ro (List.map (Value.int IntKind.i64) l)])))
theorem seV_eq : seV = fun (l : List Int) (c : Nat) => vc Try.prog seE 1 79 true (fun _ => none) sqB [] (argFr 0 [.slice (some ⟨0,0,none⟩) l.length c]) [ros l] (retK Try.prog Try.f7 isTrue) := by kernel_rfl
noncomputable def seN :=
fun (x:Unit)↦(false=true→Ob True∧True∧Ob (isTrue (Value.bool true) []))∧(false=false→Ob True∧Ob True∧Ob True∧Ob True∧Ob True∧Ob True∧Ob True∧(true=true→(true=true→(true=true→(true=true→(true=true→(true=true→Ob True∧True∧Ob (isTrue (Value.bool true) []))∧(true=false→True∧Ob (isTrue (Value.bool false) [])))∧(true=false→True∧Ob (isTrue (Value.bool false) [])))∧(true=false→True∧Ob (isTrue (Value.bool false) [])))∧(true=false→True∧Ob (isTrue (Value.bool false) [])))∧(true=false→True∧Ob (isTrue (Value.bool false) [])))∧(true=false→True∧Ob (isTrue (Value.bool false) [])))
theorem seN_eq : seN = fun (_ : Unit) => vc Try.prog seE 0 79 true (fun _ => none) sqB [] (argFr 0 [.slice none 0 0]) [] (retK Try.prog Try.f7 isTrue) := by kernel_rfl
noncomputable def seH :=
fun (s:Option Nat) (c:Nat)↦(false=true→Ob True∧True∧Ob (isTrue (Value.bool true) [AObj.gone]))∧(false=false→Ob True∧Ob True∧Ob True∧Ob True∧Ob True∧Ob True∧Ob True∧(true=true→(true=true→(true=true→(true=true→(true=true→(true=true→Ob True∧True∧Ob (isTrue (Value.bool true) [AObj.gone]))∧(true=false→True∧Ob (isTrue (Value.bool false) [AObj.gone])))∧(true=false→True∧Ob (isTrue (Value.bool false) [AObj.gone])))∧(true=false→True∧Ob (isTrue (Value.bool false) [AObj.gone])))∧(true=false→True∧Ob (isTrue (Value.bool false) [AObj.gone])))∧(true=false→True∧Ob (isTrue (Value.bool false) [AObj.gone])))∧(true=false→True∧Ob (isTrue (Value.bool false) [AObj.gone])))
theorem seH_eq : seH = fun (s : Option Nat) (c : Nat) => vc Try.prog seE 1 79 true (fun _ => none) sqB [] (argFr 0 [.slice (some ⟨0,0,s⟩) 0 c]) [.gone] (retK Try.prog Try.f7 isTrue) := by kernel_rfl
theorem eq_no {l m : List Int} (h : l ≠ m) : false = (l == m) := by
 cases e : l == m with
 | false => rfl
 | true => exact absurd (eq_of_beq e) h
theorem eq_all {l m : List Int} (hl : l.length = m.length) (h : ∀ j,j < l.length→l.getD j 0 = m.getD j 0) : l = m := by
 refine List.ext_getElem hl fun j h1 h2 => ?_
 have := h j h1
 rw [List.getD_eq_getElem?_getD,List.getElem?_eq_getElem h1,List.getD_eq_getElem?_getD,List.getElem?_eq_getElem h2] at this
 exact this
theorem lsVV_ok (l : List Int) (c : Nat) (m : List Int) (d : Nat) (hl : l.length≤1000) : lsVV l c m d := by
 unfold lsVV
 simp only [SS,reduceCtorEq,Arg.list,Arg.num,Arg.flag,intOf,andP,Nat.reduceLeDiff,Nat.reduceAdd,Nat.reduceMul,Nat.reduceLT]
 refine ⟨fun h => eq_no fun e => h (by rw [e]),fun h => ⟨⟨0,⟨by omega,fun j hj => by omega⟩,rfl⟩,fun x hx => ⟨fun h1 => ⟨by omega,by omega,by omega,by omega,fun h2 => eq_no fun e => h2 (by rw [e]),fun h2 => ⟨x + 1,⟨by omega,fun j hj => ?_⟩,by omega,wrap_succ (n := 9999) (by omega) (by omega)⟩⟩,fun h1 => ?_⟩⟩⟩
 · by_cases e : j = x
   · rw [e]; exact h2
   · exact hx.2 j (by omega)
 · rw [eq_all (l := l) (m := m) (by omega) fun j hj => hx.2 j (by omega)]
   exact (beq_self_eq_true m).symm
theorem lsNN_ok (u : Unit) : lsNN u := by
 unfold lsNN
 simp only [SS,reduceCtorEq,Arg.list,Arg.num,Arg.flag,intOf,andP,Nat.reduceLeDiff,Nat.reduceAdd,Nat.reduceMul,Nat.reduceLT]
theorem lsG_ok : ∀ args H φ v H' l,pureG [.ints .i64,.ints .i64] lsS args H = some (φ,v,H',l)→Asks φ→Call Try.prog 30 args H (fun v' H2 => v' = v∧H2 = H')∧Kept H H' l :=
 pureG_ok fun r hk hs => match r,hk with
   | [_,_],⟨h1,h2,_⟩ => by
     rcases h1 with rfl | ⟨s,rfl⟩ | ⟨l,rfl⟩ <;> rcases h2 with rfl | ⟨t,rfl⟩ | ⟨m,rfl⟩
     · exact ⟨rfl,fun caps => Call.ofVc E0_ok mixed (c := lsB) (inv := invOf 0 (LInv.one Unit (fun _ => True) (fun _ => [(0,.slice none 0 0),(1,.slice none 0 0),(5,vi 0)]) (fun _ => []) (fun _ => 1))) Try.func30 (by kernel_rfl) (cast (congrFun lsNN_eq ()) (lsNN_ok ()))⟩
     · exact hs.elim
     · exact hs.elim
     · exact hs.elim
     · exact hs.elim
     · exact hs.elim
     · exact hs.elim
     · exact hs.elim
     · exact ⟨rfl,fun caps => Call.ofVc E0_ok mixed (c := lsB) (inv := lsI l m (caps 0) (caps 1)) Try.func30 (by kernel_rfl) (cast (congrFun (congrFun (congrFun (congrFun lsVV_eq l) (caps 0)) m) (caps 1)) (lsVV_ok l _ m _ hs))⟩
theorem qrV_ok (l : List Int) (c : Nat) (hc : Coins l) : qrV l c := by
 unfold qrV
 simp only [SS,reduceCtorEq,Arg.list,Arg.num,Arg.flag,intOf,andP,Nat.reduceLeDiff,Nat.reduceAdd,Nat.reduceMul,Nat.reduceLT,nm_sl,wS]
 have := hc.few
 exact ⟨by omega,fun h => h (errC_ok.2 hc),fun _ => ok_view hc⟩
theorem qrW_ok (l : List Int) (c : Nat) (hl : l.length≤1000000) (h : errC l ≠ 0) : qrW l c := by
 unfold qrW
 simp only [SS,reduceCtorEq,Arg.list,Arg.num,Arg.flag,intOf,andP,Nat.reduceLeDiff,Nat.reduceAdd,Nat.reduceMul,Nat.reduceLT,nm_sl,wS]
 exact ⟨hl,fun _ => hl,fun h2 => absurd h2 h⟩
theorem qrN_ok (u : Unit) : qrN u := by
 unfold qrN
 simp only [SS,reduceCtorEq,Arg.list,Arg.num,Arg.flag,intOf,andP,Nat.reduceLeDiff,Nat.reduceAdd,Nat.reduceMul,Nat.reduceLT]
theorem qrH_ok (s : Option Nat) (c : Nat) : qrH s c := by
 unfold qrH
 simp only [SS,reduceCtorEq,Arg.list,Arg.num,Arg.flag,intOf,andP,Nat.reduceLeDiff,Nat.reduceAdd,Nat.reduceMul,Nat.reduceLT]
theorem rtW_ok (l : List Int) (c : Nat) (hl : l.length≤1000000) (h : errC l ≠ 0) : rtW l c := by
 unfold rtW
 simp only [SS,reduceCtorEq,Arg.list,Arg.num,Arg.flag,intOf,andP,Nat.reduceLeDiff,Nat.reduceAdd,Nat.reduceMul,Nat.reduceLT,til_sc,nm_sl]
 exact ⟨hl,fun h1 h2 => h1 h2,fun h2 => absurd h2 h⟩
theorem rtN_ok (u : Unit) : rtN u := by
 unfold rtN
 simp only [SS,reduceCtorEq,Arg.list,Arg.num,Arg.flag,intOf,andP,Nat.reduceLeDiff,Nat.reduceAdd,Nat.reduceMul,Nat.reduceLT]
theorem rtH_ok (s : Option Nat) (c : Nat) : rtH s c := by
 unfold rtH
 simp only [SS,reduceCtorEq,Arg.list,Arg.num,Arg.flag,intOf,andP,Nat.reduceLeDiff,Nat.reduceAdd,Nat.reduceMul,Nat.reduceLT]
theorem sqV_ok (l : List Int) (c : Nat) (hc : Coins l) : sqV l c := by
 unfold sqV
 simp only [SS,reduceCtorEq,Arg.list,Arg.num,Arg.flag,intOf,andP,Nat.reduceLeDiff,Nat.reduceAdd,Nat.reduceMul,Nat.reduceLT,isTrue,nm_sl,wS]
 intro h
 have hf := fst_rng hc
 have hlen : (resF l).length = (fstF l).toNat := res_len
 exact ⟨ok_view hc,ok_view hc,by omega,by omega,by omega,by omega,by omega⟩
theorem seV_ok (l : List Int) (c : Nat) (h : errC l ≠ 0) : seV l c := by
 unfold seV
 simp only [SS,reduceCtorEq,Arg.list,Arg.num,Arg.flag,intOf,andP,Nat.reduceLeDiff,Nat.reduceAdd,Nat.reduceMul,Nat.reduceLT,isTrue]
 intro h2
 exact ⟨⟨by omega,h⟩,⟨by omega,h⟩,by omega,by omega,by omega,by omega⟩
theorem seN_ok (u : Unit) : seN u := by
 unfold seN
 simp only [SS,reduceCtorEq,Arg.list,Arg.num,Arg.flag,intOf,andP,Nat.reduceLeDiff,Nat.reduceAdd,Nat.reduceMul,Nat.reduceLT,isTrue]
theorem seH_ok (s : Option Nat) (c : Nat) : seH s c := by
 unfold seH
 simp only [SS,reduceCtorEq,Arg.list,Arg.num,Arg.flag,intOf,andP,Nat.reduceLeDiff,Nat.reduceAdd,Nat.reduceMul,Nat.reduceLT,isTrue]
theorem qr_call (l : List Int) (c : Nat) (hc : Coins l) : Call Try.prog 40 [.slice (some ⟨0,0,none⟩) l.length c] [ros l] fun v H' => v = .tuple #[wS 1 (resF l).length,vi 0]∧H' = [ros l] ++ [rws (resF l)] :=
 Call.ofVcR (E := roE) (H := [ros l]) (args := [.slice (some ⟨0,0,none⟩) l.length c]) (σ := nsub 1 1) (v2 := .tuple #[wS 1 (resF l).length,vi 0]) (H2 := [ros l,rws (resF l)]) roE_ok mixed (c := qrB) (inv := fun _ => none) Try.func40 (by kernel_rfl) (cast (congrFun (congrFun qrV_eq l) c) (qrV_ok l c hc))
theorem qrG_ok : ∀ args H φ v H' l,born3 [.one (.rows [.i .i64] false)] qrS args H = some (φ,v,H',l)→Asks φ→Call Try.prog 40 args H (fun v' H2 => v' = v∧H2 = H')∧Kept H H' l :=
 born3_ok fun r s hk hs hψ => match r,hk with
   | [.one x],⟨hx,_⟩ => by
     rcases hx with rfl | ⟨s,rfl⟩ | ⟨cs,n,rfl⟩
     · cases hs
     · cases hs
     · cases hs
       obtain ⟨k1,k2,k3⟩ := hψ
       have kl : (intsOf cs).length = n := by rw [intsOf,List.length_map]; exact k2
       have ke : AObj.ro cs = ros (intsOf cs) := by show AObj.ro cs = .ro ((intsOf cs).map (.int .i64)); rw [← k1]
       refine ⟨⟨plainNew_ints,fun ρ b ρ' c h => ?_,fun n => ?_⟩,fun caps hcaps => ?_⟩
       · obtain ⟨h1,h2,h3⟩ := h 0 (by simp)
         simp only [Nat.add_zero] at h1 h2 h3
         simp [ren,ren2,ren1,ren0,Ren.addr,Ren.adr,Ren.cap,wS,h1,h2,h3]
       · simp [sc,sc2,sc1,sc0,wS]
       · have h := qr_call (intsOf cs) (caps 0) k3
         rw [kl] at h
         have e : canonH3 [Arg3.one (Leaf.view cs n false)] = [ros (intsOf cs)] := by
           show [AObj.ro cs] = _
           rw [ke]
         rw [e]
         exact h
theorem qeG_ok : ∀ args H φ v H' l,pureG [.ints .i64] qeS args H = some (φ,v,H',l)→Asks φ→Call Try.prog 40 args H (fun v' H2 => v' = v∧H2 = H')∧Kept H H' l :=
 pureG_ok fun r hk hs => match r,hk with
   | [_],⟨hl,_⟩ => by
     rcases hl with rfl | ⟨s,rfl⟩ | ⟨l,rfl⟩
     · exact ⟨by simp [qeS,sc,sc2,sc1,sc0],fun caps => Call.ofVc roE_ok mixed (c := qrB) (inv := fun _ => none) Try.func40 (by kernel_rfl) (cast (congrFun qrN_eq ()) (qrN_ok ()))⟩
     · exact ⟨by simp [qeS,sc,sc2,sc1,sc0],fun caps => Call.ofVc roE_ok mixed (c := qrB) (inv := fun _ => none) Try.func40 (by kernel_rfl) (cast (congrFun (congrFun qrH_eq s) (caps 0)) (qrH_ok s _))⟩
     · exact ⟨by simp [qeS,sc,sc2,sc1,sc0],fun caps => Call.ofVc roE_ok mixed (c := qrB) (inv := fun _ => none) Try.func40 (by kernel_rfl) (cast (congrFun (congrFun qrW_eq l) (caps 0)) (qrW_ok l _ hs.1 hs.2))⟩
theorem qtG_ok : ∀ args H φ v H' l,pureG [.ints .i64] qeS args H = some (φ,v,H',l)→Asks φ→Call Try.prog 39 args H (fun v' H2 => v' = v∧H2 = H')∧Kept H H' l :=
 pureG_ok fun r hk hs => match r,hk with
   | [_],⟨hl,_⟩ => by
     rcases hl with rfl | ⟨s,rfl⟩ | ⟨l,rfl⟩
     · exact ⟨by simp [qeS,sc,sc2,sc1,sc0],fun caps => Call.ofVc anE'_ok mixed (c := rtB) (inv := fun _ => none) Try.func39 (by kernel_rfl) (cast (congrFun rtN_eq ()) (rtN_ok ()))⟩
     · exact ⟨by simp [qeS,sc,sc2,sc1,sc0],fun caps => Call.ofVc anE'_ok mixed (c := rtB) (inv := fun _ => none) Try.func39 (by kernel_rfl) (cast (congrFun (congrFun rtH_eq s) (caps 0)) (rtH_ok s _))⟩
     · exact ⟨by simp [qeS,sc,sc2,sc1,sc0],fun caps => Call.ofVc apE_ok mixed (c := rtB) (inv := fun _ => none) Try.func39 (by kernel_rfl) (cast (congrFun (congrFun rtW_eq l) (caps 0)) (rtW_ok l _ hs.1 hs.2))⟩
theorem sqT_ok : CtOk Try.prog sqT := (((((CtOk.none.add worksG_ok).add gtG_ok).add rgG_ok).add mnG_ok).add rmG_ok).add lsG_ok
theorem sqE_ok : VOk Try.prog sqE := ⟨(sqT_ok.add rtG_ok).add qrG_ok,ccIn_ok E0_ok mixed (inl_one Try.func18),E0_ok.yc,E0_ok.orc⟩
theorem seE_ok : VOk Try.prog seE := ⟨(sqT_ok.add qtG_ok).add qeG_ok,ccIn_ok E0_ok mixed (inl_one Try.func18),E0_ok.yc,E0_ok.orc⟩
theorem rests_small (r : List Arg) (hr : fitsAll [.ints .i64] r) (caps : Nat→Nat) : Call Try.prog 7 (canonA caps 0 r) (canonH r) isTrue := match r,hr with
 | [_],⟨hl,_⟩ => by
   rcases hl with rfl | ⟨s,rfl⟩ | ⟨l,rfl,_,_,_⟩
   · exact Call.ofVc seE_ok mixed (c := sqB) (inv := fun _ => none) Try.func7 (by kernel_rfl) (cast (congrFun seN_eq ()) (seN_ok ()))
   · exact Call.ofVc seE_ok mixed (c := sqB) (inv := fun _ => none) Try.func7 (by kernel_rfl) (cast (congrFun (congrFun seH_eq s) (caps 0)) (seH_ok s (caps 0)))
   · by_cases h : errC l = 0
     · exact Call.ofVc sqE_ok mixed (c := sqB) (inv := fun _ => none) Try.func7 (by kernel_rfl) (cast (congrFun (congrFun sqV_eq l) (caps 0)) (sqV_ok l (caps 0) (errC_ok.1 h)))
     · exact Call.ofVc seE_ok mixed (c := sqB) (inv := fun _ => none) Try.func7 (by kernel_rfl) (cast (congrFun (congrFun seV_eq l) (caps 0)) (seV_ok l (caps 0) h))
theorem rests_law {K : Type} : ∀ (H : Heap) (avs : List Value) (ds : List (DataW K)),Still H→ReadsAll Try.prog H Try.f7.params.toList avs ds→Call Try.prog 7 avs H fun v _ => v = .bool true :=
 law_of (ps := [.ints .i64]) (by kernel_rfl) rests_small
end Go.Pier.Fl
