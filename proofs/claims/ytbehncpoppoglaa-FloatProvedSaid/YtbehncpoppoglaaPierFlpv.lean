import Derived.Test.YtbehncpoppoglaaPierKP6
import Derived.Test.YtbehncpoppoglaaPierNH
import Derived.KernelRfl
set_option linter.unusedSimpArgs false
set_option linter.unusedVariables false
set_option maxRecDepth 100000
namespace Go.Pier.Fl
open Go Go.Pier Go.Proofs
noncomputable def pvT : Ct := (((((((Ct.none.add 19 (pureG [] worksS)).add 49 (pureG [.ints .i64] fnS)).add 50 (pureG [.int .u16] atS)).add 51 (pureG [.ints .i64,.int .i64] pdS)).add 31 (born3 [.one (.rows [.i .i64] false),.one (.int .i64)] hoS)).add 20 (pureG [.ints .i64,.ints .i64] rkS)).add 33 (pureG [.ints .i64,.ints .i64] hrS)).add 34 (pureG [.ints .i64,.ints .i64] hrS)
noncomputable def pvE : VEnv := { ct := pvT,cc := ccIn Try.prog {} [⟨18,Try.f18,fun _ _ _ => none⟩] }
noncomputable def pvB : Code := Try.f9.body.getD .skip
noncomputable def pvK : KD := retK Try.prog Try.f9 isTrue
noncomputable def pxNN0 (l:List Int) (w:Int) := (List.map (Value.int IntKind.i64) (hL (intsOf (List.map (Value.int IntKind.i64) l)) (amt w).toNat))
noncomputable def pxNN1 (l:List Int) := (List.take l.length (List.drop 0 (intsOf (List.map (Value.int IntKind.i64) l))))
noncomputable def pxNN2 (l:List Int) := (List.map (Value.int IntKind.i64) l)
noncomputable def pxNN3  : Prop := (Value.slice none (0 : Nat) (0 : Nat) = Value.slice none (0 : Nat) (0 : Nat))
noncomputable def pxNN4 (l:List Int) (w:Int):Prop := (((List.take l.length (List.drop 0 (pxNN2 l))=List.map (Value.int IntKind.i64) (pxNN1 l)∧0+l.length≤(pxNN2 l).length∧true=true)∧List.take ((amt w).toNat+1) (List.drop 0 (pxNN0 l w))=List.map (Value.int IntKind.i64) (List.take ((amt w).toNat+1) (List.drop 0 (intsOf (pxNN0 l w))))∧0+((amt w).toNat+1)≤(pxNN0 l w).length∧true=true)∧(pxNN1 l).length≤1000000)
noncomputable def pxNN5 (l:List Int) (w:Int) := (isTrue (Value.bool false) [AObj.ro (pxNN2 l),AObj.rw (pxNN0 l w) none])
noncomputable def pxNN6 (l:List Int) (w:Int):Bool := (heE (pxNN1 l) (List.take ((amt w).toNat+1) (List.drop 0 (intsOf (pxNN0 l w)))) !=(0:Int))
noncomputable def pxNN7 (w:Int) := (0+(amt w).toNat * 1)
noncomputable def pxNN8 (l:List Int) (c:Nat):Prop := (Value.slice (some (ad0 0)) l.length c=Value.slice (some (ad0 0)) l.length c)
noncomputable def pxNN9 (l:List Int):Prop := (List.take l.length (List.drop 0 (pxNN2 l))=List.map (Value.int IntKind.i64) (pxNN1 l)∧0+l.length≤(pxNN2 l).length∧true=true)
noncomputable def pxNN10 (w:Int) := (↑((amt w).toNat+1):Int)
noncomputable def pxNN11 (l:List Int) (w:Int):List AObj := [AObj.ro (pxNN2 l),AObj.rw (pxNN0 l w) none]
noncomputable def pxNN12 (l:List Int) (w:Int):Bool := (getI (pxNN0 l w) (pxNN7 w) !=(1000:Int))
noncomputable def pxNN13 (l:List Int) := (isTrue (Value.bool true) [AObj.ro (pxNN2 l)])
noncomputable def pxNN :=
fun (l:List Int) (c:Nat) (w:Int)↦Ob ((pxNN9 l)∧True)∧((!errC (pxNN1 l)==(0:Int))=false→(false=false→(false=true→Ob True∧True∧Ob (pxNN13 l))∧(false=false→Ob ((0:Int)≤w∧w<(65536:Int))∧Ob ((pxNN9 l)∧Coins (pxNN1 l)∧(0:Int)≤amt w∧amt w≤(300:Int))∧Ob ((true=true∧Flat (pxNN2 l))∧okW (amt w) (Leaf.view (pxNN2 l) l.length false))∧(false=false→(false=false→(((pxNN10 w) !=IntKind.i64.wrap (amt w+(1:Int)))=false→Ob (pxNN4 l w)∧((pxNN6 l w)=false→Ob (pxNN4 l w)∧((pxNN6 l w)=true→True∧Ob (pxNN5 l w))∧((pxNN6 l w)=false→(canB (pxNN1 l) (amt w).toNat=true→Ob ((0:Int)≤amt w∧amt w<(pxNN10 w)∧true=true)∧Ob (IntAt IntKind.i64 (pxNN0 l w) (pxNN7 w))∧((getI (pxNN0 l w) (pxNN7 w) !=fewF (pxNN1 l) (amt w))=false→((!canB (pxNN1 l) (amt w).toNat)=true→Ob ((0:Int)≤amt w∧amt w<(pxNN10 w)∧true=true)∧Ob (IntAt IntKind.i64 (pxNN0 l w) (pxNN7 w))∧((pxNN12 l w)=true→True∧Ob (pxNN5 l w))∧((pxNN12 l w)=false→∃ (y:Unit),Ob (errC l=(0:Int))∧Ob (objsOk (fun (b:Nat)↦b) (pxNN11 l w) 1 0 [AObj.ro (pxNN2 l)])∧Ob (pxNN8 l c)∧Ob pxNN3∧Ob pxNN3∧True))∧((!canB (pxNN1 l) (amt w).toNat)=false→∃ (y:Unit),Ob (errC l=(0:Int))∧Ob (objsOk (fun (b:Nat)↦b) (pxNN11 l w) 1 0 [AObj.ro (pxNN2 l)])∧Ob (pxNN8 l c)∧Ob pxNN3∧Ob pxNN3∧True))∧((getI (pxNN0 l w) (pxNN7 w) !=fewF (pxNN1 l) (amt w))=true→True∧Ob (pxNN5 l w)))∧(canB (pxNN1 l) (amt w).toNat=false→((!canB (pxNN1 l) (amt w).toNat)=true→Ob ((0:Int)≤amt w∧amt w<(pxNN10 w)∧true=true)∧Ob (IntAt IntKind.i64 (pxNN0 l w) (pxNN7 w))∧((pxNN12 l w)=true→True∧Ob (pxNN5 l w))∧((pxNN12 l w)=false→∃ (y:Unit),Ob (errC l=(0:Int))∧Ob (objsOk (fun (b:Nat)↦b) (pxNN11 l w) 1 0 [AObj.ro (pxNN2 l)])∧Ob (pxNN8 l c)∧Ob pxNN3∧Ob pxNN3∧True))∧((!canB (pxNN1 l) (amt w).toNat)=false→∃ (y:Unit),Ob (errC l=(0:Int))∧Ob (objsOk (fun (b:Nat)↦b) (pxNN11 l w) 1 0 [AObj.ro (pxNN2 l)])∧Ob (pxNN8 l c)∧Ob pxNN3∧Ob pxNN3∧True))))∧((pxNN6 l w)=true→True∧Ob (pxNN5 l w)))∧(((pxNN10 w) !=IntKind.i64.wrap (amt w+(1:Int)))=true→True∧Ob (pxNN5 l w)))∧(false=true→True∧Ob (pxNN5 l w)))∧(false=true→True∧Ob (pxNN5 l w))))∧(false=true→Ob True∧True∧Ob (pxNN13 l)))∧((!errC (pxNN1 l)==(0:Int))=true→Ob True∧True∧Ob (pxNN13 l))
theorem pxNN_eq : pxNN = fun (l : List Int) (c : Nat) (w : Int) => vc Try.prog pvE 1 160 true (fun _ => none) (headC 6 pvB) [] (argFr 0 [.slice (some ⟨0,0,none⟩) l.length c,.slice none 0 0,.slice none 0 0,.int .u16 w]) [ros l] (cutO 1 (fun b => b) (fun _ : Unit => errC l = 0) (fun _ => [(0,.slice (some ⟨0,0,none⟩) l.length c),(1,.slice none 0 0),(2,.slice none 0 0)]) (fun _ => [ros l]) pvK) := by kernel_rfl
noncomputable def pxNX0 (l:List Int) (w:Int) := (List.map (Value.int IntKind.i64) (hL (intsOf (List.map (Value.int IntKind.i64) l)) (amt w).toNat))
noncomputable def pxNX1 (l:List Int) := (List.take l.length (List.drop 0 (intsOf (List.map (Value.int IntKind.i64) l))))
noncomputable def pxNX2 (l:List Int) := (List.map (Value.int IntKind.i64) l)
noncomputable def pxNX3 (l:List Int) (w:Int):Prop := (((List.take l.length (List.drop 0 (pxNX2 l))=List.map (Value.int IntKind.i64) (pxNX1 l)∧0+l.length≤(pxNX2 l).length∧true=true)∧List.take ((amt w).toNat+1) (List.drop 0 (pxNX0 l w))=List.map (Value.int IntKind.i64) (List.take ((amt w).toNat+1) (List.drop 0 (intsOf (pxNX0 l w))))∧0+((amt w).toNat+1)≤(pxNX0 l w).length∧true=true)∧(pxNX1 l).length≤1000000)
noncomputable def pxNX4 (l:List Int) (q:AObj) (w:Int) := (isTrue (Value.bool false) [AObj.ro (pxNX2 l),q,AObj.rw (pxNX0 l w) none])
noncomputable def pxNX5 (u:Option Nat) (k:Nat) (e:Nat):Prop := (Value.slice (some ⟨1,0,u⟩) k e=Value.slice (some ⟨1,0,u⟩) k e)
noncomputable def pxNX6 (l:List Int) (w:Int):Bool := (heE (pxNX1 l) (List.take ((amt w).toNat+1) (List.drop 0 (intsOf (pxNX0 l w)))) !=(0:Int))
noncomputable def pxNX7 (w:Int) := (0+(amt w).toNat * 1)
noncomputable def pxNX8  : Prop := (Value.slice none (0 : Nat) (0 : Nat) = Value.slice none (0 : Nat) (0 : Nat))
noncomputable def pxNX9 (l:List Int) (c:Nat):Prop := (Value.slice (some (ad0 0)) l.length c=Value.slice (some (ad0 0)) l.length c)
noncomputable def pxNX10 (l:List Int):Prop := (List.take l.length (List.drop 0 (pxNX2 l))=List.map (Value.int IntKind.i64) (pxNX1 l)∧0+l.length≤(pxNX2 l).length∧true=true)
noncomputable def pxNX11 (w:Int) := (↑((amt w).toNat+1):Int)
noncomputable def pxNX12 (l:List Int) (w:Int):Bool := (getI (pxNX0 l w) (pxNX7 w) !=(1000:Int))
noncomputable def pxNX13 (l:List Int) (q:AObj) (w:Int):List AObj := [AObj.ro (pxNX2 l),q,AObj.rw (pxNX0 l w) none]
noncomputable def pxNX :=
fun (l:List Int) (c:Nat) (u:Option Nat) (k e:Nat) (q:AObj) (w:Int)↦Ob ((pxNX10 l)∧True)∧((!errC (pxNX1 l)==(0:Int))=false→(false=false→(decide ((320:Int)<(k:Int))=true→Ob True∧True∧Ob (isTrue (Value.bool true) [AObj.ro (pxNX2 l),q]))∧(decide ((320:Int)<(k:Int))=false→Ob ((0:Int)≤w∧w<(65536:Int))∧Ob ((pxNX10 l)∧Coins (pxNX1 l)∧(0:Int)≤amt w∧amt w≤(300:Int))∧Ob ((true=true∧Flat (pxNX2 l))∧okW (amt w) (Leaf.view (pxNX2 l) l.length false))∧(false=false→(false=false→(((pxNX11 w) !=IntKind.i64.wrap (amt w+(1:Int)))=false→Ob (pxNX3 l w)∧((pxNX6 l w)=false→Ob (pxNX3 l w)∧((pxNX6 l w)=true→True∧Ob (pxNX4 l q w))∧((pxNX6 l w)=false→(canB (pxNX1 l) (amt w).toNat=true→Ob ((0:Int)≤amt w∧amt w<(pxNX11 w)∧true=true)∧Ob (IntAt IntKind.i64 (pxNX0 l w) (pxNX7 w))∧((getI (pxNX0 l w) (pxNX7 w) !=fewF (pxNX1 l) (amt w))=false→((!canB (pxNX1 l) (amt w).toNat)=true→Ob ((0:Int)≤amt w∧amt w<(pxNX11 w)∧true=true)∧Ob (IntAt IntKind.i64 (pxNX0 l w) (pxNX7 w))∧((pxNX12 l w)=true→True∧Ob (pxNX4 l q w))∧((pxNX12 l w)=false→∃ (y:Unit),Ob (errC l=(0:Int))∧Ob (objsOk (fun (b:Nat)↦b) (pxNX13 l q w) 2 0 [AObj.ro (pxNX2 l),q])∧Ob (pxNX9 l c)∧Ob pxNX8∧Ob (pxNX5 u k e)∧True))∧((!canB (pxNX1 l) (amt w).toNat)=false→∃ (y:Unit),Ob (errC l=(0:Int))∧Ob (objsOk (fun (b:Nat)↦b) (pxNX13 l q w) 2 0 [AObj.ro (pxNX2 l),q])∧Ob (pxNX9 l c)∧Ob pxNX8∧Ob (pxNX5 u k e)∧True))∧((getI (pxNX0 l w) (pxNX7 w) !=fewF (pxNX1 l) (amt w))=true→True∧Ob (pxNX4 l q w)))∧(canB (pxNX1 l) (amt w).toNat=false→((!canB (pxNX1 l) (amt w).toNat)=true→Ob ((0:Int)≤amt w∧amt w<(pxNX11 w)∧true=true)∧Ob (IntAt IntKind.i64 (pxNX0 l w) (pxNX7 w))∧((pxNX12 l w)=true→True∧Ob (pxNX4 l q w))∧((pxNX12 l w)=false→∃ (y:Unit),Ob (errC l=(0:Int))∧Ob (objsOk (fun (b:Nat)↦b) (pxNX13 l q w) 2 0 [AObj.ro (pxNX2 l),q])∧Ob (pxNX9 l c)∧Ob pxNX8∧Ob (pxNX5 u k e)∧True))∧((!canB (pxNX1 l) (amt w).toNat)=false→∃ (y:Unit),Ob (errC l=(0:Int))∧Ob (objsOk (fun (b:Nat)↦b) (pxNX13 l q w) 2 0 [AObj.ro (pxNX2 l),q])∧Ob (pxNX9 l c)∧Ob pxNX8∧Ob (pxNX5 u k e)∧True))))∧((pxNX6 l w)=true→True∧Ob (pxNX4 l q w)))∧(((pxNX11 w) !=IntKind.i64.wrap (amt w+(1:Int)))=true→True∧Ob (pxNX4 l q w)))∧(false=true→True∧Ob (pxNX4 l q w)))∧(false=true→True∧Ob (pxNX4 l q w))))∧(false=true→Ob True∧True∧Ob (isTrue (Value.bool true) [AObj.ro (pxNX2 l),q])))∧((!errC (pxNX1 l)==(0:Int))=true→Ob True∧True∧Ob (isTrue (Value.bool true) [AObj.ro (pxNX2 l),q]))
theorem pxNX_eq : pxNX = fun (l : List Int) (c : Nat) (u : Option Nat) (k e : Nat) (q : AObj) (w : Int) => vc Try.prog pvE 2 160 true (fun _ => none) (headC 6 pvB) [] (argFr 0 [.slice (some ⟨0,0,none⟩) l.length c,.slice none 0 0,.slice (some ⟨1,0,u⟩) k e,.int .u16 w]) [ros l,q] (cutO 2 (fun b => b) (fun _ : Unit => errC l = 0) (fun _ => [(0,.slice (some ⟨0,0,none⟩) l.length c),(1,.slice none 0 0),(2,.slice (some ⟨1,0,u⟩) k e)]) (fun _ => [ros l,q]) pvK) := by kernel_rfl
noncomputable def pxXN0 (l:List Int) (w:Int) := (List.map (Value.int IntKind.i64) (hL (intsOf (List.map (Value.int IntKind.i64) l)) (amt w).toNat))
noncomputable def pxXN1 (l:List Int) := (List.take l.length (List.drop 0 (intsOf (List.map (Value.int IntKind.i64) l))))
noncomputable def pxXN2 (l:List Int) := (List.map (Value.int IntKind.i64) l)
noncomputable def pxXN3 (l:List Int) (w:Int):Prop := (((List.take l.length (List.drop 0 (pxXN2 l))=List.map (Value.int IntKind.i64) (pxXN1 l)∧0+l.length≤(pxXN2 l).length∧true=true)∧List.take ((amt w).toNat+1) (List.drop 0 (pxXN0 l w))=List.map (Value.int IntKind.i64) (List.take ((amt w).toNat+1) (List.drop 0 (intsOf (pxXN0 l w))))∧0+((amt w).toNat+1)≤(pxXN0 l w).length∧true=true)∧(pxXN1 l).length≤1000000)
noncomputable def pxXN4 (l:List Int) (o:AObj) (w:Int) := (isTrue (Value.bool false) [AObj.ro (pxXN2 l),o,AObj.rw (pxXN0 l w) none])
noncomputable def pxXN5 (s:Option Nat) (n:Nat) (d:Nat):Prop := (Value.slice (some ⟨1,0,s⟩) n d=Value.slice (some ⟨1,0,s⟩) n d)
noncomputable def pxXN6 (l:List Int) (w:Int):Bool := (heE (pxXN1 l) (List.take ((amt w).toNat+1) (List.drop 0 (intsOf (pxXN0 l w)))) !=(0:Int))
noncomputable def pxXN7 (w:Int) := (0+(amt w).toNat * 1)
noncomputable def pxXN8  : Prop := (Value.slice none (0 : Nat) (0 : Nat) = Value.slice none (0 : Nat) (0 : Nat))
noncomputable def pxXN9 (l:List Int) (c:Nat):Prop := (Value.slice (some (ad0 0)) l.length c=Value.slice (some (ad0 0)) l.length c)
noncomputable def pxXN10 (l:List Int):Prop := (List.take l.length (List.drop 0 (pxXN2 l))=List.map (Value.int IntKind.i64) (pxXN1 l)∧0+l.length≤(pxXN2 l).length∧true=true)
noncomputable def pxXN11 (w:Int) := (↑((amt w).toNat+1):Int)
noncomputable def pxXN12 (l:List Int) (w:Int):Bool := (getI (pxXN0 l w) (pxXN7 w) !=(1000:Int))
noncomputable def pxXN13 (l:List Int) (o:AObj) (w:Int):List AObj := [AObj.ro (pxXN2 l),o,AObj.rw (pxXN0 l w) none]
noncomputable def pxXN :=
fun (l:List Int) (c:Nat) (s:Option Nat) (n d:Nat) (o:AObj) (w:Int)↦Ob ((pxXN10 l)∧True)∧((!errC (pxXN1 l)==(0:Int))=false→(decide ((10:Int)<(n:Int))=false→(false=true→Ob True∧True∧Ob (isTrue (Value.bool true) [AObj.ro (pxXN2 l),o]))∧(false=false→Ob ((0:Int)≤w∧w<(65536:Int))∧Ob ((pxXN10 l)∧Coins (pxXN1 l)∧(0:Int)≤amt w∧amt w≤(300:Int))∧Ob ((true=true∧Flat (pxXN2 l))∧okW (amt w) (Leaf.view (pxXN2 l) l.length false))∧(false=false→(false=false→(((pxXN11 w) !=IntKind.i64.wrap (amt w+(1:Int)))=false→Ob (pxXN3 l w)∧((pxXN6 l w)=false→Ob (pxXN3 l w)∧((pxXN6 l w)=true→True∧Ob (pxXN4 l o w))∧((pxXN6 l w)=false→(canB (pxXN1 l) (amt w).toNat=true→Ob ((0:Int)≤amt w∧amt w<(pxXN11 w)∧true=true)∧Ob (IntAt IntKind.i64 (pxXN0 l w) (pxXN7 w))∧((getI (pxXN0 l w) (pxXN7 w) !=fewF (pxXN1 l) (amt w))=false→((!canB (pxXN1 l) (amt w).toNat)=true→Ob ((0:Int)≤amt w∧amt w<(pxXN11 w)∧true=true)∧Ob (IntAt IntKind.i64 (pxXN0 l w) (pxXN7 w))∧((pxXN12 l w)=true→True∧Ob (pxXN4 l o w))∧((pxXN12 l w)=false→∃ (y:Unit),Ob (errC l=(0:Int)∧n≤10)∧Ob (objsOk (fun (b:Nat)↦b) (pxXN13 l o w) 2 0 [AObj.ro (pxXN2 l),o])∧Ob (pxXN9 l c)∧Ob (pxXN5 s n d)∧Ob pxXN8∧True))∧((!canB (pxXN1 l) (amt w).toNat)=false→∃ (y:Unit),Ob (errC l=(0:Int)∧n≤10)∧Ob (objsOk (fun (b:Nat)↦b) (pxXN13 l o w) 2 0 [AObj.ro (pxXN2 l),o])∧Ob (pxXN9 l c)∧Ob (pxXN5 s n d)∧Ob pxXN8∧True))∧((getI (pxXN0 l w) (pxXN7 w) !=fewF (pxXN1 l) (amt w))=true→True∧Ob (pxXN4 l o w)))∧(canB (pxXN1 l) (amt w).toNat=false→((!canB (pxXN1 l) (amt w).toNat)=true→Ob ((0:Int)≤amt w∧amt w<(pxXN11 w)∧true=true)∧Ob (IntAt IntKind.i64 (pxXN0 l w) (pxXN7 w))∧((pxXN12 l w)=true→True∧Ob (pxXN4 l o w))∧((pxXN12 l w)=false→∃ (y:Unit),Ob (errC l=(0:Int)∧n≤10)∧Ob (objsOk (fun (b:Nat)↦b) (pxXN13 l o w) 2 0 [AObj.ro (pxXN2 l),o])∧Ob (pxXN9 l c)∧Ob (pxXN5 s n d)∧Ob pxXN8∧True))∧((!canB (pxXN1 l) (amt w).toNat)=false→∃ (y:Unit),Ob (errC l=(0:Int)∧n≤10)∧Ob (objsOk (fun (b:Nat)↦b) (pxXN13 l o w) 2 0 [AObj.ro (pxXN2 l),o])∧Ob (pxXN9 l c)∧Ob (pxXN5 s n d)∧Ob pxXN8∧True))))∧((pxXN6 l w)=true→True∧Ob (pxXN4 l o w)))∧(((pxXN11 w) !=IntKind.i64.wrap (amt w+(1:Int)))=true→True∧Ob (pxXN4 l o w)))∧(false=true→True∧Ob (pxXN4 l o w)))∧(false=true→True∧Ob (pxXN4 l o w))))∧(decide ((10:Int)<(n:Int))=true→Ob True∧True∧Ob (isTrue (Value.bool true) [AObj.ro (pxXN2 l),o])))∧((!errC (pxXN1 l)==(0:Int))=true→Ob True∧True∧Ob (isTrue (Value.bool true) [AObj.ro (pxXN2 l),o]))
theorem pxXN_eq : pxXN = fun (l : List Int) (c : Nat) (s : Option Nat) (n d : Nat) (o : AObj) (w : Int) => vc Try.prog pvE 2 160 true (fun _ => none) (headC 6 pvB) [] (argFr 0 [.slice (some ⟨0,0,none⟩) l.length c,.slice (some ⟨1,0,s⟩) n d,.slice none 0 0,.int .u16 w]) [ros l,o] (cutO 2 (fun b => b) (fun _ : Unit => errC l = 0∧n≤10) (fun _ => [(0,.slice (some ⟨0,0,none⟩) l.length c),(1,.slice (some ⟨1,0,s⟩) n d),(2,.slice none 0 0)]) (fun _ => [ros l,o]) pvK) := by kernel_rfl
noncomputable def pxXX0 (l:List Int) (w:Int) := (List.map (Value.int IntKind.i64) (hL (intsOf (List.map (Value.int IntKind.i64) l)) (amt w).toNat))
noncomputable def pxXX1 (l:List Int) := (List.take l.length (List.drop 0 (intsOf (List.map (Value.int IntKind.i64) l))))
noncomputable def pxXX2 (l:List Int) := (List.map (Value.int IntKind.i64) l)
noncomputable def pxXX3 (l:List Int) (w:Int):Prop := (((List.take l.length (List.drop 0 (pxXX2 l))=List.map (Value.int IntKind.i64) (pxXX1 l)∧0+l.length≤(pxXX2 l).length∧true=true)∧List.take ((amt w).toNat+1) (List.drop 0 (pxXX0 l w))=List.map (Value.int IntKind.i64) (List.take ((amt w).toNat+1) (List.drop 0 (intsOf (pxXX0 l w))))∧0+((amt w).toNat+1)≤(pxXX0 l w).length∧true=true)∧(pxXX1 l).length≤1000000)
noncomputable def pxXX4 (l:List Int) (o:AObj) (q:AObj) (w:Int) := (isTrue (Value.bool false) [AObj.ro (pxXX2 l),o,q,AObj.rw (pxXX0 l w) none])
noncomputable def pxXX5 (s:Option Nat) (n:Nat) (d:Nat):Prop := (Value.slice (some ⟨1,0,s⟩) n d=Value.slice (some ⟨1,0,s⟩) n d)
noncomputable def pxXX6 (u:Option Nat) (k:Nat) (e:Nat):Prop := (Value.slice (some ⟨2,0,u⟩) k e=Value.slice (some ⟨2,0,u⟩) k e)
noncomputable def pxXX7 (l:List Int) (w:Int):Bool := (heE (pxXX1 l) (List.take ((amt w).toNat+1) (List.drop 0 (intsOf (pxXX0 l w)))) !=(0:Int))
noncomputable def pxXX8 (w:Int) := (0+(amt w).toNat * 1)
noncomputable def pxXX9 (l:List Int) (c:Nat):Prop := (Value.slice (some (ad0 0)) l.length c=Value.slice (some (ad0 0)) l.length c)
noncomputable def pxXX10 (l:List Int):Prop := (List.take l.length (List.drop 0 (pxXX2 l))=List.map (Value.int IntKind.i64) (pxXX1 l)∧0+l.length≤(pxXX2 l).length∧true=true)
noncomputable def pxXX11 (w:Int) := (↑((amt w).toNat+1):Int)
noncomputable def pxXX12 (l:List Int) (w:Int):Bool := (getI (pxXX0 l w) (pxXX8 w) !=(1000:Int))
noncomputable def pxXX13 (l:List Int) (o:AObj) (q:AObj) (w:Int):List AObj := [AObj.ro (pxXX2 l),o,q,AObj.rw (pxXX0 l w) none]
noncomputable def pxXX :=
fun (l:List Int) (c:Nat) (s:Option Nat) (n d:Nat) (o:AObj) (u:Option Nat) (k e:Nat) (q:AObj) (w:Int)↦Ob ((pxXX10 l)∧True)∧((!errC (pxXX1 l)==(0:Int))=false→(decide ((10:Int)<(n:Int))=false→(decide ((320:Int)<(k:Int))=true→Ob True∧True∧Ob (isTrue (Value.bool true) [AObj.ro (pxXX2 l),o,q]))∧(decide ((320:Int)<(k:Int))=false→Ob ((0:Int)≤w∧w<(65536:Int))∧Ob ((pxXX10 l)∧Coins (pxXX1 l)∧(0:Int)≤amt w∧amt w≤(300:Int))∧Ob ((true=true∧Flat (pxXX2 l))∧okW (amt w) (Leaf.view (pxXX2 l) l.length false))∧(false=false→(false=false→(((pxXX11 w) !=IntKind.i64.wrap (amt w+(1:Int)))=false→Ob (pxXX3 l w)∧((pxXX7 l w)=false→Ob (pxXX3 l w)∧((pxXX7 l w)=true→True∧Ob (pxXX4 l o q w))∧((pxXX7 l w)=false→(canB (pxXX1 l) (amt w).toNat=true→Ob ((0:Int)≤amt w∧amt w<(pxXX11 w)∧true=true)∧Ob (IntAt IntKind.i64 (pxXX0 l w) (pxXX8 w))∧((getI (pxXX0 l w) (pxXX8 w) !=fewF (pxXX1 l) (amt w))=false→((!canB (pxXX1 l) (amt w).toNat)=true→Ob ((0:Int)≤amt w∧amt w<(pxXX11 w)∧true=true)∧Ob (IntAt IntKind.i64 (pxXX0 l w) (pxXX8 w))∧((pxXX12 l w)=true→True∧Ob (pxXX4 l o q w))∧((pxXX12 l w)=false→∃ (y:Unit),Ob (errC l=(0:Int)∧n≤10)∧Ob (objsOk (fun (b:Nat)↦b) (pxXX13 l o q w) 3 0 [AObj.ro (pxXX2 l),o,q])∧Ob (pxXX9 l c)∧Ob (pxXX5 s n d)∧Ob (pxXX6 u k e)∧True))∧((!canB (pxXX1 l) (amt w).toNat)=false→∃ (y:Unit),Ob (errC l=(0:Int)∧n≤10)∧Ob (objsOk (fun (b:Nat)↦b) (pxXX13 l o q w) 3 0 [AObj.ro (pxXX2 l),o,q])∧Ob (pxXX9 l c)∧Ob (pxXX5 s n d)∧Ob (pxXX6 u k e)∧True))∧((getI (pxXX0 l w) (pxXX8 w) !=fewF (pxXX1 l) (amt w))=true→True∧Ob (pxXX4 l o q w)))∧(canB (pxXX1 l) (amt w).toNat=false→((!canB (pxXX1 l) (amt w).toNat)=true→Ob ((0:Int)≤amt w∧amt w<(pxXX11 w)∧true=true)∧Ob (IntAt IntKind.i64 (pxXX0 l w) (pxXX8 w))∧((pxXX12 l w)=true→True∧Ob (pxXX4 l o q w))∧((pxXX12 l w)=false→∃ (y:Unit),Ob (errC l=(0:Int)∧n≤10)∧Ob (objsOk (fun (b:Nat)↦b) (pxXX13 l o q w) 3 0 [AObj.ro (pxXX2 l),o,q])∧Ob (pxXX9 l c)∧Ob (pxXX5 s n d)∧Ob (pxXX6 u k e)∧True))∧((!canB (pxXX1 l) (amt w).toNat)=false→∃ (y:Unit),Ob (errC l=(0:Int)∧n≤10)∧Ob (objsOk (fun (b:Nat)↦b) (pxXX13 l o q w) 3 0 [AObj.ro (pxXX2 l),o,q])∧Ob (pxXX9 l c)∧Ob (pxXX5 s n d)∧Ob (pxXX6 u k e)∧True))))∧((pxXX7 l w)=true→True∧Ob (pxXX4 l o q w)))∧(((pxXX11 w) !=IntKind.i64.wrap (amt w+(1:Int)))=true→True∧Ob (pxXX4 l o q w)))∧(false=true→True∧Ob (pxXX4 l o q w)))∧(false=true→True∧Ob (pxXX4 l o q w))))∧(decide ((10:Int)<(n:Int))=true→Ob True∧True∧Ob (isTrue (Value.bool true) [AObj.ro (pxXX2 l),o,q])))∧((!errC (pxXX1 l)==(0:Int))=true→Ob True∧True∧Ob (isTrue (Value.bool true) [AObj.ro (pxXX2 l),o,q]))
theorem pxXX_eq : pxXX = fun (l : List Int) (c : Nat) (s : Option Nat) (n d : Nat) (o : AObj) (u : Option Nat) (k e : Nat) (q : AObj) (w : Int) => vc Try.prog pvE 3 160 true (fun _ => none) (headC 6 pvB) [] (argFr 0 [.slice (some ⟨0,0,none⟩) l.length c,.slice (some ⟨1,0,s⟩) n d,.slice (some ⟨2,0,u⟩) k e,.int .u16 w]) [ros l,o,q] (cutO 3 (fun b => b) (fun _ : Unit => errC l = 0∧n≤10) (fun _ => [(0,.slice (some ⟨0,0,none⟩) l.length c),(1,.slice (some ⟨1,0,s⟩) n d),(2,.slice (some ⟨2,0,u⟩) k e)]) (fun _ => [ros l,o,q]) pvK) := by kernel_rfl
noncomputable def pvNNN :=
fun (w:Int)↦Ob True∧(true=false→(false=false→(false=true→Ob True∧True∧Ob (isTrue (Value.bool true) []))∧(false=false→Ob ((0:Int)≤w∧w<(65536:Int))∧Ob False∧False))∧(false=true→Ob True∧True∧Ob (isTrue (Value.bool true) [])))∧(true=true→Ob True∧True∧Ob (isTrue (Value.bool true) []))
theorem pvNNN_eq : pvNNN = fun (w : Int) => vc Try.prog pvE 0 160 true (fun _ => none) pvB [] (argFr 0 [.slice none 0 0,.slice none 0 0,.slice none 0 0,.int .u16 w]) [] pvK := by kernel_rfl
noncomputable def pvNNX :=
fun (u:Option Nat) (k e:Nat) (q:AObj) (w:Int)↦Ob True∧(true=false→(false=false→(decide ((320:Int)<(k:Int))=true→Ob True∧True∧Ob (isTrue (Value.bool true) [q]))∧(decide ((320:Int)<(k:Int))=false→Ob ((0:Int)≤w∧w<(65536:Int))∧Ob False∧False))∧(false=true→Ob True∧True∧Ob (isTrue (Value.bool true) [q])))∧(true=true→Ob True∧True∧Ob (isTrue (Value.bool true) [q]))
theorem pvNNX_eq : pvNNX = fun (u : Option Nat) (k e : Nat) (q : AObj) (w : Int) => vc Try.prog pvE 1 160 true (fun _ => none) pvB [] (argFr 0 [.slice none 0 0,.slice none 0 0,.slice (some ⟨0,0,u⟩) k e,.int .u16 w]) [q] pvK := by kernel_rfl
noncomputable def pvNXN :=
fun (s:Option Nat) (n d:Nat) (o:AObj) (w:Int)↦Ob True∧(true=false→(decide ((10:Int)<(n:Int))=false→(false=true→Ob True∧True∧Ob (isTrue (Value.bool true) [o]))∧(false=false→Ob ((0:Int)≤w∧w<(65536:Int))∧Ob False∧False))∧(decide ((10:Int)<(n:Int))=true→Ob True∧True∧Ob (isTrue (Value.bool true) [o])))∧(true=true→Ob True∧True∧Ob (isTrue (Value.bool true) [o]))
theorem pvNXN_eq : pvNXN = fun (s : Option Nat) (n d : Nat) (o : AObj) (w : Int) => vc Try.prog pvE 1 160 true (fun _ => none) pvB [] (argFr 0 [.slice none 0 0,.slice (some ⟨0,0,s⟩) n d,.slice none 0 0,.int .u16 w]) [o] pvK := by kernel_rfl
noncomputable def pvNXX :=
fun (s:Option Nat) (n d:Nat) (o:AObj) (u:Option Nat) (k e:Nat) (q:AObj) (w:Int)↦Ob True∧(true=false→(decide ((10:Int)<(n:Int))=false→(decide ((320:Int)<(k:Int))=true→Ob True∧True∧Ob (isTrue (Value.bool true) [o,q]))∧(decide ((320:Int)<(k:Int))=false→Ob ((0:Int)≤w∧w<(65536:Int))∧Ob False∧False))∧(decide ((10:Int)<(n:Int))=true→Ob True∧True∧Ob (isTrue (Value.bool true) [o,q])))∧(true=true→Ob True∧True∧Ob (isTrue (Value.bool true) [o,q]))
theorem pvNXX_eq : pvNXX = fun (s : Option Nat) (n d : Nat) (o : AObj) (u : Option Nat) (k e : Nat) (q : AObj) (w : Int) => vc Try.prog pvE 2 160 true (fun _ => none) pvB [] (argFr 0 [.slice none 0 0,.slice (some ⟨0,0,s⟩) n d,.slice (some ⟨1,0,u⟩) k e,.int .u16 w]) [o,q] pvK := by kernel_rfl
noncomputable def pvHNN0  := (isTrue (Value.bool true) [AObj.gone])
noncomputable def pvHNN :=
fun (r:Option Nat) (c:Nat) (w:Int)↦Ob True∧(true=false→(false=false→(false=true→Ob True∧True∧Ob pvHNN0)∧(false=false→Ob ((0:Int)≤w∧w<(65536:Int))∧Ob False∧False))∧(false=true→Ob True∧True∧Ob pvHNN0))∧(true=true→Ob True∧True∧Ob pvHNN0)
theorem pvHNN_eq : pvHNN = fun (r : Option Nat) (c : Nat) (w : Int) => vc Try.prog pvE 1 160 true (fun _ => none) pvB [] (argFr 0 [.slice (some ⟨0,0,r⟩) 0 c,.slice none 0 0,.slice none 0 0,.int .u16 w]) [.gone] pvK := by kernel_rfl
noncomputable def pvHNX :=
fun (r:Option Nat) (c:Nat) (u:Option Nat) (k e:Nat) (q:AObj) (w:Int)↦Ob True∧(true=false→(false=false→(decide ((320:Int)<(k:Int))=true→Ob True∧True∧Ob (isTrue (Value.bool true) [AObj.gone,q]))∧(decide ((320:Int)<(k:Int))=false→Ob ((0:Int)≤w∧w<(65536:Int))∧Ob False∧False))∧(false=true→Ob True∧True∧Ob (isTrue (Value.bool true) [AObj.gone,q])))∧(true=true→Ob True∧True∧Ob (isTrue (Value.bool true) [AObj.gone,q]))
theorem pvHNX_eq : pvHNX = fun (r : Option Nat) (c : Nat) (u : Option Nat) (k e : Nat) (q : AObj) (w : Int) => vc Try.prog pvE 2 160 true (fun _ => none) pvB [] (argFr 0 [.slice (some ⟨0,0,r⟩) 0 c,.slice none 0 0,.slice (some ⟨1,0,u⟩) k e,.int .u16 w]) [.gone,q] pvK := by kernel_rfl
noncomputable def pvHXN :=
fun (r:Option Nat) (c:Nat) (s:Option Nat) (n d:Nat) (o:AObj) (w:Int)↦Ob True∧(true=false→(decide ((10:Int)<(n:Int))=false→(false=true→Ob True∧True∧Ob (isTrue (Value.bool true) [AObj.gone,o]))∧(false=false→Ob ((0:Int)≤w∧w<(65536:Int))∧Ob False∧False))∧(decide ((10:Int)<(n:Int))=true→Ob True∧True∧Ob (isTrue (Value.bool true) [AObj.gone,o])))∧(true=true→Ob True∧True∧Ob (isTrue (Value.bool true) [AObj.gone,o]))
theorem pvHXN_eq : pvHXN = fun (r : Option Nat) (c : Nat) (s : Option Nat) (n d : Nat) (o : AObj) (w : Int) => vc Try.prog pvE 2 160 true (fun _ => none) pvB [] (argFr 0 [.slice (some ⟨0,0,r⟩) 0 c,.slice (some ⟨1,0,s⟩) n d,.slice none 0 0,.int .u16 w]) [.gone,o] pvK := by kernel_rfl
noncomputable def pvHXX :=
fun (r:Option Nat) (c:Nat) (s:Option Nat) (n d:Nat) (o:AObj) (u:Option Nat) (k e:Nat) (q:AObj) (w:Int)↦Ob True∧(true=false→(decide ((10:Int)<(n:Int))=false→(decide ((320:Int)<(k:Int))=true→Ob True∧True∧Ob (isTrue (Value.bool true) [AObj.gone,o,q]))∧(decide ((320:Int)<(k:Int))=false→Ob ((0:Int)≤w∧w<(65536:Int))∧Ob False∧False))∧(decide ((10:Int)<(n:Int))=true→Ob True∧True∧Ob (isTrue (Value.bool true) [AObj.gone,o,q])))∧(true=true→Ob True∧True∧Ob (isTrue (Value.bool true) [AObj.gone,o,q]))
theorem pvHXX_eq : pvHXX = fun (r : Option Nat) (c : Nat) (s : Option Nat) (n d : Nat) (o : AObj) (u : Option Nat) (k e : Nat) (q : AObj) (w : Int) => vc Try.prog pvE 3 160 true (fun _ => none) pvB [] (argFr 0 [.slice (some ⟨0,0,r⟩) 0 c,.slice (some ⟨1,0,s⟩) n d,.slice (some ⟨2,0,u⟩) k e,.int .u16 w]) [.gone,o,q] pvK := by kernel_rfl
noncomputable def pbNN0 (l:List Int) := (List.take l.length (List.drop 0 (intsOf (List.map (Value.int IntKind.i64) l))))
noncomputable def pbNN1 (l:List Int) := (List.map (Value.int IntKind.i64) l)
noncomputable def pbNN :=
fun (l:List Int) (c:Nat)↦Ob ((List.take l.length (List.drop 0 (pbNN1 l))=List.map (Value.int IntKind.i64) (pbNN0 l)∧0+l.length≤(pbNN1 l).length∧true=true)∧(pbNN0 l).length≤1000000)∧((errK (pbNN0 l) [] !=(0:Int))=true→Ob True∧True∧Ob (isTrue (Value.bool true) [AObj.ro (pbNN1 l)]))∧((errK (pbNN0 l) [] !=(0:Int))=false→∃ (y:Unit),Ob False∧Ob (objsOk (fun (b:Nat)↦b) [AObj.ro (pbNN1 l)] 1 0 [AObj.ro (pbNN1 l)])∧Ob (Value.slice (some (ad0 0)) l.length c=Value.slice (some (ad0 0)) l.length c)∧Ob (Value.slice none 0 0=Value.slice none 0 0)∧Ob ((0:Int)=(0:Int))∧Ob ((0:Int)=(0:Int))∧True)
theorem pbNN_eq : pbNN = fun (l : List Int) (c : Nat) => vc Try.prog pvE 1 160 true (fun _ => none) (headC 1 (tailC 6 pvB)) [] [(0,.slice (some ⟨0,0,none⟩) l.length c),(1,.slice none 0 0),(2,.slice none 0 0)] [ros l] (cutO 1 (fun b => b) (fun _ : Unit => False) (fun _ => [(0,.slice (some ⟨0,0,none⟩) l.length c),(2,.slice none 0 0),(15,vi 0),(16,vi 0)]) (fun _ => [ros l]) pvK) := by kernel_rfl
noncomputable def pbNX0 (l:List Int) := (List.take l.length (List.drop 0 (intsOf (List.map (Value.int IntKind.i64) l))))
noncomputable def pbNX1 (l:List Int) := (List.map (Value.int IntKind.i64) l)
noncomputable def pbNX :=
fun (l:List Int) (c:Nat) (u:Option Nat) (k e:Nat) (q:AObj)↦Ob ((List.take l.length (List.drop 0 (pbNX1 l))=List.map (Value.int IntKind.i64) (pbNX0 l)∧0+l.length≤(pbNX1 l).length∧true=true)∧(pbNX0 l).length≤1000000)∧((errK (pbNX0 l) [] !=(0:Int))=true→Ob True∧True∧Ob (isTrue (Value.bool true) [AObj.ro (pbNX1 l),q]))∧((errK (pbNX0 l) [] !=(0:Int))=false→∃ (y:Unit),Ob False∧Ob (objsOk (fun (b:Nat)↦b) [AObj.ro (pbNX1 l),q] 2 0 [AObj.ro (pbNX1 l),q])∧Ob (Value.slice (some (ad0 0)) l.length c=Value.slice (some (ad0 0)) l.length c)∧Ob (Value.slice (some ⟨1,0,u⟩) k e=Value.slice (some ⟨1,0,u⟩) k e)∧Ob ((0:Int)=(0:Int))∧Ob ((0:Int)=(0:Int))∧True)
theorem pbNX_eq : pbNX = fun (l : List Int) (c : Nat) (u : Option Nat) (k e : Nat) (q : AObj) => vc Try.prog pvE 2 160 true (fun _ => none) (headC 1 (tailC 6 pvB)) [] [(0,.slice (some ⟨0,0,none⟩) l.length c),(1,.slice none 0 0),(2,.slice (some ⟨1,0,u⟩) k e)] [ros l,q] (cutO 2 (fun b => b) (fun _ : Unit => False) (fun _ => [(0,.slice (some ⟨0,0,none⟩) l.length c),(2,.slice (some ⟨1,0,u⟩) k e),(15,vi 0),(16,vi 0)]) (fun _ => [ros l,q]) pvK) := by kernel_rfl
noncomputable def pbHN0 (l:List Int) := (List.take l.length (List.drop 0 (intsOf (List.map (Value.int IntKind.i64) l))))
noncomputable def pbHN1 (l:List Int) := (List.map (Value.int IntKind.i64) l)
noncomputable def pbHN :=
fun (l:List Int) (c:Nat) (t:Option Nat) (d:Nat)↦Ob ((List.take l.length (List.drop 0 (pbHN1 l))=List.map (Value.int IntKind.i64) (pbHN0 l)∧0+l.length≤(pbHN1 l).length∧true=true)∧(pbHN0 l).length≤1000000)∧((errK (pbHN0 l) [] !=(0:Int))=true→Ob True∧True∧Ob (isTrue (Value.bool true) [AObj.ro (pbHN1 l),AObj.gone]))∧((errK (pbHN0 l) [] !=(0:Int))=false→∃ (y:Unit),Ob False∧Ob (objsOk (fun (b:Nat)↦b) [AObj.ro (pbHN1 l),AObj.gone] 2 0 [AObj.ro (pbHN1 l),AObj.gone])∧Ob (Value.slice (some (ad0 0)) l.length c=Value.slice (some (ad0 0)) l.length c)∧Ob (Value.slice none 0 0=Value.slice none 0 0)∧Ob ((0:Int)=(0:Int))∧Ob ((0:Int)=(0:Int))∧True)
theorem pbHN_eq : pbHN = fun (l : List Int) (c : Nat) (t : Option Nat) (d : Nat) => vc Try.prog pvE 2 160 true (fun _ => none) (headC 1 (tailC 6 pvB)) [] [(0,.slice (some ⟨0,0,none⟩) l.length c),(1,.slice (some ⟨1,0,t⟩) 0 d),(2,.slice none 0 0)] [ros l,.gone] (cutO 2 (fun b => b) (fun _ : Unit => False) (fun _ => [(0,.slice (some ⟨0,0,none⟩) l.length c),(2,.slice none 0 0),(15,vi 0),(16,vi 0)]) (fun _ => [ros l,.gone]) pvK) := by kernel_rfl
noncomputable def pbHX0 (l:List Int) := (List.take l.length (List.drop 0 (intsOf (List.map (Value.int IntKind.i64) l))))
noncomputable def pbHX1 (l:List Int) := (List.map (Value.int IntKind.i64) l)
noncomputable def pbHX :=
fun (l:List Int) (c:Nat) (t:Option Nat) (d:Nat) (u:Option Nat) (k e:Nat) (q:AObj)↦Ob ((List.take l.length (List.drop 0 (pbHX1 l))=List.map (Value.int IntKind.i64) (pbHX0 l)∧0+l.length≤(pbHX1 l).length∧true=true)∧(pbHX0 l).length≤1000000)∧((errK (pbHX0 l) [] !=(0:Int))=true→Ob True∧True∧Ob (isTrue (Value.bool true) [AObj.ro (pbHX1 l),AObj.gone,q]))∧((errK (pbHX0 l) [] !=(0:Int))=false→∃ (y:Unit),Ob False∧Ob (objsOk (fun (b:Nat)↦b) [AObj.ro (pbHX1 l),AObj.gone,q] 3 0 [AObj.ro (pbHX1 l),AObj.gone,q])∧Ob (Value.slice (some (ad0 0)) l.length c=Value.slice (some (ad0 0)) l.length c)∧Ob (Value.slice (some ⟨2,0,u⟩) k e=Value.slice (some ⟨2,0,u⟩) k e)∧Ob ((0:Int)=(0:Int))∧Ob ((0:Int)=(0:Int))∧True)
theorem pbHX_eq : pbHX = fun (l : List Int) (c : Nat) (t : Option Nat) (d : Nat) (u : Option Nat) (k e : Nat) (q : AObj) => vc Try.prog pvE 3 160 true (fun _ => none) (headC 1 (tailC 6 pvB)) [] [(0,.slice (some ⟨0,0,none⟩) l.length c),(1,.slice (some ⟨1,0,t⟩) 0 d),(2,.slice (some ⟨2,0,u⟩) k e)] [ros l,.gone,q] (cutO 3 (fun b => b) (fun _ : Unit => False) (fun _ => [(0,.slice (some ⟨0,0,none⟩) l.length c),(2,.slice (some ⟨2,0,u⟩) k e),(15,vi 0),(16,vi 0)]) (fun _ => [ros l,.gone,q]) pvK) := by kernel_rfl
noncomputable def pbVN0 (l:List Int) := (List.take l.length (List.drop 0 (intsOf (List.map (Value.int IntKind.i64) l))))
noncomputable def pbVN1 (m:List Int) := (List.take m.length (List.drop 0 (intsOf (List.map (Value.int IntKind.i64) m))))
noncomputable def pbVN2  := (Value.int IntKind.i64)
noncomputable def pbVN3 (l:List Int) (m:List Int):List AObj := [AObj.ro (List.map pbVN2 l),AObj.ro (List.map pbVN2 m)]
noncomputable def pbVN :=
fun (l:List Int) (c:Nat) (m:List Int) (d:Nat)↦Ob (((List.take l.length (List.drop 0 (List.map pbVN2 l))=List.map pbVN2 (pbVN0 l)∧0+l.length≤(List.map pbVN2 l).length∧true=true)∧List.take m.length (List.drop 0 (List.map pbVN2 m))=List.map pbVN2 (pbVN1 m)∧0+m.length≤(List.map pbVN2 m).length∧true=true)∧(pbVN0 l).length≤1000000∧(pbVN1 m).length≤1000000)∧((errK (pbVN0 l) (pbVN1 m) !=(0:Int))=true→Ob True∧True∧Ob (isTrue (Value.bool true) (pbVN3 l m)))∧((errK (pbVN0 l) (pbVN1 m) !=(0:Int))=false→∃ (y:Unit),Ob (errK l m=(0:Int))∧Ob (objsOk (fun (b:Nat)↦b) (pbVN3 l m) 2 0 (pbVN3 l m))∧Ob (Value.slice (some (ad0 0)) l.length c=Value.slice (some (ad0 0)) l.length c)∧Ob (Value.slice none 0 0=Value.slice none 0 0)∧Ob (chA (pbVN0 l) (pbVN1 m)=chA l m)∧Ob (chM (pbVN0 l) (pbVN1 m)=chM l m)∧True)
theorem pbVN_eq : pbVN = fun (l : List Int) (c : Nat) (m : List Int) (d : Nat) => vc Try.prog pvE 2 160 true (fun _ => none) (headC 1 (tailC 6 pvB)) [] [(0,.slice (some ⟨0,0,none⟩) l.length c),(1,.slice (some ⟨1,0,none⟩) m.length d),(2,.slice none 0 0)] [ros l,ros m] (cutO 2 (fun b => b) (fun _ : Unit => errK l m = 0) (fun _ => [(0,.slice (some ⟨0,0,none⟩) l.length c),(2,.slice none 0 0),(15,vi (chA l m)),(16,vi (chM l m))]) (fun _ => [ros l,ros m]) pvK) := by kernel_rfl
noncomputable def pbVX0 (l:List Int) := (List.take l.length (List.drop 0 (intsOf (List.map (Value.int IntKind.i64) l))))
noncomputable def pbVX1 (m:List Int) := (List.take m.length (List.drop 0 (intsOf (List.map (Value.int IntKind.i64) m))))
noncomputable def pbVX2  := (Value.int IntKind.i64)
noncomputable def pbVX3 (l:List Int) (m:List Int) (q:AObj):List AObj := [AObj.ro (List.map pbVX2 l),AObj.ro (List.map pbVX2 m),q]
noncomputable def pbVX :=
fun (l:List Int) (c:Nat) (m:List Int) (d:Nat) (u:Option Nat) (k e:Nat) (q:AObj)↦Ob (((List.take l.length (List.drop 0 (List.map pbVX2 l))=List.map pbVX2 (pbVX0 l)∧0+l.length≤(List.map pbVX2 l).length∧true=true)∧List.take m.length (List.drop 0 (List.map pbVX2 m))=List.map pbVX2 (pbVX1 m)∧0+m.length≤(List.map pbVX2 m).length∧true=true)∧(pbVX0 l).length≤1000000∧(pbVX1 m).length≤1000000)∧((errK (pbVX0 l) (pbVX1 m) !=(0:Int))=true→Ob True∧True∧Ob (isTrue (Value.bool true) (pbVX3 l m q)))∧((errK (pbVX0 l) (pbVX1 m) !=(0:Int))=false→∃ (y:Unit),Ob (errK l m=(0:Int))∧Ob (objsOk (fun (b:Nat)↦b) (pbVX3 l m q) 3 0 (pbVX3 l m q))∧Ob (Value.slice (some (ad0 0)) l.length c=Value.slice (some (ad0 0)) l.length c)∧Ob (Value.slice (some ⟨2,0,u⟩) k e=Value.slice (some ⟨2,0,u⟩) k e)∧Ob (chA (pbVX0 l) (pbVX1 m)=chA l m)∧Ob (chM (pbVX0 l) (pbVX1 m)=chM l m)∧True)
theorem pbVX_eq : pbVX = fun (l : List Int) (c : Nat) (m : List Int) (d : Nat) (u : Option Nat) (k e : Nat) (q : AObj) => vc Try.prog pvE 3 160 true (fun _ => none) (headC 1 (tailC 6 pvB)) [] [(0,.slice (some ⟨0,0,none⟩) l.length c),(1,.slice (some ⟨1,0,none⟩) m.length d),(2,.slice (some ⟨2,0,u⟩) k e)] [ros l,ros m,q] (cutO 3 (fun b => b) (fun _ : Unit => errK l m = 0) (fun _ => [(0,.slice (some ⟨0,0,none⟩) l.length c),(2,.slice (some ⟨2,0,u⟩) k e),(15,vi (chA l m)),(16,vi (chM l m))]) (fun _ => [ros l,ros m,q]) pvK) := by kernel_rfl
noncomputable def pcN0 (l:List Int) := (List.take l.length (List.drop 0 (intsOf (List.map (Value.int IntKind.i64) l))))
noncomputable def pcN1 (l:List Int):Prop := (List.take l.length (List.drop 0 (List.map (Value.int IntKind.i64) l))=List.map (Value.int IntKind.i64) (pcN0 l)∧0+l.length≤(List.map (Value.int IntKind.i64) l).length∧true=true)
noncomputable def pcN2 (l:List Int) (o:AObj):List AObj := [AObj.ro (List.map (Value.int IntKind.i64) l),o]
noncomputable def pcN3 (l:List Int) (o:AObj) := (isTrue (Value.bool false) (pcN2 l o))
noncomputable def pcN4 (l:List Int) (o:AObj) := (isTrue (Value.bool true) (pcN2 l o))
noncomputable def pcN :=
fun (l:List Int) (c:Nat) (A M:Int) (o:AObj)↦(decide (A<(0:Int))=false→(decide ((300:Int)<A)=true→Ob True∧True∧Ob (pcN4 l o))∧(decide ((300:Int)<A)=false→Ob ((pcN1 l)∧Coins (pcN0 l)∧(0:Int)≤A∧A≤(300:Int))∧(false=false→((!canB (pcN0 l) A.toNat)=false→(decide (M<fewF (pcN0 l) A)=true→True∧Ob (pcN3 l o))∧(decide (M<fewF (pcN0 l) A)=false→Ob ((pcN1 l)∧(pcN0 l).length≤1000000)∧((heE (pcN0 l) [] !=(0:Int))=false→(decide ((↑(0:Nat):Int)≤A)=true→Ob True∧True∧Ob (pcN4 l o))∧(decide ((↑(0:Nat):Int)≤A)=false→Ob ((pcN1 l)∧(pcN0 l).length≤1000000)∧((heE (pcN0 l) []==(0:Int))=true→False)∧((heE (pcN0 l) []==(0:Int))=false→True∧Ob (pcN3 l o))))∧((heE (pcN0 l) [] !=(0:Int))=true→Ob True∧True∧Ob (pcN4 l o))))∧((!canB (pcN0 l) A.toNat)=true→True∧Ob (pcN3 l o)))∧(false=true→True∧Ob (pcN3 l o))))∧(decide (A<(0:Int))=true→Ob True∧True∧Ob (pcN4 l o))
theorem pcN_eq : pcN = fun (l : List Int) (c : Nat) (A M : Int) (o : AObj) => vc Try.prog pvE 2 160 true (fun _ => none) (tailC 1 (tailC 6 pvB)) [] [(0,.slice (some ⟨0,0,none⟩) l.length c),(2,.slice none 0 0),(15,vi A),(16,vi M)] [ros l,o] pvK := by kernel_rfl
noncomputable def pcH0 (l:List Int) := (List.take l.length (List.drop 0 (intsOf (List.map (Value.int IntKind.i64) l))))
noncomputable def pcH1 (l:List Int):Prop := (List.take l.length (List.drop 0 (List.map (Value.int IntKind.i64) l))=List.map (Value.int IntKind.i64) (pcH0 l)∧0+l.length≤(List.map (Value.int IntKind.i64) l).length∧true=true)
noncomputable def pcH2 (l:List Int) (o:AObj):List AObj := [AObj.ro (List.map (Value.int IntKind.i64) l),o,AObj.gone]
noncomputable def pcH3 (l:List Int) (o:AObj) := (isTrue (Value.bool false) (pcH2 l o))
noncomputable def pcH4 (l:List Int) (o:AObj) := (isTrue (Value.bool true) (pcH2 l o))
noncomputable def pcH :=
fun (l:List Int) (c:Nat) (A M:Int) (o:AObj) (u:Option Nat) (e:Nat)↦(decide (A<(0:Int))=false→(decide ((300:Int)<A)=true→Ob True∧True∧Ob (pcH4 l o))∧(decide ((300:Int)<A)=false→Ob ((pcH1 l)∧Coins (pcH0 l)∧(0:Int)≤A∧A≤(300:Int))∧(false=false→((!canB (pcH0 l) A.toNat)=false→(decide (M<fewF (pcH0 l) A)=true→True∧Ob (pcH3 l o))∧(decide (M<fewF (pcH0 l) A)=false→Ob ((pcH1 l)∧(pcH0 l).length≤1000000)∧((heE (pcH0 l) [] !=(0:Int))=false→(decide ((↑(0:Nat):Int)≤A)=true→Ob True∧True∧Ob (pcH4 l o))∧(decide ((↑(0:Nat):Int)≤A)=false→Ob ((pcH1 l)∧(pcH0 l).length≤1000000)∧((heE (pcH0 l) []==(0:Int))=true→Ob ((0:Int)≤A∧A<(↑(0:Nat):Int)∧std ⟨2,0,u⟩ e=true)∧False)∧((heE (pcH0 l) []==(0:Int))=false→True∧Ob (pcH3 l o))))∧((heE (pcH0 l) [] !=(0:Int))=true→Ob True∧True∧Ob (pcH4 l o))))∧((!canB (pcH0 l) A.toNat)=true→True∧Ob (pcH3 l o)))∧(false=true→True∧Ob (pcH3 l o))))∧(decide (A<(0:Int))=true→Ob True∧True∧Ob (pcH4 l o))
theorem pcH_eq : pcH = fun (l : List Int) (c : Nat) (A M : Int) (o : AObj) (u : Option Nat) (e : Nat) => vc Try.prog pvE 3 160 true (fun _ => none) (tailC 1 (tailC 6 pvB)) [] [(0,.slice (some ⟨0,0,none⟩) l.length c),(2,.slice (some ⟨2,0,u⟩) 0 e),(15,vi A),(16,vi M)] [ros l,o,.gone] pvK := by kernel_rfl
noncomputable def pcV0 (l:List Int) := (List.take l.length (List.drop 0 (intsOf (List.map (Value.int IntKind.i64) l))))
noncomputable def pcV1 (l:List Int) (o:AObj) (g:List Int):List AObj := [AObj.ro (List.map (Value.int IntKind.i64) l),o,AObj.ro (List.map (Value.int IntKind.i64) g)]
noncomputable def pcV2 (l:List Int) (g:List Int):Prop := (((List.take l.length (List.drop 0 (List.map (Value.int IntKind.i64) l))=List.map (Value.int IntKind.i64) (pcV0 l)∧0+l.length≤(List.map (Value.int IntKind.i64) l).length∧true=true)∧List.take g.length (List.drop 0 (List.map (Value.int IntKind.i64) g))=List.map (Value.int IntKind.i64) (List.take g.length (List.drop 0 (intsOf (List.map (Value.int IntKind.i64) g))))∧0+g.length≤(List.map (Value.int IntKind.i64) g).length∧true=true)∧(pcV0 l).length≤1000000)
noncomputable def pcV3 (g:List Int) := (List.map (Value.int IntKind.i64) g)
noncomputable def pcV4 (g:List Int) := (List.take g.length (List.drop 0 (intsOf (pcV3 g))))
noncomputable def pcV5 (A:Int) := (0+A.toNat * 1)
noncomputable def pcV6 (l:List Int) (o:AObj) (g:List Int) := (isTrue (Value.bool false) (pcV1 l o g))
noncomputable def pcV7 (l:List Int) (o:AObj) (g:List Int) := (isTrue (Value.bool true) (pcV1 l o g))
noncomputable def pcV :=
fun (l:List Int) (c:Nat) (A M:Int) (o:AObj) (g:List Int) (e:Nat)↦(decide (A<(0:Int))=false→(decide ((300:Int)<A)=true→Ob True∧True∧Ob (pcV7 l o g))∧(decide ((300:Int)<A)=false→Ob ((List.take l.length (List.drop 0 (List.map (Value.int IntKind.i64) l))=List.map (Value.int IntKind.i64) (pcV0 l)∧0+l.length≤(List.map (Value.int IntKind.i64) l).length∧true=true)∧Coins (pcV0 l)∧(0:Int)≤A∧A≤(300:Int))∧(false=false→((!canB (pcV0 l) A.toNat)=false→(decide (M<fewF (pcV0 l) A)=true→True∧Ob (pcV6 l o g))∧(decide (M<fewF (pcV0 l) A)=false→Ob (pcV2 l g)∧((heE (pcV0 l) (pcV4 g) !=(0:Int))=false→(decide ((g.length:Int)≤A)=true→Ob True∧True∧Ob (pcV7 l o g))∧(decide ((g.length:Int)≤A)=false→Ob (pcV2 l g)∧((heE (pcV0 l) (pcV4 g)==(0:Int))=true→Ob ((0:Int)≤A∧A<(g.length:Int)∧true=true)∧Ob (IntAt IntKind.i64 (pcV3 g) (pcV5 A))∧(decide (getI (pcV3 g) (pcV5 A)≤M)=true→Ob ((0:Int)≤A∧A<(g.length:Int)∧true=true)∧Ob (IntAt IntKind.i64 (pcV3 g) (pcV5 A))∧(decide (getI (pcV3 g) (pcV5 A)≤fewF (pcV0 l) A)=true→Ob True∧True∧Ob (pcV7 l o g))∧(decide (getI (pcV3 g) (pcV5 A)≤fewF (pcV0 l) A)=false→True∧Ob (pcV6 l o g)))∧(decide (getI (pcV3 g) (pcV5 A)≤M)=false→True∧Ob (pcV6 l o g)))∧((heE (pcV0 l) (pcV4 g)==(0:Int))=false→True∧Ob (pcV6 l o g))))∧((heE (pcV0 l) (pcV4 g) !=(0:Int))=true→Ob True∧True∧Ob (pcV7 l o g))))∧((!canB (pcV0 l) A.toNat)=true→True∧Ob (pcV6 l o g)))∧(false=true→True∧Ob (pcV6 l o g))))∧(decide (A<(0:Int))=true→Ob True∧True∧Ob (pcV7 l o g))
theorem pcV_eq : pcV = fun (l : List Int) (c : Nat) (A M : Int) (o : AObj) (g : List Int) (e : Nat) => vc Try.prog pvE 3 160 true (fun _ => none) (tailC 1 (tailC 6 pvB)) [] [(0,.slice (some ⟨0,0,none⟩) l.length c),(2,.slice (some ⟨2,0,none⟩) g.length e),(15,vi A),(16,vi M)] [ros l,o,ros g] pvK := by kernel_rfl
theorem chg_is {l m : List Int} (hk : errK l m = 0) : isCh l (chA l m) (gt m) := by
 by_cases c1 : errC l = 0
 · by_cases c2 : m.length = l.length
   · by_cases c3 : ∀ x ∈ m,0≤x∧x≤1000
     · exact ⟨fun k hk => (c3 _ (ints_mem (by omega))).1,by rw [chA,if_pos hk]⟩
     · rw [errK_3 c1 c2 c3] at hk; cases hk
   · rw [errK_15 c1 c2] at hk; cases hk
 · rw [errK_c c1] at hk; exact absurd hk c1
theorem errK_nil {l : List Int} (hc : Coins l) : ¬ errK l [] = 0 := by
 have := hc.pos
 rw [errK_15 (errC_ok.2 hc) (by simp only [List.length_nil]; omega)]; decide
theorem heE_nil {l : List Int} (h : errC l = 0) : ¬ heE l [] = 0 := by rw [heE_m h (.inl (by simp))]; decide
theorem pa_all {Q : Prop} {l : List Int} {w : Int} (hw : 0 ≤ w ∧ w < 65536) (he : errC l = 0) (q : Q) : (0 ≤ w ∧ w < 65536) ∧
     (Coins l∧0≤amt w∧amt w≤300) ∧
       (Flat (List.map (Value.int IntKind.i64) l) ∧
           okW (amt w) (Leaf.view (List.map (Value.int IntKind.i64) l) l.length false)) ∧
         ((((amt w).toNat + 1 : Nat) : Int) = IntKind.i64.wrap (amt w + 1) →
             ((List.take ((amt w).toNat + 1) (List.map (Value.int IntKind.i64) (hL l (amt w).toNat)) =
                     List.map (Value.int IntKind.i64) (List.take ((amt w).toNat + 1) (hL l (amt w).toNat)) ∧
                   (amt w).toNat + 1≤(hL l (amt w).toNat).length) ∧
                 l.length≤1000000) ∧
               (heE l (List.take ((amt w).toNat + 1) (hL l (amt w).toNat)) = 0 →
                   ((List.take ((amt w).toNat + 1) (List.map (Value.int IntKind.i64) (hL l (amt w).toNat)) =
                           List.map (Value.int IntKind.i64) (List.take ((amt w).toNat + 1) (hL l (amt w).toNat)) ∧
                         (amt w).toNat + 1≤(hL l (amt w).toNat).length) ∧
                       l.length≤1000000) ∧
                     (¬heE l (List.take ((amt w).toNat + 1) (hL l (amt w).toNat)) = 0→False) ∧
                       (heE l (List.take ((amt w).toNat + 1) (hL l (amt w).toNat)) = 0 →
                         (canB l (amt w).toNat = true →
                             (0≤amt w∧amt w < (((amt w).toNat + 1 : Nat) : Int)) ∧
                               (amt w).toNat < (hL l (amt w).toNat).length ∧
                                 ((hL l (amt w).toNat).getD (amt w).toNat 0 = fewF l (amt w) →
                                     (canB l (amt w).toNat = false →
                                         (0≤amt w∧amt w < (((amt w).toNat + 1 : Nat) : Int)) ∧
                                           (amt w).toNat < (hL l (amt w).toNat).length ∧
                                             (¬(hL l (amt w).toNat).getD (amt w).toNat 0 = 1000→False) ∧
                                               ((hL l (amt w).toNat).getD (amt w).toNat 0 = 1000→Q)) ∧
                                       (canB l (amt w).toNat = true→Q)) ∧
                                   (¬(hL l (amt w).toNat).getD (amt w).toNat 0 = fewF l (amt w)→False)) ∧
                           (canB l (amt w).toNat = false →
                             (canB l (amt w).toNat = false →
                                 (0≤amt w∧amt w < (((amt w).toNat + 1 : Nat) : Int)) ∧
                                   (amt w).toNat < (hL l (amt w).toNat).length ∧
                                     (¬(hL l (amt w).toNat).getD (amt w).toNat 0 = 1000→False) ∧
                                       ((hL l (amt w).toNat).getD (amt w).toNat 0 = 1000→Q)) ∧
                               (canB l (amt w).toNat = true→Q)))) ∧
                 (¬heE l (List.take ((amt w).toNat + 1) (hL l (amt w).toNat)) = 0→False)) ∧
           (¬(((amt w).toNat + 1 : Nat) : Int) = IntKind.i64.wrap (amt w + 1)→False) := by
 have hc := errC_ok.1 he
 have hf := hc.few
 have hr := amt_rng w
 have hln := hL_len (l := l) (amt w).toNat
 have hT : List.take ((amt w).toNat + 1) (hL l (amt w).toNat) = hL l (amt w).toNat := List.take_of_length_le (by omega)
 have hR := hL_right hc (a := (amt w).toNat) (by omega)
 have hg := hL_get (l := l) (amt w).toNat (amt w).toNat (Nat.le_refl _)
 have hfv := few_val hc hr
 rw [← List.map_take,hT,hg]
 have lo : (0≤amt w∧amt w < (((amt w).toNat + 1 : Nat) : Int))∧(amt w).toNat < (hL l (amt w).toNat).length := ⟨by omega,by omega⟩
 have no : canB l (amt w).toNat = false→hvF l (amt w).toNat = 1000 := fun h => by rw [hvF,h]; rfl
 have yes : canB l (amt w).toNat = true→hvF l (amt w).toNat = fewF l (amt w) := fun h => by rw [hfv,hvF,if_pos h,if_pos h]
 have lst : (List.map (Value.int IntKind.i64) (hL l (amt w).toNat) = List.map (Value.int IntKind.i64) (hL l (amt w).toNat)∧(amt w).toNat + 1≤(hL l (amt w).toNat).length)∧l.length≤1000000 := ⟨⟨rfl,by omega⟩,by omega⟩
 have h3 : canB l (amt w).toNat = false→(0≤amt w∧amt w < (((amt w).toNat + 1 : Nat) : Int))∧(amt w).toNat < (hL l (amt w).toNat).length∧(¬ hvF l (amt w).toNat = 1000→False)∧(hvF l (amt w).toNat = 1000→Q) := fun h => ⟨lo.1,lo.2,fun k => k (no h),fun _ => q⟩
 exact ⟨hw,⟨hc,hr⟩,⟨all_sc_int,okWh_of (errA_0.2 ⟨he,hr⟩)⟩,fun _ => ⟨lst,fun _ => ⟨lst,fun k => k hR,fun _ => ⟨fun hb => ⟨lo.1,lo.2,fun _ => ⟨h3,fun _ => q⟩,fun k => k (yes hb)⟩,fun _ => ⟨h3,fun _ => q⟩⟩⟩,fun k => k hR⟩,fun k => k (by rw [wrap_in (by omega) (by omega)]; omega)⟩
theorem ros_ob {l : List Int} {n : Nat} : objEq (fun b => b) n (ros l) (ros l) := ⟨ros_omap.symm,ros_sc⟩
theorem pxNN_ok (l : List Int) (c : Nat) (w : Int) (hw : 0≤w∧w < 65536) (ho : ∀ x,objsOk (fun b => b) [ros l,x] 1 0 [ros l]) : pxNN l c w := by
 unfold pxNN pxNN13 pxNN12 pxNN11 pxNN10 pxNN9 pxNN8 pxNN7 pxNN6 pxNN5 pxNN4 pxNN3 pxNN2 pxNN1 pxNN0
 simp only [SS,reduceCtorEq,Arg.list,Arg.num,Arg.flag,intOf,andP,Nat.reduceLeDiff,Nat.reduceAdd,Nat.reduceMul,Nat.reduceLT,isTrue]
 exact fun h => pa_all hw h ⟨h,ho _⟩
theorem pxNX_ok (l : List Int) (c : Nat) (u : Option Nat) (k e : Nat) (q : AObj) (w : Int) (hw : 0≤w∧w < 65536) (ho : ∀ x,objsOk (fun b => b) [ros l,q,x] 2 0 [ros l,q]) : pxNX l c u k e q w := by
 unfold pxNX pxNX13 pxNX12 pxNX11 pxNX10 pxNX9 pxNX8 pxNX7 pxNX6 pxNX5 pxNX4 pxNX3 pxNX2 pxNX1 pxNX0
 simp only [SS,reduceCtorEq,Arg.list,Arg.num,Arg.flag,intOf,andP,Nat.reduceLeDiff,Nat.reduceAdd,Nat.reduceMul,Nat.reduceLT,isTrue]
 exact fun h _ => pa_all hw h ⟨h,ho _⟩
theorem pxXN_ok (l : List Int) (c : Nat) (s : Option Nat) (n d : Nat) (o : AObj) (w : Int) (hw : 0≤w∧w < 65536) (ho : ∀ x,objsOk (fun b => b) [ros l,o,x] 2 0 [ros l,o]) : pxXN l c s n d o w := by
 unfold pxXN pxXN13 pxXN12 pxXN11 pxXN10 pxXN9 pxXN8 pxXN7 pxXN6 pxXN5 pxXN4 pxXN3 pxXN2 pxXN1 pxXN0
 simp only [SS,reduceCtorEq,Arg.list,Arg.num,Arg.flag,intOf,andP,Nat.reduceLeDiff,Nat.reduceAdd,Nat.reduceMul,Nat.reduceLT,isTrue]
 exact fun h h1 => pa_all hw h ⟨⟨h,by omega⟩,ho _⟩
theorem pxXX_ok (l : List Int) (c : Nat) (s : Option Nat) (n d : Nat) (o : AObj) (u : Option Nat) (k e : Nat) (q : AObj) (w : Int) (hw : 0≤w∧w < 65536) (ho : ∀ x,objsOk (fun b => b) [ros l,o,q,x] 3 0 [ros l,o,q]) : pxXX l c s n d o u k e q w := by
 unfold pxXX pxXX13 pxXX12 pxXX11 pxXX10 pxXX9 pxXX8 pxXX7 pxXX6 pxXX5 pxXX4 pxXX3 pxXX2 pxXX1 pxXX0
 simp only [SS,reduceCtorEq,Arg.list,Arg.num,Arg.flag,intOf,andP,Nat.reduceLeDiff,Nat.reduceAdd,Nat.reduceMul,Nat.reduceLT,isTrue]
 exact fun h h1 _ => pa_all hw h ⟨⟨h,by omega⟩,ho _⟩
theorem pbNN_ok (l : List Int) (c : Nat) (h : errC l = 0) : pbNN l c := by
 unfold pbNN pbNN1 pbNN0
 simp only [SS,reduceCtorEq,Arg.list,Arg.num,Arg.flag,intOf,andP,Nat.reduceLeDiff,Nat.reduceAdd,Nat.reduceMul,Nat.reduceLT,isTrue]
 have hc := errC_ok.1 h
 have hf := hc.few
 exact ⟨by omega,fun k => errK_nil hc k⟩
theorem pbNX_ok (l : List Int) (c : Nat) (u : Option Nat) (k e : Nat) (q : AObj) (h : errC l = 0) : pbNX l c u k e q := by
 unfold pbNX pbNX1 pbNX0
 simp only [SS,reduceCtorEq,Arg.list,Arg.num,Arg.flag,intOf,andP,Nat.reduceLeDiff,Nat.reduceAdd,Nat.reduceMul,Nat.reduceLT,isTrue]
 have hc := errC_ok.1 h
 have hf := hc.few
 exact ⟨by omega,fun k => errK_nil hc k⟩
theorem pbHN_ok (l : List Int) (c : Nat) (t : Option Nat) (d : Nat) (h : errC l = 0) : pbHN l c t d := by
 unfold pbHN pbHN1 pbHN0
 simp only [SS,reduceCtorEq,Arg.list,Arg.num,Arg.flag,intOf,andP,Nat.reduceLeDiff,Nat.reduceAdd,Nat.reduceMul,Nat.reduceLT,isTrue]
 have hc := errC_ok.1 h
 have hf := hc.few
 exact ⟨by omega,fun k => errK_nil hc k⟩
theorem pbHX_ok (l : List Int) (c : Nat) (t : Option Nat) (d : Nat) (u : Option Nat) (k e : Nat) (q : AObj) (h : errC l = 0) : pbHX l c t d u k e q := by
 unfold pbHX pbHX1 pbHX0
 simp only [SS,reduceCtorEq,Arg.list,Arg.num,Arg.flag,intOf,andP,Nat.reduceLeDiff,Nat.reduceAdd,Nat.reduceMul,Nat.reduceLT,isTrue]
 have hc := errC_ok.1 h
 have hf := hc.few
 exact ⟨by omega,fun k => errK_nil hc k⟩
theorem pbVN_ok (l : List Int) (c : Nat) (m : List Int) (d : Nat) (h : errC l = 0) (hm : m.length≤10) (ho : objsOk (fun b => b) [ros l,ros m] 2 0 [ros l,ros m]) : pbVN l c m d := by
 unfold pbVN pbVN3 pbVN2 pbVN1 pbVN0
 simp only [SS,reduceCtorEq,Arg.list,Arg.num,Arg.flag,intOf,andP,Nat.reduceLeDiff,Nat.reduceAdd,Nat.reduceMul,Nat.reduceLT,isTrue]
 have hc := errC_ok.1 h
 have hf := hc.few
 exact ⟨⟨by omega,by omega⟩,fun hk => ⟨hk,ho⟩⟩
theorem pbVX_ok (l : List Int) (c : Nat) (m : List Int) (d : Nat) (u : Option Nat) (k e : Nat) (q : AObj) (h : errC l = 0) (hm : m.length≤10) (ho : objsOk (fun b => b) [ros l,ros m,q] 3 0 [ros l,ros m,q]) : pbVX l c m d u k e q := by
 unfold pbVX pbVX3 pbVX2 pbVX1 pbVX0
 simp only [SS,reduceCtorEq,Arg.list,Arg.num,Arg.flag,intOf,andP,Nat.reduceLeDiff,Nat.reduceAdd,Nat.reduceMul,Nat.reduceLT,isTrue]
 have hc := errC_ok.1 h
 have hf := hc.few
 exact ⟨⟨by omega,by omega⟩,fun hk => ⟨hk,ho⟩⟩
theorem pcN_ok (l : List Int) (c : Nat) (A M : Int) (o : AObj) (h : errC l = 0) (f : 0≤A→A≤300→canB l A.toNat = true∧fewF l A≤M) (f3 : ∀ g : List Int,heE l g = 0→0≤A→A < g.length→g.getD A.toNat 0≤M) : pcN l c A M o := by
 unfold pcN pcN4 pcN3 pcN2 pcN1 pcN0
 simp only [SS,reduceCtorEq,Arg.list,Arg.num,Arg.flag,intOf,andP,Nat.reduceLeDiff,Nat.reduceAdd,Nat.reduceMul,Nat.reduceLT,isTrue]
 have hc := errC_ok.1 h
 have hf := hc.few
 refine fun h1 h2 => ?_
 obtain ⟨f1,f2⟩ := f (by omega) (by omega)
 exact ⟨⟨hc,by omega,by omega⟩,fun hb => ⟨fun _ => by omega,fun _ => ⟨by omega,fun hg => absurd hg (heE_nil h)⟩⟩,fun hb => by rw [f1] at hb; cases hb⟩
theorem pcH_ok (l : List Int) (c : Nat) (A M : Int) (o : AObj) (u : Option Nat) (e : Nat) (h : errC l = 0) (f : 0≤A→A≤300→canB l A.toNat = true∧fewF l A≤M) (f3 : ∀ g : List Int,heE l g = 0→0≤A→A < g.length→g.getD A.toNat 0≤M) : pcH l c A M o u e := by
 unfold pcH pcH4 pcH3 pcH2 pcH1 pcH0
 simp only [SS,reduceCtorEq,Arg.list,Arg.num,Arg.flag,intOf,andP,Nat.reduceLeDiff,Nat.reduceAdd,Nat.reduceMul,Nat.reduceLT,isTrue]
 have hc := errC_ok.1 h
 have hf := hc.few
 refine fun h1 h2 => ?_
 obtain ⟨f1,f2⟩ := f (by omega) (by omega)
 exact ⟨⟨hc,by omega,by omega⟩,fun hb => ⟨fun _ => by omega,fun _ => ⟨by omega,fun hg => absurd hg (heE_nil h)⟩⟩,fun hb => by rw [f1] at hb; cases hb⟩
theorem pcV_ok (l : List Int) (c : Nat) (A M : Int) (o : AObj) (g : List Int) (e : Nat) (h : errC l = 0) (f : 0≤A→A≤300→canB l A.toNat = true∧fewF l A≤M) (f3 : ∀ g : List Int,heE l g = 0→0≤A→A < g.length→g.getD A.toNat 0≤M) : pcV l c A M o g e := by
 unfold pcV pcV7 pcV6 pcV5 pcV4 pcV3 pcV2 pcV1 pcV0
 simp only [SS,reduceCtorEq,Arg.list,Arg.num,Arg.flag,intOf,andP,Nat.reduceLeDiff,Nat.reduceAdd,Nat.reduceMul,Nat.reduceLT,isTrue]
 have hc := errC_ok.1 h
 have hf := hc.few
 refine fun h1 h2 => ?_
 obtain ⟨f1,f2⟩ := f (by omega) (by omega)
 exact ⟨⟨hc,by omega,by omega⟩,fun hb => ⟨fun _ => by omega,fun _ => ⟨by omega,fun hg h4 => ⟨by omega,fun _ => ⟨⟨by omega,by omega⟩,by omega,fun _ => ⟨⟨by omega,by omega⟩,by omega,fun k => k (few_height hg ⟨by omega,by omega⟩ (by omega) hb)⟩,fun k => k (f3 _ hg (by omega) (by omega))⟩,fun k => k hg⟩⟩⟩,fun hb => by rw [f1] at hb; cases hb⟩
theorem pvNNN_ok (w : Int) : pvNNN w := by
 unfold pvNNN
 simp only [SS,reduceCtorEq,Arg.list,Arg.num,Arg.flag,intOf,andP,Nat.reduceLeDiff,Nat.reduceAdd,Nat.reduceMul,Nat.reduceLT,isTrue]
theorem pvNNX_ok (u : Option Nat) (k e : Nat) (q : AObj) (w : Int) : pvNNX u k e q w := by
 unfold pvNNX
 simp only [SS,reduceCtorEq,Arg.list,Arg.num,Arg.flag,intOf,andP,Nat.reduceLeDiff,Nat.reduceAdd,Nat.reduceMul,Nat.reduceLT,isTrue]
theorem pvNXN_ok (s : Option Nat) (n d : Nat) (o : AObj) (w : Int) : pvNXN s n d o w := by
 unfold pvNXN
 simp only [SS,reduceCtorEq,Arg.list,Arg.num,Arg.flag,intOf,andP,Nat.reduceLeDiff,Nat.reduceAdd,Nat.reduceMul,Nat.reduceLT,isTrue]
theorem pvNXX_ok (s : Option Nat) (n d : Nat) (o : AObj) (u : Option Nat) (k e : Nat) (q : AObj) (w : Int) : pvNXX s n d o u k e q w := by
 unfold pvNXX
 simp only [SS,reduceCtorEq,Arg.list,Arg.num,Arg.flag,intOf,andP,Nat.reduceLeDiff,Nat.reduceAdd,Nat.reduceMul,Nat.reduceLT,isTrue]
theorem pvHNN_ok (r : Option Nat) (c : Nat) (w : Int) : pvHNN r c w := by
 unfold pvHNN pvHNN0
 simp only [SS,reduceCtorEq,Arg.list,Arg.num,Arg.flag,intOf,andP,Nat.reduceLeDiff,Nat.reduceAdd,Nat.reduceMul,Nat.reduceLT,isTrue]
theorem pvHNX_ok (r : Option Nat) (c : Nat) (u : Option Nat) (k e : Nat) (q : AObj) (w : Int) : pvHNX r c u k e q w := by
 unfold pvHNX
 simp only [SS,reduceCtorEq,Arg.list,Arg.num,Arg.flag,intOf,andP,Nat.reduceLeDiff,Nat.reduceAdd,Nat.reduceMul,Nat.reduceLT,isTrue]
theorem pvHXN_ok (r : Option Nat) (c : Nat) (s : Option Nat) (n d : Nat) (o : AObj) (w : Int) : pvHXN r c s n d o w := by
 unfold pvHXN
 simp only [SS,reduceCtorEq,Arg.list,Arg.num,Arg.flag,intOf,andP,Nat.reduceLeDiff,Nat.reduceAdd,Nat.reduceMul,Nat.reduceLT,isTrue]
theorem pvHXX_ok (r : Option Nat) (c : Nat) (s : Option Nat) (n d : Nat) (o : AObj) (u : Option Nat) (k e : Nat) (q : AObj) (w : Int) : pvHXX r c s n d o u k e q w := by
 unfold pvHXX
 simp only [SS,reduceCtorEq,Arg.list,Arg.num,Arg.flag,intOf,andP,Nat.reduceLeDiff,Nat.reduceAdd,Nat.reduceMul,Nat.reduceLT,isTrue]
theorem pvT_ok : CtOk Try.prog pvT := (((((((CtOk.none.add worksG_ok).add fnG_ok).add atG_ok).add pdG_ok).add hoG_ok).add ccG_ok).add hpG_ok).add hrG_ok
theorem pvE_ok : VOk Try.prog pvE := ⟨pvT_ok,ccIn_ok E0_ok mixed (inl_one Try.func18),E0_ok.yc,E0_ok.orc⟩
theorem pv_go {args : List Value} {H : Heap} (h : vc Try.prog pvE H.length (args.length + (160 - args.length)) true (fun _ => none) pvB [] (argFr 0 args) H pvK) : Call Try.prog 9 args H isTrue := Call.ofVc pvE_ok mixed (c := pvB) (inv := fun _ => none) Try.func9 (by kernel_rfl) h
theorem pv_cut {X : Type} {σ : Nat→Nat} {ok : X→Prop} {Fx : X→Fr} {Hx : X→Heap} {args : List Value} {H : Heap} (h : vc Try.prog pvE H.length (args.length + (160 - args.length)) true (fun _ => none) (headC 6 pvB) [] (argFr 0 args) H (cutO H.length σ ok Fx Hx pvK)) (h2 : ∀ z,ok z→VW H.length (args.length + (160 - args.length)) none Try.prog (tailC 6 pvB) (Hx z) (Fx z) fun e F H => ∃ D,pvK e D F H) : Call Try.prog 9 args H isTrue := Call.ofVW (R := isTrue) Try.func9 (c := pvB) (by kernel_rfl) (vc_cutO pvE_ok mixed 6 (ro := none) (split_of (by kernel_rfl)) h h2)
theorem fitp_ints {k : IntKind} {a : Arg} (h : (PK.ints k).fits a) : a = .plain (.slice none 0 0)∨(∃ s,a = .hole s)∨∃ l,a = .ints k l := by
 rcases h with h | h | ⟨l,h,_⟩
 · exact .inl h
 · exact .inr (.inl h)
 · exact .inr (.inr ⟨l,h⟩)
theorem fitp_four {p q o i : PK} {r : List Arg} (h : fitsAll [p,q,o,i] r) : ∃ a b c d,r = [a,b,c,d]∧p.fits a∧q.fits b∧o.fits c∧i.fits d := match r,h with
 | [a,b,c,d],⟨h1,h2,h3,h4,_⟩ => ⟨a,b,c,d,rfl,h1,h2,h3,h4⟩
theorem proved_small (r : List Arg) (hr : fitsAll [.ints .i64,.ints .i64,.ints .i64,.int .u16] r) (caps : Nat→Nat) : Call Try.prog 9 (canonA caps 0 r) (canonH r) isTrue := by
   obtain ⟨x,y,z,o,rfl,hx,hy,hz,ho⟩ := fitp_four hr
   obtain ⟨w,rfl,hw⟩ := ho
   have hw := u16_wfA hw
   rcases fitp_ints hx with rfl | ⟨s,rfl⟩ | ⟨l,rfl⟩ <;> rcases fitp_ints hy with rfl | ⟨t,rfl⟩ | ⟨m,rfl⟩ <;> rcases fitp_ints hz with rfl | ⟨u,rfl⟩ | ⟨g,rfl⟩
   · have h := pvNNN_ok w
     rw [pvNNN_eq] at h
     exact pv_go h
   · have h := pvNNX_ok u 0 (caps 0) .gone w
     rw [pvNNX_eq] at h
     exact pv_go h
   · have h := pvNNX_ok none g.length (caps 0) (ros g) w
     rw [pvNNX_eq] at h
     exact pv_go h
   · have h := pvNXN_ok t 0 (caps 0) .gone w
     rw [pvNXN_eq] at h
     exact pv_go h
   · have h := pvNXX_ok t 0 (caps 0) .gone u 0 (caps 1) .gone w
     rw [pvNXX_eq] at h
     exact pv_go h
   · have h := pvNXX_ok t 0 (caps 0) .gone none g.length (caps 1) (ros g) w
     rw [pvNXX_eq] at h
     exact pv_go h
   · have h := pvNXN_ok none m.length (caps 0) (ros m) w
     rw [pvNXN_eq] at h
     exact pv_go h
   · have h := pvNXX_ok none m.length (caps 0) (ros m) u 0 (caps 1) .gone w
     rw [pvNXX_eq] at h
     exact pv_go h
   · have h := pvNXX_ok none m.length (caps 0) (ros m) none g.length (caps 1) (ros g) w
     rw [pvNXX_eq] at h
     exact pv_go h
   · have h := pvHNN_ok s (caps 0) w
     rw [pvHNN_eq] at h
     exact pv_go h
   · have h := pvHNX_ok s (caps 0) u 0 (caps 1) .gone w
     rw [pvHNX_eq] at h
     exact pv_go h
   · have h := pvHNX_ok s (caps 0) none g.length (caps 1) (ros g) w
     rw [pvHNX_eq] at h
     exact pv_go h
   · have h := pvHXN_ok s (caps 0) t 0 (caps 1) .gone w
     rw [pvHXN_eq] at h
     exact pv_go h
   · have h := pvHXX_ok s (caps 0) t 0 (caps 1) .gone u 0 (caps 2) .gone w
     rw [pvHXX_eq] at h
     exact pv_go h
   · have h := pvHXX_ok s (caps 0) t 0 (caps 1) .gone none g.length (caps 2) (ros g) w
     rw [pvHXX_eq] at h
     exact pv_go h
   · have h := pvHXN_ok s (caps 0) none m.length (caps 1) (ros m) w
     rw [pvHXN_eq] at h
     exact pv_go h
   · have h := pvHXX_ok s (caps 0) none m.length (caps 1) (ros m) u 0 (caps 2) .gone w
     rw [pvHXX_eq] at h
     exact pv_go h
   · have h := pvHXX_ok s (caps 0) none m.length (caps 1) (ros m) none g.length (caps 2) (ros g) w
     rw [pvHXX_eq] at h
     exact pv_go h
   · have h := pxNN_ok l (caps 0) w hw (fun _ => And.intro ros_ob trivial)
     rw [pxNN_eq] at h
     refine pv_cut h fun _ hx => ?_
     have h2 := pbNN_ok l (caps 0) hx
     rw [pbNN_eq] at h2
     exact vc_cutO pvE_ok mixed 1 (ro := none) (split_of (by kernel_rfl)) h2 fun _ hk => hk.elim
   · have h := pxNX_ok l (caps 0) u 0 (caps 1) .gone w hw (fun _ => And.intro ros_ob trivial)
     rw [pxNX_eq] at h
     refine pv_cut h fun _ hx => ?_
     have h2 := pbNX_ok l (caps 0) u 0 (caps 1) .gone hx
     rw [pbNX_eq] at h2
     exact vc_cutO pvE_ok mixed 1 (ro := none) (split_of (by kernel_rfl)) h2 fun _ hk => hk.elim
   · have h := pxNX_ok l (caps 0) none g.length (caps 1) (ros g) w hw (fun _ => And.intro ros_ob (And.intro ros_ob trivial))
     rw [pxNX_eq] at h
     refine pv_cut h fun _ hx => ?_
     have h2 := pbNX_ok l (caps 0) none g.length (caps 1) (ros g) hx
     rw [pbNX_eq] at h2
     exact vc_cutO pvE_ok mixed 1 (ro := none) (split_of (by kernel_rfl)) h2 fun _ hk => hk.elim
   · have h := pxXN_ok l (caps 0) t 0 (caps 1) .gone w hw (fun _ => And.intro ros_ob trivial)
     rw [pxXN_eq] at h
     refine pv_cut h fun _ hx => ?_
     have h2 := pbHN_ok l (caps 0) t (caps 1) hx.1
     rw [pbHN_eq] at h2
     exact vc_cutO pvE_ok mixed 1 (ro := none) (split_of (by kernel_rfl)) h2 fun _ hk => hk.elim
   · have h := pxXX_ok l (caps 0) t 0 (caps 1) .gone u 0 (caps 2) .gone w hw (fun _ => And.intro ros_ob trivial)
     rw [pxXX_eq] at h
     refine pv_cut h fun _ hx => ?_
     have h2 := pbHX_ok l (caps 0) t (caps 1) u 0 (caps 2) .gone hx.1
     rw [pbHX_eq] at h2
     exact vc_cutO pvE_ok mixed 1 (ro := none) (split_of (by kernel_rfl)) h2 fun _ hk => hk.elim
   · have h := pxXX_ok l (caps 0) t 0 (caps 1) .gone none g.length (caps 2) (ros g) w hw (fun _ => And.intro ros_ob (And.intro ros_ob trivial))
     rw [pxXX_eq] at h
     refine pv_cut h fun _ hx => ?_
     have h2 := pbHX_ok l (caps 0) t (caps 1) none g.length (caps 2) (ros g) hx.1
     rw [pbHX_eq] at h2
     exact vc_cutO pvE_ok mixed 1 (ro := none) (split_of (by kernel_rfl)) h2 fun _ hk => hk.elim
   · have h := pxXN_ok l (caps 0) none m.length (caps 1) (ros m) w hw (fun _ => And.intro ros_ob (And.intro ros_ob trivial))
     rw [pxXN_eq] at h
     refine pv_cut h fun _ hx => ?_
     have h2 := pbVN_ok l (caps 0) m (caps 1) hx.1 hx.2 (And.intro ros_ob (And.intro ros_ob trivial))
     rw [pbVN_eq] at h2
     refine vc_cutO pvE_ok mixed 1 (ro := none) (split_of (by kernel_rfl)) h2 fun _ hk => ?_
     have h3 := pcN_ok l (caps 0) (chA l m) (chM l m) (ros m) hx.1 (fun k1 k2 => few_chg hk ⟨k1,k2⟩ (chg_is hk) (errC_ok.1 hx.1)) fun g hg k1 k2 => chg_height hg hk k1 (chg_is hk) k2
     rw [pcN_eq] at h3
     exact vc_sound pvE_ok mixed (ro := none) _ [] _ _ _ h3
   · have h := pxXX_ok l (caps 0) none m.length (caps 1) (ros m) u 0 (caps 2) .gone w hw (fun _ => And.intro ros_ob (And.intro ros_ob trivial))
     rw [pxXX_eq] at h
     refine pv_cut h fun _ hx => ?_
     have h2 := pbVX_ok l (caps 0) m (caps 1) u 0 (caps 2) .gone hx.1 hx.2 (And.intro ros_ob (And.intro ros_ob trivial))
     rw [pbVX_eq] at h2
     refine vc_cutO pvE_ok mixed 1 (ro := none) (split_of (by kernel_rfl)) h2 fun _ hk => ?_
     have h3 := pcH_ok l (caps 0) (chA l m) (chM l m) (ros m) u (caps 2) hx.1 (fun k1 k2 => few_chg hk ⟨k1,k2⟩ (chg_is hk) (errC_ok.1 hx.1)) fun g hg k1 k2 => chg_height hg hk k1 (chg_is hk) k2
     rw [pcH_eq] at h3
     exact vc_sound pvE_ok mixed (ro := none) _ [] _ _ _ h3
   · have h := pxXX_ok l (caps 0) none m.length (caps 1) (ros m) none g.length (caps 2) (ros g) w hw (fun _ => And.intro ros_ob (And.intro ros_ob (And.intro ros_ob trivial)))
     rw [pxXX_eq] at h
     refine pv_cut h fun _ hx => ?_
     have h2 := pbVX_ok l (caps 0) m (caps 1) none g.length (caps 2) (ros g) hx.1 hx.2 (And.intro ros_ob (And.intro ros_ob (And.intro ros_ob trivial)))
     rw [pbVX_eq] at h2
     refine vc_cutO pvE_ok mixed 1 (ro := none) (split_of (by kernel_rfl)) h2 fun _ hk => ?_
     have h3 := pcV_ok l (caps 0) (chA l m) (chM l m) (ros m) g (caps 2) hx.1 (fun k1 k2 => few_chg hk ⟨k1,k2⟩ (chg_is hk) (errC_ok.1 hx.1)) fun g hg k1 k2 => chg_height hg hk k1 (chg_is hk) k2
     rw [pcV_eq] at h3
     exact vc_sound pvE_ok mixed (ro := none) _ [] _ _ _ h3
theorem proved_law {K : Type} : ∀ (H : Heap) (avs : List Value) (ds : List (DataW K)),Still H→ReadsAll Try.prog H Try.f9.params.toList avs ds→Call Try.prog 9 avs H fun v _ => v = .bool true :=
 law_of (ps := [.ints .i64,.ints .i64,.ints .i64,.int .u16]) (by kernel_rfl) proved_small
end Go.Pier.Fl
