import Derived.Test.YtbehncpoppoglaaPierKC4
import Derived.Test.YtbehncpoppoglaaPierFlwk
import Derived.KernelRfl
set_option linter.unusedSimpArgs false
set_option linter.unusedVariables false
set_option maxRecDepth 100000
namespace Go.Pier.Fl
open Go Go.Pier Go.Proofs
noncomputable def atB : Code := Try.f50.body.getD .skip
def amt (w : Int) : Int := w % 301
noncomputable def atV :=
fun (w:Int)↦Ob ((301:Int)≠(0:Int))∧True∧Ob (vi ((IntKind.i64.wrap w).tmod (301:Int))=vi (amt w))
theorem atV_eq : atV = fun (w : Int) => vc Try.prog {} 0 6 true (fun _ => none) atB [] (argFr 0 [.int .u16 w]) [] (retK Try.prog Try.f50 (fun v _ => v = vi (amt w))) := by kernel_rfl
def atS (r : List Arg) : Prop × Value := match r with
 | [.plain (.int .u16 w)] => (0≤w∧w < 65536,vi (amt w))
 | _ => (False,undef)
def worksS (r : List Arg) : Prop × Value := match r with | [] => (True,.bool true) | _ => (False,undef)
noncomputable def adT : Ct := (((Ct.none.add 19 (pureG [] worksS)).add 49 (pureG [.ints .i64] fnS)).add 50 (pureG [.int .u16] atS)).add 51 (pureG [.ints .i64,.int .i64] pdS)
noncomputable def adE : VEnv := { ct := adT }
noncomputable def adB : Code := Try.f14.body.getD .skip
def scL (t : Int) (l : List Int) : List Int := l.map (t * ·)
def tmsF (z : Int) : Int := 1 + z % 3
def adI (l : List Int) (c : Nat) (a m t : Int) (b : Bool) : Nat → Option LInv := invOf 0 (.mk [
     ⟨Unit,fun _ => True,fun _ => [(0,.slice (some ⟨0,0,none⟩) l.length c),(9,vi a),(11,vi m),(12,.bool b),(20,vi t),(21,.slice none 0 0),(22,vi 0)],fun _ => [ros l],fun _ => 20,fun _ _ => none⟩,
     ⟨Nat,fun i => 0 < i∧i≤l.length,fun i => [(0,.slice (some ⟨0,0,none⟩) l.length c),(9,vi a),(11,vi m),(12,.bool b),(20,vi t),(21,.slice (some ⟨1,0,some 0⟩) i 0),(22,vi i)],fun i => [ros l,rws (scL t (l.take i))],fun i => 12 - i,fun _ _ => none⟩]
   (fun _ b => b) (fun i _ => [nsub 1 (i + 2)]))
def isTrue (v : Value) (_ : Heap) : Prop := v = .bool true
noncomputable def adK : KD := retK Try.prog Try.f14 isTrue
def adF (l : List Int) (c : Nat) (z a m : Int) (b : Bool) : Fr := [(0,.slice (some ⟨0,0,none⟩) l.length c),(3,.int .u8 z),(9,vi a),(11,vi m),(12,.bool b)]
noncomputable def adV :=
fun (l:List Int) (c:Nat) (w u z:Int)↦Ob ((List.take l.length (List.drop 0 (List.map (Value.int IntKind.i64) l))=List.map (Value.int IntKind.i64) (List.take l.length (List.drop 0 (intsOf (List.map (Value.int IntKind.i64) l))))∧0+l.length≤(List.map (Value.int IntKind.i64) l).length∧true=true)∧True)∧((!errC (List.take l.length (List.drop 0 (intsOf (List.map (Value.int IntKind.i64) l))))==(0:Int))=true→Ob True∧True∧Ob (isTrue (Value.bool true) [AObj.ro (List.map (Value.int IntKind.i64) l)]))∧((!errC (List.take l.length (List.drop 0 (intsOf (List.map (Value.int IntKind.i64) l))))==(0:Int))=false→Ob ((0:Int)≤w∧w<(65536:Int))∧Ob ((0:Int)≤u∧u<(65536:Int))∧Ob ((List.take l.length (List.drop 0 (List.map (Value.int IntKind.i64) l))=List.map (Value.int IntKind.i64) (List.take l.length (List.drop 0 (intsOf (List.map (Value.int IntKind.i64) l))))∧0+l.length≤(List.map (Value.int IntKind.i64) l).length∧true=true)∧Coins (List.take l.length (List.drop 0 (intsOf (List.map (Value.int IntKind.i64) l))))∧(0:Int)≤amt w∧amt w≤(300:Int))∧Ob ((List.take l.length (List.drop 0 (List.map (Value.int IntKind.i64) l))=List.map (Value.int IntKind.i64) (List.take l.length (List.drop 0 (intsOf (List.map (Value.int IntKind.i64) l))))∧0+l.length≤(List.map (Value.int IntKind.i64) l).length∧true=true)∧Coins (List.take l.length (List.drop 0 (intsOf (List.map (Value.int IntKind.i64) l))))∧(0:Int)≤amt u∧amt u≤(300:Int))∧(false=false→(false=true→True∧Ob (isTrue (Value.bool false) [AObj.ro (List.map (Value.int IntKind.i64) l)]))∧(false=false→(canB (List.take l.length (List.drop 0 (intsOf (List.map (Value.int IntKind.i64) l)))) (amt w).toNat=true→(canB (List.take l.length (List.drop 0 (intsOf (List.map (Value.int IntKind.i64) l)))) (amt u).toNat=true→(decide (IntKind.i64.wrap (amt w+amt u)≤(300:Int))=true→Ob ((List.take l.length (List.drop 0 (List.map (Value.int IntKind.i64) l))=List.map (Value.int IntKind.i64) (List.take l.length (List.drop 0 (intsOf (List.map (Value.int IntKind.i64) l))))∧0+l.length≤(List.map (Value.int IntKind.i64) l).length∧true=true)∧Coins (List.take l.length (List.drop 0 (intsOf (List.map (Value.int IntKind.i64) l))))∧(0:Int)≤IntKind.i64.wrap (amt w+amt u)∧IntKind.i64.wrap (amt w+amt u)≤(300:Int))∧(false=false→((!canB (List.take l.length (List.drop 0 (intsOf (List.map (Value.int IntKind.i64) l)))) (IntKind.i64.wrap (amt w+amt u)).toNat)=false→(decide (IntKind.i64.wrap (fewF (List.take l.length (List.drop 0 (intsOf (List.map (Value.int IntKind.i64) l)))) (amt w)+fewF (List.take l.length (List.drop 0 (intsOf (List.map (Value.int IntKind.i64) l)))) (amt u))<fewF (List.take l.length (List.drop 0 (intsOf (List.map (Value.int IntKind.i64) l)))) (IntKind.i64.wrap (amt w+amt u)))=true→True∧Ob (isTrue (Value.bool false) [AObj.ro (List.map (Value.int IntKind.i64) l)]))∧(decide (IntKind.i64.wrap (fewF (List.take l.length (List.drop 0 (intsOf (List.map (Value.int IntKind.i64) l)))) (amt w)+fewF (List.take l.length (List.drop 0 (intsOf (List.map (Value.int IntKind.i64) l)))) (amt u))<fewF (List.take l.length (List.drop 0 (intsOf (List.map (Value.int IntKind.i64) l)))) (IntKind.i64.wrap (amt w+amt u)))=false→∃ (y:Unit),Ob (errC l=(0:Int))∧(Ob (AObj.ro (List.map (Value.int IntKind.i64) l)=AObj.ro (List.map (nmap1 fun (b:Nat)↦b) (List.map (Value.int IntKind.i64) l))∧AObj.sc 1 (AObj.ro (List.map (Value.int IntKind.i64) l))=true)∧True)∧Ob (Value.slice (some (ad0 0)) l.length c=Value.slice (some (ad0 0)) l.length c)∧Ob (z=z)∧Ob (amt w=amt w)∧Ob (fewF (List.take l.length (List.drop 0 (intsOf (List.map (Value.int IntKind.i64) l)))) (amt w)=fewF l (amt w))∧Ob (canB (List.take l.length (List.drop 0 (intsOf (List.map (Value.int IntKind.i64) l)))) (amt w).toNat=canB l (amt w).toNat)∧True))∧((!canB (List.take l.length (List.drop 0 (intsOf (List.map (Value.int IntKind.i64) l)))) (IntKind.i64.wrap (amt w+amt u)).toNat)=true→True∧Ob (isTrue (Value.bool false) [AObj.ro (List.map (Value.int IntKind.i64) l)])))∧(false=true→True∧Ob (isTrue (Value.bool false) [AObj.ro (List.map (Value.int IntKind.i64) l)])))∧(decide (IntKind.i64.wrap (amt w+amt u)≤(300:Int))=false→∃ (y:Unit),Ob (errC l=(0:Int))∧(Ob (AObj.ro (List.map (Value.int IntKind.i64) l)=AObj.ro (List.map (nmap1 fun (b:Nat)↦b) (List.map (Value.int IntKind.i64) l))∧AObj.sc 1 (AObj.ro (List.map (Value.int IntKind.i64) l))=true)∧True)∧Ob (Value.slice (some (ad0 0)) l.length c=Value.slice (some (ad0 0)) l.length c)∧Ob (z=z)∧Ob (amt w=amt w)∧Ob (fewF (List.take l.length (List.drop 0 (intsOf (List.map (Value.int IntKind.i64) l)))) (amt w)=fewF l (amt w))∧Ob (canB (List.take l.length (List.drop 0 (intsOf (List.map (Value.int IntKind.i64) l)))) (amt w).toNat=canB l (amt w).toNat)∧True))∧(canB (List.take l.length (List.drop 0 (intsOf (List.map (Value.int IntKind.i64) l)))) (amt u).toNat=false→∃ (y:Unit),Ob (errC l=(0:Int))∧(Ob (AObj.ro (List.map (Value.int IntKind.i64) l)=AObj.ro (List.map (nmap1 fun (b:Nat)↦b) (List.map (Value.int IntKind.i64) l))∧AObj.sc 1 (AObj.ro (List.map (Value.int IntKind.i64) l))=true)∧True)∧Ob (Value.slice (some (ad0 0)) l.length c=Value.slice (some (ad0 0)) l.length c)∧Ob (z=z)∧Ob (amt w=amt w)∧Ob (fewF (List.take l.length (List.drop 0 (intsOf (List.map (Value.int IntKind.i64) l)))) (amt w)=fewF l (amt w))∧Ob (canB (List.take l.length (List.drop 0 (intsOf (List.map (Value.int IntKind.i64) l)))) (amt w).toNat=canB l (amt w).toNat)∧True))∧(canB (List.take l.length (List.drop 0 (intsOf (List.map (Value.int IntKind.i64) l)))) (amt w).toNat=false→∃ (y:Unit),Ob (errC l=(0:Int))∧(Ob (AObj.ro (List.map (Value.int IntKind.i64) l)=AObj.ro (List.map (nmap1 fun (b:Nat)↦b) (List.map (Value.int IntKind.i64) l))∧AObj.sc 1 (AObj.ro (List.map (Value.int IntKind.i64) l))=true)∧True)∧Ob (Value.slice (some (ad0 0)) l.length c=Value.slice (some (ad0 0)) l.length c)∧Ob (z=z)∧Ob (amt w=amt w)∧Ob (fewF (List.take l.length (List.drop 0 (intsOf (List.map (Value.int IntKind.i64) l)))) (amt w)=fewF l (amt w))∧Ob (canB (List.take l.length (List.drop 0 (intsOf (List.map (Value.int IntKind.i64) l)))) (amt w).toNat=canB l (amt w).toNat)∧True)))∧(false=true→True∧Ob (isTrue (Value.bool false) [AObj.ro (List.map (Value.int IntKind.i64) l)])))
theorem adV_eq : adV = fun (l : List Int) (c : Nat) (w u z : Int) => vc Try.prog adE 1 138 true (fun _ => none) (headC 6 adB) [] (argFr 0 [.slice (some ⟨0,0,none⟩) l.length c,.int .u16 w,.int .u16 u,.int .u8 z]) [ros l] (cutK 1 (fun b => b) (fun _ : Unit => errC l = 0) (fun _ => adF l c z (amt w) (fewF l (amt w)) (canB l (amt w).toNat)) (fun _ => [ros l]) adK) := by kernel_rfl
noncomputable def adW :=
fun (l:List Int) (c:Nat) (z a m:Int) (b:Bool)↦Ob ((3:Int)≠(0:Int))∧((∃ (y:Unit),Ob True∧(Ob (AObj.ro (List.map (Value.int IntKind.i64) l)=AObj.ro (List.map (nmap1 fun (b:Nat)↦b) (List.map (Value.int IntKind.i64) l))∧AObj.sc 1 (AObj.ro (List.map (Value.int IntKind.i64) l))=true)∧True)∧Ob (Value.slice (some (ad0 0)) l.length c=Value.slice (some (ad0 0)) l.length c)∧Ob (a=a)∧Ob (m=m)∧Ob (b=b)∧Ob (IntKind.i64.wrap ((1:Int)+IntKind.i64.wrap (z.tmod (3:Int)))=tmsF z)∧Ob (Value.slice none 0 0=Value.slice none 0 0)∧Ob ((0:Int)=(0:Int))∧True)∨∃ (y:Nat),Ob (0<y∧y≤l.length)∧(Ob (AObj.ro (List.map (Value.int IntKind.i64) l)=AObj.ro (List.map (nmap1 fun (b:Nat)↦b) (List.map (Value.int IntKind.i64) l))∧AObj.sc 2 (AObj.ro (List.map (Value.int IntKind.i64) l))=true)∧False)∧Ob (Value.slice (some (ad0 0)) l.length c=Value.slice (some (ad0 0)) l.length c)∧Ob (a=a)∧Ob (m=m)∧Ob (b=b)∧Ob (IntKind.i64.wrap ((1:Int)+IntKind.i64.wrap (z.tmod (3:Int)))=tmsF z)∧Ob (Value.slice none 0 0=Value.slice (some ⟨1,0,some 0⟩) y 0)∧Ob ((0:Int)=(y:Int))∧True)∧(∀ (x:Unit),Ob True→(decide ((0:Int)<(l.length:Int))=true→Ob ((0:Int)≤(0:Int)∧(0:Int)<(l.length:Int)∧true=true)∧Ob (IntAt IntKind.i64 (List.map (Value.int IntKind.i64) l) 0)∧Ob (andP (some (0+1≤1∧true=true)) (1≤1099511627776∧2064≤281474976710656∧1=1∧0=0∧0<1))∧((∃ (y:Unit),Ob True∧Ob (20<20)∧(Ob (AObj.ro (List.map (Value.int IntKind.i64) l)=AObj.ro (List.map (nmap1 (nsub 1 2)) (List.map (Value.int IntKind.i64) l))∧AObj.sc 1 (AObj.ro (List.map (Value.int IntKind.i64) l))=true)∧True)∧Ob (Value.slice (some (ad0 0)) l.length c=Value.slice (some (ad0 0)) l.length c)∧Ob (a=a)∧Ob (m=m)∧Ob (b=b)∧Ob (tmsF z=tmsF z)∧Ob (Value.slice (some ⟨2,0,some 0⟩) 1 0=Value.slice none 0 0)∧Ob (IntKind.i64.wrap ((0:Int)+(1:Int))=(0:Int))∧True)∨∃ (y:Nat),Ob (0<y∧y≤l.length)∧Ob (12-y<20)∧(Ob (AObj.ro (List.map (Value.int IntKind.i64) l)=AObj.ro (List.map (nmap1 (nsub 1 2)) (List.map (Value.int IntKind.i64) l))∧AObj.sc 2 (AObj.ro (List.map (Value.int IntKind.i64) l))=true)∧Ob (AObj.rw [vi (IntKind.i64.wrap (tmsF z * getI (List.map (Value.int IntKind.i64) l) 0))] (some 1)=AObj.rw (List.map (nmap1 (nsub 1 2)) (List.map (Value.int IntKind.i64) (scL (tmsF z) (List.take y l)))) (some 1)∧AObj.sc 2 (AObj.rw (List.map (Value.int IntKind.i64) (scL (tmsF z) (List.take y l))) (some 1))=true)∧True)∧Ob (Value.slice (some (ad0 0)) l.length c=Value.slice (some (ad0 0)) l.length c)∧Ob (a=a)∧Ob (m=m)∧Ob (b=b)∧Ob (tmsF z=tmsF z)∧Ob (Value.slice (some ⟨2,0,some 0⟩) 1 0=Value.slice (some ⟨2,0,some 0⟩) y 0)∧Ob (IntKind.i64.wrap ((0:Int)+(1:Int))=(y:Int))∧True))∧(decide ((0:Int)<(l.length:Int))=false→Ob True∧(true=false→(decide ((300:Int)<IntKind.i64.wrap (tmsF z * a))=true→Ob True∧True∧Ob (isTrue (Value.bool true) [AObj.ro (List.map (Value.int IntKind.i64) l)]))∧(decide ((300:Int)<IntKind.i64.wrap (tmsF z * a))=false→Ob False∧False))∧(true=true→Ob True∧True∧Ob (isTrue (Value.bool true) [AObj.ro (List.map (Value.int IntKind.i64) l)]))))∧∀ (x:Nat),Ob (0<x∧x≤l.length)→(decide ((x:Int)<(l.length:Int))=true→Ob ((0:Int)≤(x:Int)∧(x:Int)<(l.length:Int)∧true=true)∧Ob (IntAt IntKind.i64 (List.map (Value.int IntKind.i64) l) (0+(x:Int).toNat * 1))∧Ob (andP (some (0+1≤1∧true=true)) (x+1≤1099511627776∧(2 * (x+1)+256) * 8≤281474976710656∧1=1∧(List.map (Value.int IntKind.i64) (scL (tmsF z) (List.take x l))).length=x * 1))∧((∃ (y:Unit),Ob True∧Ob (20<12-x)∧(Ob (AObj.ro (List.map (Value.int IntKind.i64) l)=AObj.ro (List.map (nmap1 (nsub 1 3)) (List.map (Value.int IntKind.i64) l))∧AObj.sc 1 (AObj.ro (List.map (Value.int IntKind.i64) l))=true)∧True)∧Ob (Value.slice (some (ad0 0)) l.length c=Value.slice (some (ad0 0)) l.length c)∧Ob (a=a)∧Ob (m=m)∧Ob (b=b)∧Ob (tmsF z=tmsF z)∧Ob (Value.slice (some ⟨3,0,some 0⟩) (x+1) 0=Value.slice none 0 0)∧Ob (IntKind.i64.wrap ((x:Int)+(1:Int))=(0:Int))∧True)∨∃ (y:Nat),Ob (0<y∧y≤l.length)∧Ob (12-y<12-x)∧(Ob (AObj.ro (List.map (Value.int IntKind.i64) l)=AObj.ro (List.map (nmap1 (nsub 1 3)) (List.map (Value.int IntKind.i64) l))∧AObj.sc 2 (AObj.ro (List.map (Value.int IntKind.i64) l))=true)∧Ob (AObj.rw (List.map (Value.int IntKind.i64) (scL (tmsF z) (List.take x l))++[vi (IntKind.i64.wrap (tmsF z * getI (List.map (Value.int IntKind.i64) l) (0+(x:Int).toNat * 1)))]) (some 1)=AObj.rw (List.map (nmap1 (nsub 1 3)) (List.map (Value.int IntKind.i64) (scL (tmsF z) (List.take y l)))) (some 1)∧AObj.sc 2 (AObj.rw (List.map (Value.int IntKind.i64) (scL (tmsF z) (List.take y l))) (some 1))=true)∧True)∧Ob (Value.slice (some (ad0 0)) l.length c=Value.slice (some (ad0 0)) l.length c)∧Ob (a=a)∧Ob (m=m)∧Ob (b=b)∧Ob (tmsF z=tmsF z)∧Ob (Value.slice (some ⟨3,0,some 0⟩) (x+1) 0=Value.slice (some ⟨3,0,some 0⟩) y 0)∧Ob (IntKind.i64.wrap ((x:Int)+(1:Int))=(y:Int))∧True))∧(decide ((x:Int)<(l.length:Int))=false→Ob ((List.take x (List.drop 0 (List.map (Value.int IntKind.i64) (scL (tmsF z) (List.take x l))))=List.map (Value.int IntKind.i64) (List.take x (List.drop 0 (intsOf (List.map (Value.int IntKind.i64) (scL (tmsF z) (List.take x l))))))∧0+x≤(List.map (Value.int IntKind.i64) (scL (tmsF z) (List.take x l))).length∧true=true)∧True)∧((!errC (List.take x (List.drop 0 (intsOf (List.map (Value.int IntKind.i64) (scL (tmsF z) (List.take x l))))))==(0:Int))=false→(decide ((300:Int)<IntKind.i64.wrap (tmsF z * a))=true→Ob True∧True∧Ob (isTrue (Value.bool true) [AObj.ro (List.map (Value.int IntKind.i64) l),AObj.rw (List.map (Value.int IntKind.i64) (scL (tmsF z) (List.take x l))) (some 1)]))∧(decide ((300:Int)<IntKind.i64.wrap (tmsF z * a))=false→Ob ((List.take x (List.drop 0 (List.map (Value.int IntKind.i64) (scL (tmsF z) (List.take x l))))=List.map (Value.int IntKind.i64) (List.take x (List.drop 0 (intsOf (List.map (Value.int IntKind.i64) (scL (tmsF z) (List.take x l))))))∧0+x≤(List.map (Value.int IntKind.i64) (scL (tmsF z) (List.take x l))).length∧true=true)∧Coins (List.take x (List.drop 0 (intsOf (List.map (Value.int IntKind.i64) (scL (tmsF z) (List.take x l))))))∧(0:Int)≤IntKind.i64.wrap (tmsF z * a)∧IntKind.i64.wrap (tmsF z * a)≤(300:Int))∧(true=true→((canB (List.take x (List.drop 0 (intsOf (List.map (Value.int IntKind.i64) (scL (tmsF z) (List.take x l)))))) (IntKind.i64.wrap (tmsF z * a)).toNat==b)=true→((fewF (List.take x (List.drop 0 (intsOf (List.map (Value.int IntKind.i64) (scL (tmsF z) (List.take x l)))))) (IntKind.i64.wrap (tmsF z * a))==m)=true→Ob True∧True∧Ob (isTrue (Value.bool true) [AObj.ro (List.map (Value.int IntKind.i64) l),AObj.rw (List.map (Value.int IntKind.i64) (scL (tmsF z) (List.take x l))) (some 1)]))∧((fewF (List.take x (List.drop 0 (intsOf (List.map (Value.int IntKind.i64) (scL (tmsF z) (List.take x l)))))) (IntKind.i64.wrap (tmsF z * a))==m)=false→True∧Ob (isTrue (Value.bool false) [AObj.ro (List.map (Value.int IntKind.i64) l),AObj.rw (List.map (Value.int IntKind.i64) (scL (tmsF z) (List.take x l))) (some 1)])))∧((canB (List.take x (List.drop 0 (intsOf (List.map (Value.int IntKind.i64) (scL (tmsF z) (List.take x l)))))) (IntKind.i64.wrap (tmsF z * a)).toNat==b)=false→True∧Ob (isTrue (Value.bool false) [AObj.ro (List.map (Value.int IntKind.i64) l),AObj.rw (List.map (Value.int IntKind.i64) (scL (tmsF z) (List.take x l))) (some 1)])))∧(true=false→True∧Ob (isTrue (Value.bool false) [AObj.ro (List.map (Value.int IntKind.i64) l),AObj.rw (List.map (Value.int IntKind.i64) (scL (tmsF z) (List.take x l))) (some 1)]))))∧((!errC (List.take x (List.drop 0 (intsOf (List.map (Value.int IntKind.i64) (scL (tmsF z) (List.take x l))))))==(0:Int))=true→Ob True∧True∧Ob (isTrue (Value.bool true) [AObj.ro (List.map (Value.int IntKind.i64) l),AObj.rw (List.map (Value.int IntKind.i64) (scL (tmsF z) (List.take x l))) (some 1)])))
theorem adW_eq : adW = fun (l : List Int) (c : Nat) (z a m : Int) (b : Bool) => vc Try.prog adE 1 138 true (adI l c a m (tmsF z) b) (tailC 6 adB) [] (adF l c z a m b) [ros l] adK := by kernel_rfl
noncomputable def adN :=
fun (w u z:Int)↦Ob True∧(true=true→Ob True∧True∧Ob (isTrue (Value.bool true) []))∧(true=false→Ob ((0:Int)≤w∧w<(65536:Int))∧Ob ((0:Int)≤u∧u<(65536:Int))∧Ob False∧False)
theorem adN_eq : adN = fun (w u z : Int) => vc Try.prog adE 0 138 true (fun _ => none) adB [] (argFr 0 [.slice none 0 0,.int .u16 w,.int .u16 u,.int .u8 z]) [] (retK Try.prog Try.f14 isTrue) := by kernel_rfl
noncomputable def adH :=
fun (s:Option Nat) (c:Nat) (w u z:Int)↦Ob True∧(true=true→Ob True∧True∧Ob (isTrue (Value.bool true) [AObj.gone]))∧(true=false→Ob ((0:Int)≤w∧w<(65536:Int))∧Ob ((0:Int)≤u∧u<(65536:Int))∧Ob False∧False)
theorem adH_eq : adH = fun (s : Option Nat) (c : Nat) (w u z : Int) => vc Try.prog adE 1 138 true (fun _ => none) adB [] (argFr 0 [.slice (some ⟨0,0,s⟩) 0 c,.int .u16 w,.int .u16 u,.int .u8 z]) [.gone] (retK Try.prog Try.f14 isTrue) := by kernel_rfl
theorem atV_ok (w : Int) (h : 0≤w∧w < 65536) : atV w := by
 unfold atV
 simp only [SS,reduceCtorEq,Arg.list,Arg.num,Arg.flag,intOf,andP,Nat.reduceLeDiff,Nat.reduceAdd,Nat.reduceMul,Nat.reduceLT]
 rw [wrap_in (by omega) (by omega),Int.tmod_eq_emod_of_nonneg h.1]
 exact ⟨by decide,rfl⟩
theorem amt_rng (w : Int) : 0≤amt w∧amt w≤300 := by unfold amt; omega
theorem dot_add {l : List Int} {y z : Nat→Int} : ∀ n,dotF l (fun k => y k + z k) n = dotF l y n + dotF l z n
 | 0 => rfl
 | n + 1 => by rw [dotF,dotF,dotF,dot_add n,Int.mul_add]; omega
theorem pf_add {y z : Nat→Int} : ∀ n,pf (fun k => y k + z k) n = pf y n + pf z n
 | 0 => rfl
 | n + 1 => by rw [pf,pf,pf,pf_add n]; omega
theorem add_best {l : List Int} (hc : Coins l) {a b : Nat} (hab : a + b≤9999) (h1 : canB l a = true) (h2 : canB l b = true) : canB l (a + b) = true∧m5 (bF l (a + b))≤m5 (bF l a) + m5 (bF l b) := by
 obtain ⟨p1,p2⟩ := ((best_is hc a (by omega)).1 h1).1
 obtain ⟨q1,q2⟩ := ((best_is hc b (by omega)).1 h2).1
 have h := (best_is hc (a + b) hab).2 (fun k => bF l a k + bF l b k) ⟨fun k hk => by have := p1 k hk; have := q1 k hk; show 0≤bF l a k + bF l b k; omega,by rw [dot_add,p2,q2]; omega⟩
 rw [pf_add,← best_m5 hc (by omega) h1,← best_m5 hc (by omega) h2] at h
 exact h
theorem sc_get {t : Int} {l : List Int} {k : Nat} (h : k < l.length) : (scL t l).getD k 0 = t * l.getD k 0 := by
 unfold scL
 rw [List.getD_eq_getElem?_getD,List.getElem?_map,List.getD_eq_getElem?_getD,List.getElem?_eq_getElem h]; rfl
theorem sc_len {t : Int} {l : List Int} : (scL t l).length = l.length := by unfold scL; rw [List.length_map]
theorem dot_sc {t : Int} {l : List Int} {y : Nat→Int} : ∀ n,n≤l.length→dotF (scL t l) y n = t * dotF l y n
 | 0,_ => by simp [dotF]
 | n + 1,h => by rw [dotF,dotF,dot_sc n (by omega),sc_get (by omega),Int.mul_add,Int.mul_assoc]
theorem sc_best {l : List Int} {t : Int} (hc : Coins l) (hs : Coins (scL t l)) (ht : 1≤t) {a b : Nat} (hb : (b : Int) = t * a) (ha : a≤9999) (hb9 : b≤9999) : canB (scL t l) b = canB l a∧(canB l a = true→m5 (bF (scL t l) b) = m5 (bF l a)) := by
 have to : ∀ y,isCh l a y→isCh (scL t l) b y := fun y hy => ⟨fun k hk => hy.1 k (by rw [sc_len] at hk; exact hk),by rw [sc_len,dot_sc _ (Nat.le_refl _),hy.2,hb]⟩
 have fr : ∀ y,isCh (scL t l) b y→isCh l a y := fun y hy => ⟨fun k hk => hy.1 k (by rw [sc_len]; exact hk),by
   have := hy.2
   rw [sc_len,dot_sc _ (Nat.le_refl _),hb] at this
   exact Int.eq_of_mul_eq_mul_left (by omega) this⟩
 have e : canB (scL t l) b = canB l a := by
   rw [Bool.eq_iff_iff]
   exact ⟨fun h => ((best_is hc a ha).2 _ (fr _ ((best_is hs b hb9).1 h).1)).1,fun h => ((best_is hs b hb9).2 _ (to _ ((best_is hc a ha).1 h).1)).1⟩
 refine ⟨e,fun h => ?_⟩
 have h' : canB (scL t l) b = true := by rw [e]; exact h
 have h1 := ((best_is hc a ha).2 _ (fr _ ((best_is hs b hb9).1 h').1)).2
 have h2 := ((best_is hs b hb9).2 _ (to _ ((best_is hc a ha).1 h).1)).2
 rw [sc_len,← best_m5 hc ha h] at h2
 have h3 := best_m5 hs hb9 h'
 rw [sc_len] at h3
 rw [← h3] at h1
 omega
theorem few_val {l : List Int} (hc : Coins l) {a : Int} (ha : 0≤a∧a≤300) : fewF l a = if canB l a.toNat = true then m5 (bF l a.toNat) else 0 := by
 have h0 : errA l a = 0 := errA_0.2 ⟨errC_ok.2 hc,ha⟩
 cases hx : canB l a.toNat with
 | true => rw [if_pos rfl,fewF_ok (errN_0 h0 hx)]
 | false => rw [if_neg Bool.false_ne_true,fewF_no (by rw [errN_5 h0 hx]; decide)]
theorem few_bd {l : List Int} (hc : Coins l) {a : Int} (ha : 0≤a∧a≤300) : 0≤fewF l a∧fewF l a≤300 := by
 have h0 : errA l a = 0 := errA_0.2 ⟨errC_ok.2 hc,ha⟩
 cases hx : canB l a.toNat with
 | true => exact (best_fact hc ha (errN_0 h0 hx)).2.2.2.2
 | false => rw [fewF_no (by rw [errN_5 h0 hx]; decide)]; omega
theorem adV_ok (l : List Int) (c : Nat) (w u z : Int) (hw : 0≤w∧w < 65536) (hu : 0≤u∧u < 65536) : adV l c w u z := by
 unfold adV
 have aw := amt_rng w
 have au := amt_rng u
 simp only [SS,reduceCtorEq,Arg.list,Arg.num,Arg.flag,intOf,andP,Nat.reduceLeDiff,Nat.reduceAdd,Nat.reduceMul,Nat.reduceLT,isTrue]
 intro h
 have hc := errC_ok.1 h
 have w1 : IntKind.i64.wrap (amt w + amt u) = amt w + amt u := wrap_in (by omega) (by omega)
 have b1 := few_bd hc aw
 have b2 := few_bd hc au
 have w2 : IntKind.i64.wrap (fewF l (amt w) + fewF l (amt u)) = fewF l (amt w) + fewF l (amt u) := wrap_in (by omega) (by omega)
 rw [w1,w2]
 refine ⟨hw,hu,⟨hc,aw⟩,⟨hc,au⟩,fun h1 => ⟨fun h2 => ⟨fun h3 => ?_,fun _ => h⟩,fun _ => h⟩,fun _ => h⟩
 have hb := add_best hc (a := (amt w).toNat) (b := (amt u).toNat) (by omega) h1 h2
 have e : (amt w).toNat + (amt u).toNat = (amt w + amt u).toNat := by omega
 rw [e] at hb
 refine ⟨⟨hc,by omega,h3⟩,fun h4 => ⟨fun h5 => ?_,fun _ => h⟩,fun h4 => by rw [hb.1] at h4; cases h4⟩
 rw [few_val hc aw,few_val hc au,few_val hc ⟨by omega,h3⟩,if_pos h1,if_pos h2,if_pos h4] at h5
 omega
theorem sc_take {t : Int} {l : List Int} {x : Nat} (hx : x < l.length) : scL t (List.take (x + 1) l) = scL t (List.take x l) ++ [t * l.getD x 0] := by
 unfold scL
 rw [List.take_succ_eq_append_getElem hx,List.map_append,List.map_singleton,List.getD_eq_getElem?_getD,List.getElem?_eq_getElem hx]; rfl
theorem adW_ok (l : List Int) (c : Nat) (z a m : Int) (b : Bool) (hc : Coins l) (hz : 0≤z∧z < 256) (ha : 0≤a∧a≤300) (hm : m = fewF l a) (hb : b = canB l a.toNat) : adW l c z a m b := by
 unfold adW
 have hp := hc.pos
 have hf := hc.few
 have ht : 1≤tmsF z∧tmsF z≤3 := by unfold tmsF; omega
 have wm : ∀ v,0≤v∧v≤300→IntKind.i64.wrap (tmsF z * v) = tmsF z * v∧0≤tmsF z * v∧tmsF z * v≤900 := fun v hv => by
   have h1 := Int.mul_nonneg (show 0≤tmsF z by omega) hv.1
   have h2 := Int.mul_le_mul ht.2 hv.2 hv.1 (by omega)
   exact ⟨wrap_in (by omega) (by omega),h1,by omega⟩
 have cr : ∀ j,j < l.length→0≤l.getD j 0∧l.getD j 0≤300 := fun j hj => by have := coin_rng hc hj; omega
 simp only [SS,reduceCtorEq,Arg.list,Arg.num,Arg.flag,intOf,andP,Nat.reduceLeDiff,Nat.reduceAdd,Nat.reduceMul,Nat.reduceLT,isTrue]
 have wz : IntKind.i64.wrap (1 + IntKind.i64.wrap (z.tmod 3)) = tmsF z := by
   rw [Int.tmod_eq_emod_of_nonneg hz.1,wrap_in (x := z % 3) (by omega) (by omega),wrap_in (by omega) (by omega)]; rfl
 refine ⟨by decide,wz,fun h => ⟨by omega,by omega,1,by omega,by omega,?_,rfl,rfl⟩,fun x hx => ⟨fun h => ⟨by omega,by omega,⟨by omega,by omega,by rw [sc_len,List.length_take]; omega⟩,x + 1,by omega,by omega,?_,rfl,wrap_succ (n := 10) (by omega) (by omega)⟩,fun h => ?_⟩⟩
 · rw [(wm _ (cr 0 (by omega))).1,show (1 : Nat) = 0 + 1 from rfl,sc_take (by omega)]; rfl
 · rw [(wm _ (cr x (by omega))).1,sc_take (by omega)]
 · have e : x = l.length := by omega
   have e2 : List.take x (scL (tmsF z) (List.take x l)) = scL (tmsF z) l := by
     rw [e,List.take_length,← sc_len (t := tmsF z) (l := l),List.take_length]
   have e3 : scL (tmsF z) (List.take x l) = scL (tmsF z) l := by rw [e,List.take_length]
   have el : (scL (tmsF z) l).length = x := by rw [sc_len]; omega
   rw [e2,e3]
   have g : List.take x (List.map (Value.int IntKind.i64) (scL (tmsF z) l)) = List.map (Value.int IntKind.i64) (scL (tmsF z) l)∧x≤(scL (tmsF z) l).length := ⟨List.take_of_length_le (by rw [List.length_map]; omega),by omega⟩
   obtain ⟨wa,wb,wc⟩ := wm a ha
   rw [wa]
   refine ⟨g,fun h2 h3 => ?_⟩
   have hs := errC_ok.1 h2
   have hk := sc_best hc hs ht.1 (a := a.toNat) (b := (tmsF z * a).toNat) (by rw [Int.toNat_of_nonneg wb,Int.toNat_of_nonneg ha.1]) (by omega) (by omega)
   refine ⟨⟨g,hs,wb,by omega⟩,fun h4 h5 => h5 ?_,fun h4 => h4 (by rw [hk.1,hb])⟩
   rw [hm,few_val hc ha,few_val hs ⟨wb,by omega⟩,hk.1]
   cases hx2 : canB l a.toNat with
   | true => rw [if_pos rfl,if_pos rfl,hk.2 hx2]
   | false => rfl
theorem adN_ok (w u z : Int) : adN w u z := by
 unfold adN
 simp only [SS,reduceCtorEq,Arg.list,Arg.num,Arg.flag,intOf,andP,Nat.reduceLeDiff,Nat.reduceAdd,Nat.reduceMul,Nat.reduceLT,isTrue]
theorem adH_ok (s : Option Nat) (c : Nat) (w u z : Int) : adH s c w u z := by
 unfold adH
 simp only [SS,reduceCtorEq,Arg.list,Arg.num,Arg.flag,intOf,andP,Nat.reduceLeDiff,Nat.reduceAdd,Nat.reduceMul,Nat.reduceLT,isTrue]
theorem worksG_ok : ∀ args H φ v H' l,pureG [] worksS args H = some (φ,v,H',l)→Asks φ→Call Try.prog 19 args H (fun v' H2 => v' = v∧H2 = H')∧Kept H H' l :=
 closedG_ok (works_ok.call.mono fun v H h => h.1) rfl
theorem atG_ok : ∀ args H φ v H' l,pureG [.int .u16] atS args H = some (φ,v,H',l)→Asks φ→Call Try.prog 50 args H (fun v' H2 => v' = v∧H2 = H')∧Kept H H' l :=
 pureG_ok fun r hk hs => match r,hk with
   | [_],⟨⟨w,ha⟩,_⟩ => by
     subst ha
     exact ⟨rfl,fun caps => Call.ofVc E0_ok mixed (c := atB) (inv := fun _ => none) Try.func50 (by kernel_rfl) (cast (congrFun atV_eq w) (atV_ok w hs))⟩
theorem adT_ok : CtOk Try.prog adT := (((CtOk.none.add worksG_ok).add fnG_ok).add atG_ok).add pdG_ok
theorem adE_ok : VOk Try.prog adE := ⟨adT_ok,E0_ok.cc,E0_ok.yc,E0_ok.orc⟩
theorem u8_wfA {n : Int} (h : (Lit.int .u8 n).wf = true) : 0≤n∧n < 256 := by
 simp only [Lit.wf,Bool.and_eq_true,decide_eq_true_eq] at h
 have h1 : IntKind.u8.min = 0 := rfl
 have h2 : IntKind.u8.max = 255 := rfl
 rw [h1,h2] at h
 omega
theorem u16_wfA {n : Int} (h : (Lit.int .u16 n).wf = true) : 0≤n∧n < 65536 := by
 simp only [Lit.wf,Bool.and_eq_true,decide_eq_true_eq] at h
 have h1 : IntKind.u16.min = 0 := rfl
 have h2 : IntKind.u16.max = 65535 := rfl
 rw [h1,h2] at h
 omega
theorem added_small (r : List Arg) (hr : fitsAll [.ints .i64,.int .u16,.int .u16,.int .u8] r) (caps : Nat→Nat) : Call Try.prog 14 (canonA caps 0 r) (canonH r) isTrue := match r,hr with
 | [_,_,_,_],⟨hl,⟨w,ew,hw⟩,⟨u,eu,hu⟩,⟨z,ez,hz⟩,_⟩ => by
   subst ew; subst eu; subst ez
   rcases hl with rfl | ⟨s,rfl⟩ | ⟨l,rfl,hl0,hl,_⟩
   · exact Call.ofVc adE_ok mixed (c := adB) (inv := fun _ => none) Try.func14 (by kernel_rfl) (cast (congrFun (congrFun (congrFun adN_eq w) u) z) (adN_ok w u z))
   · exact Call.ofVc adE_ok mixed (c := adB) (inv := fun _ => none) Try.func14 (by kernel_rfl) (cast (congrFun (congrFun (congrFun (congrFun (congrFun adH_eq s) (caps 0)) w) u) z) (adH_ok s (caps 0) w u z))
   · have h := adV_ok l (caps 0) w u z (u16_wfA hw) (u16_wfA hu)
     rw [adV_eq] at h
     refine Call.ofVW (H := [ros l]) (args := [.slice (some ⟨0,0,none⟩) l.length (caps 0),.int .u16 w,.int .u16 u,.int .u8 z]) (R := isTrue) Try.func14 (c := adB) (by kernel_rfl) (vc_cut adE_ok mixed 6 (ro := none) (split_of (by kernel_rfl)) h fun _ hz0 => ?_)
     have h2 := adW_ok l (caps 0) z (amt w) _ _ (errC_ok.1 hz0) (u8_wfA hz) (amt_rng w) rfl rfl
     rw [adW_eq] at h2
     exact vc_sound adE_ok mixed (ro := none) _ [] _ _ _ h2
theorem added_law {K : Type} : ∀ (H : Heap) (avs : List Value) (ds : List (DataW K)),Still H→ReadsAll Try.prog H Try.f14.params.toList avs ds→Call Try.prog 14 avs H fun v _ => v = .bool true :=
 law_of (ps := [.ints .i64,.int .u16,.int .u16,.int .u8]) (by kernel_rfl) added_small
end Go.Pier.Fl
