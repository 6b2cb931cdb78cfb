import Derived.Test.YtbehncpoppoglaaPierKG5
import Derived.Test.YtbehncpoppoglaaPierKG6
import Derived.KernelRfl
set_option linter.unusedSimpArgs false
set_option linter.unusedVariables false
set_option maxRecDepth 100000
namespace Go.Pier.Fl
open Go Go.Pier Go.Proofs
noncomputable def gsT : Ct := (((((((Ct.none.add 19 (pureG [] worksS)).add 49 (pureG [.ints .i64] fnS)).add 50 (pureG [.int .u16] atS)).add 51 (pureG [.ints .i64,.int .i64] pdS)).add 28 (newG [.ints .i64,.int .i64] gdOS)).add 20 (pureG [.ints .i64,.ints .i64] rkS)).add 37 (pureG [.ints .i64,.int .i64] cbS)).add 35 (pureG [.ints .i64] baS)
noncomputable def gsE : VEnv := { ct := gsT }
noncomputable def gsB : Code := Try.f10.body.getD .skip
noncomputable def gsK : KD := retK Try.prog Try.f10 isTrue
def gsF (l : List Int) (c : Nat) (a r m n b : Int) (is : Bool) : Fr := [(0,.slice (some ⟨0,0,none⟩) l.length c),(5,vi a),(7,vi r),(10,vi m),(11,vi n),(12,.bool is),(13,.bool true),(14,vi b)]
def gsG (l : List Int) (c : Nat) (a b : Int) : Fr := [(0,.slice (some ⟨0,0,none⟩) l.length c),(5,vi a),(14,vi b)]
noncomputable def gsV :=
fun (l:List Int) (c:Nat) (w:Int)↦Ob ((List.take l.length (List.drop 0 (List.map (Value.int IntKind.i64) l))=List.map (Value.int IntKind.i64) (List.take l.length (List.drop 0 (intsOf (List.map (Value.int IntKind.i64) l))))∧0+l.length≤(List.map (Value.int IntKind.i64) l).length∧true=true)∧True)∧((!errC (List.take l.length (List.drop 0 (intsOf (List.map (Value.int IntKind.i64) l))))==(0:Int))=true→Ob True∧True∧Ob (isTrue (Value.bool true) [AObj.ro (List.map (Value.int IntKind.i64) l)]))∧((!errC (List.take l.length (List.drop 0 (intsOf (List.map (Value.int IntKind.i64) l))))==(0:Int))=false→Ob ((0:Int)≤w∧w<(65536:Int))∧Ob ((List.take l.length (List.drop 0 (List.map (Value.int IntKind.i64) l))=List.map (Value.int IntKind.i64) (List.take l.length (List.drop 0 (intsOf (List.map (Value.int IntKind.i64) l))))∧0+l.length≤(List.map (Value.int IntKind.i64) l).length∧true=true)∧errA (List.take l.length (List.drop 0 (intsOf (List.map (Value.int IntKind.i64) l)))) (amt w)=(0:Int))∧(false=false→(((↑(greL (List.take l.length (List.drop 0 (intsOf (List.map (Value.int IntKind.i64) l)))) (amt w)).length:Int) !=(l.length:Int))=false→(decide ((grF (List.take l.length (List.drop 0 (intsOf (List.map (Value.int IntKind.i64) l)))) (amt w) (List.take l.length (List.drop 0 (intsOf (List.map (Value.int IntKind.i64) l)))).length).snd<(0:Int))=false→Ob ((0:Int)≤(0:Int)∧(0:Int)<(l.length:Int)∧true=true)∧Ob (IntAt IntKind.i64 (List.map (Value.int IntKind.i64) l) 0)∧(decide (getI (List.map (Value.int IntKind.i64) l) 0≤(grF (List.take l.length (List.drop 0 (intsOf (List.map (Value.int IntKind.i64) l)))) (amt w) (List.take l.length (List.drop 0 (intsOf (List.map (Value.int IntKind.i64) l)))).length).snd)=true→True∧Ob (isTrue (Value.bool false) [AObj.ro (List.map (Value.int IntKind.i64) l),AObj.rw (List.map (Value.int IntKind.i64) (greL (List.take l.length (List.drop 0 (intsOf (List.map (Value.int IntKind.i64) l)))) (amt w))) (some 1)]))∧(decide (getI (List.map (Value.int IntKind.i64) l) 0≤(grF (List.take l.length (List.drop 0 (intsOf (List.map (Value.int IntKind.i64) l)))) (amt w) (List.take l.length (List.drop 0 (intsOf (List.map (Value.int IntKind.i64) l)))).length).snd)=false→Ob (((List.take l.length (List.drop 0 (List.map (Value.int IntKind.i64) l))=List.map (Value.int IntKind.i64) (List.take l.length (List.drop 0 (intsOf (List.map (Value.int IntKind.i64) l))))∧0+l.length≤(List.map (Value.int IntKind.i64) l).length∧true=true)∧List.take (greL (List.take l.length (List.drop 0 (intsOf (List.map (Value.int IntKind.i64) l)))) (amt w)).length (List.drop 0 (List.map (Value.int IntKind.i64) (greL (List.take l.length (List.drop 0 (intsOf (List.map (Value.int IntKind.i64) l)))) (amt w))))=List.map (Value.int IntKind.i64) (List.take (greL (List.take l.length (List.drop 0 (intsOf (List.map (Value.int IntKind.i64) l)))) (amt w)).length (List.drop 0 (intsOf (List.map (Value.int IntKind.i64) (greL (List.take l.length (List.drop 0 (intsOf (List.map (Value.int IntKind.i64) l)))) (amt w))))))∧0+(greL (List.take l.length (List.drop 0 (intsOf (List.map (Value.int IntKind.i64) l)))) (amt w)).length≤(List.map (Value.int IntKind.i64) (greL (List.take l.length (List.drop 0 (intsOf (List.map (Value.int IntKind.i64) l)))) (amt w))).length∧true=true)∧(List.take l.length (List.drop 0 (intsOf (List.map (Value.int IntKind.i64) l)))).length≤1000000∧(List.take (greL (List.take l.length (List.drop 0 (intsOf (List.map (Value.int IntKind.i64) l)))) (amt w)).length (List.drop 0 (intsOf (List.map (Value.int IntKind.i64) (greL (List.take l.length (List.drop 0 (intsOf (List.map (Value.int IntKind.i64) l)))) (amt w)))))).length≤1000000)∧((errK (List.take l.length (List.drop 0 (intsOf (List.map (Value.int IntKind.i64) l)))) (List.take (greL (List.take l.length (List.drop 0 (intsOf (List.map (Value.int IntKind.i64) l)))) (amt w)).length (List.drop 0 (intsOf (List.map (Value.int IntKind.i64) (greL (List.take l.length (List.drop 0 (intsOf (List.map (Value.int IntKind.i64) l)))) (amt w)))))) !=(0:Int))=false→((IntKind.i64.wrap (chA (List.take l.length (List.drop 0 (intsOf (List.map (Value.int IntKind.i64) l)))) (List.take (greL (List.take l.length (List.drop 0 (intsOf (List.map (Value.int IntKind.i64) l)))) (amt w)).length (List.drop 0 (intsOf (List.map (Value.int IntKind.i64) (greL (List.take l.length (List.drop 0 (intsOf (List.map (Value.int IntKind.i64) l)))) (amt w))))))+(grF (List.take l.length (List.drop 0 (intsOf (List.map (Value.int IntKind.i64) l)))) (amt w) (List.take l.length (List.drop 0 (intsOf (List.map (Value.int IntKind.i64) l)))).length).snd) !=amt w)=true→True∧Ob (isTrue (Value.bool false) [AObj.ro (List.map (Value.int IntKind.i64) l),AObj.rw (List.map (Value.int IntKind.i64) (greL (List.take l.length (List.drop 0 (intsOf (List.map (Value.int IntKind.i64) l)))) (amt w))) (some 1)]))∧((IntKind.i64.wrap (chA (List.take l.length (List.drop 0 (intsOf (List.map (Value.int IntKind.i64) l)))) (List.take (greL (List.take l.length (List.drop 0 (intsOf (List.map (Value.int IntKind.i64) l)))) (amt w)).length (List.drop 0 (intsOf (List.map (Value.int IntKind.i64) (greL (List.take l.length (List.drop 0 (intsOf (List.map (Value.int IntKind.i64) l)))) (amt w))))))+(grF (List.take l.length (List.drop 0 (intsOf (List.map (Value.int IntKind.i64) l)))) (amt w) (List.take l.length (List.drop 0 (intsOf (List.map (Value.int IntKind.i64) l)))).length).snd) !=amt w)=false→Ob ((List.take l.length (List.drop 0 (List.map (Value.int IntKind.i64) l))=List.map (Value.int IntKind.i64) (List.take l.length (List.drop 0 (intsOf (List.map (Value.int IntKind.i64) l))))∧0+l.length≤(List.map (Value.int IntKind.i64) l).length∧true=true)∧Coins (List.take l.length (List.drop 0 (intsOf (List.map (Value.int IntKind.i64) l))))∧(0:Int)≤amt w∧amt w≤(300:Int))∧Ob ((List.take l.length (List.drop 0 (List.map (Value.int IntKind.i64) l))=List.map (Value.int IntKind.i64) (List.take l.length (List.drop 0 (intsOf (List.map (Value.int IntKind.i64) l))))∧0+l.length≤(List.map (Value.int IntKind.i64) l).length∧true=true)∧(List.take l.length (List.drop 0 (intsOf (List.map (Value.int IntKind.i64) l)))).length≤1000000)∧∃ (y:Unit),Ob (errC l=(0:Int))∧(Ob (AObj.ro (List.map (Value.int IntKind.i64) l)=AObj.ro (List.map (nmap1 fun (b:Nat)↦b) (List.map (Value.int IntKind.i64) l))∧AObj.sc 1 (AObj.ro (List.map (Value.int IntKind.i64) l))=true)∧True)∧Ob (Value.slice (some (ad0 0)) l.length c=Value.slice (some (ad0 0)) l.length c)∧Ob (amt w=amt w)∧Ob ((grF (List.take l.length (List.drop 0 (intsOf (List.map (Value.int IntKind.i64) l)))) (amt w) (List.take l.length (List.drop 0 (intsOf (List.map (Value.int IntKind.i64) l)))).length).snd=(grF l (amt w) l.length).snd)∧Ob (chM (List.take l.length (List.drop 0 (intsOf (List.map (Value.int IntKind.i64) l)))) (List.take (greL (List.take l.length (List.drop 0 (intsOf (List.map (Value.int IntKind.i64) l)))) (amt w)).length (List.drop 0 (intsOf (List.map (Value.int IntKind.i64) (greL (List.take l.length (List.drop 0 (intsOf (List.map (Value.int IntKind.i64) l)))) (amt w))))))=chM l (greL l (amt w)))∧Ob (fewF (List.take l.length (List.drop 0 (intsOf (List.map (Value.int IntKind.i64) l)))) (amt w)=fewF l (amt w))∧Ob (canB (List.take l.length (List.drop 0 (intsOf (List.map (Value.int IntKind.i64) l)))) (amt w).toNat=canB l (amt w).toNat)∧Ob (true=true)∧Ob (cbdE (List.take l.length (List.drop 0 (intsOf (List.map (Value.int IntKind.i64) l)))) (amt w)=cbdE l (amt w))∧True))∧((errK (List.take l.length (List.drop 0 (intsOf (List.map (Value.int IntKind.i64) l)))) (List.take (greL (List.take l.length (List.drop 0 (intsOf (List.map (Value.int IntKind.i64) l)))) (amt w)).length (List.drop 0 (intsOf (List.map (Value.int IntKind.i64) (greL (List.take l.length (List.drop 0 (intsOf (List.map (Value.int IntKind.i64) l)))) (amt w)))))) !=(0:Int))=true→True∧Ob (isTrue (Value.bool false) [AObj.ro (List.map (Value.int IntKind.i64) l),AObj.rw (List.map (Value.int IntKind.i64) (greL (List.take l.length (List.drop 0 (intsOf (List.map (Value.int IntKind.i64) l)))) (amt w))) (some 1)]))))∧(decide ((grF (List.take l.length (List.drop 0 (intsOf (List.map (Value.int IntKind.i64) l)))) (amt w) (List.take l.length (List.drop 0 (intsOf (List.map (Value.int IntKind.i64) l)))).length).snd<(0:Int))=true→True∧Ob (isTrue (Value.bool false) [AObj.ro (List.map (Value.int IntKind.i64) l),AObj.rw (List.map (Value.int IntKind.i64) (greL (List.take l.length (List.drop 0 (intsOf (List.map (Value.int IntKind.i64) l)))) (amt w))) (some 1)])))∧(((↑(greL (List.take l.length (List.drop 0 (intsOf (List.map (Value.int IntKind.i64) l)))) (amt w)).length:Int) !=(l.length:Int))=true→True∧Ob (isTrue (Value.bool false) [AObj.ro (List.map (Value.int IntKind.i64) l),AObj.rw (List.map (Value.int IntKind.i64) (greL (List.take l.length (List.drop 0 (intsOf (List.map (Value.int IntKind.i64) l)))) (amt w))) (some 1)])))∧(false=true→True∧Ob (isTrue (Value.bool false) [AObj.ro (List.map (Value.int IntKind.i64) l),AObj.rw (List.map (Value.int IntKind.i64) (greL (List.take l.length (List.drop 0 (intsOf (List.map (Value.int IntKind.i64) l)))) (amt w))) (some 1)])))
theorem gsV_eq : gsV = fun (l : List Int) (c : Nat) (w : Int) => vc Try.prog gsE 1 189 true (fun _ => none) (headC 8 gsB) [] (argFr 0 [.slice (some ⟨0,0,none⟩) l.length c,.int .u16 w]) [ros l] (cutK 1 (fun b => b) (fun _ : Unit => errC l = 0) (fun _ => gsF l c (amt w) (grF l (amt w) l.length).2 (chM l (greL l (amt w))) (fewF l (amt w)) (cbdE l (amt w)) (canB l (amt w).toNat)) (fun _ => [ros l]) gsK) := by kernel_rfl
noncomputable def gsW :=
fun (l:List Int) (c:Nat) (a r m n b:Int) (is:Bool)↦(false=false→(is=true→((b !=(0:Int))=true→((b !=(16:Int))=false→((!is)=true→((b !=(5:Int))=false→((r==(0:Int))=false→(is=true→(decide ((0:Int)<r)=false→((!(b==(0:Int))==decide (n<m))=false→((r==(0:Int))=true→(decide (m<n)=true→True∧Ob (isTrue (Value.bool false) [AObj.ro (List.map (Value.int IntKind.i64) l)]))∧(decide (m<n)=false→∃ (y:Unit),Ob True∧(Ob (AObj.ro (List.map (Value.int IntKind.i64) l)=AObj.ro (List.map (nmap1 fun (b:Nat)↦b) (List.map (Value.int IntKind.i64) l))∧AObj.sc 1 (AObj.ro (List.map (Value.int IntKind.i64) l))=true)∧True)∧Ob (Value.slice (some (ad0 0)) l.length c=Value.slice (some (ad0 0)) l.length c)∧Ob (a=a)∧Ob (b=b)∧True))∧((r==(0:Int))=false→∃ (y:Unit),Ob True∧(Ob (AObj.ro (List.map (Value.int IntKind.i64) l)=AObj.ro (List.map (nmap1 fun (b:Nat)↦b) (List.map (Value.int IntKind.i64) l))∧AObj.sc 1 (AObj.ro (List.map (Value.int IntKind.i64) l))=true)∧True)∧Ob (Value.slice (some (ad0 0)) l.length c=Value.slice (some (ad0 0)) l.length c)∧Ob (a=a)∧Ob (b=b)∧True))∧((!(b==(0:Int))==decide (n<m))=true→True∧Ob (isTrue (Value.bool false) [AObj.ro (List.map (Value.int IntKind.i64) l)])))∧(decide ((0:Int)<r)=true→((!(b==(0:Int))==true)=false→((r==(0:Int))=true→(decide (m<n)=true→True∧Ob (isTrue (Value.bool false) [AObj.ro (List.map (Value.int IntKind.i64) l)]))∧(decide (m<n)=false→∃ (y:Unit),Ob True∧(Ob (AObj.ro (List.map (Value.int IntKind.i64) l)=AObj.ro (List.map (nmap1 fun (b:Nat)↦b) (List.map (Value.int IntKind.i64) l))∧AObj.sc 1 (AObj.ro (List.map (Value.int IntKind.i64) l))=true)∧True)∧Ob (Value.slice (some (ad0 0)) l.length c=Value.slice (some (ad0 0)) l.length c)∧Ob (a=a)∧Ob (b=b)∧True))∧((r==(0:Int))=false→∃ (y:Unit),Ob True∧(Ob (AObj.ro (List.map (Value.int IntKind.i64) l)=AObj.ro (List.map (nmap1 fun (b:Nat)↦b) (List.map (Value.int IntKind.i64) l))∧AObj.sc 1 (AObj.ro (List.map (Value.int IntKind.i64) l))=true)∧True)∧Ob (Value.slice (some (ad0 0)) l.length c=Value.slice (some (ad0 0)) l.length c)∧Ob (a=a)∧Ob (b=b)∧True))∧((!(b==(0:Int))==true)=true→True∧Ob (isTrue (Value.bool false) [AObj.ro (List.map (Value.int IntKind.i64) l)]))))∧(is=false→((r==(0:Int))=true→(decide (m<n)=true→True∧Ob (isTrue (Value.bool false) [AObj.ro (List.map (Value.int IntKind.i64) l)]))∧(decide (m<n)=false→∃ (y:Unit),Ob True∧(Ob (AObj.ro (List.map (Value.int IntKind.i64) l)=AObj.ro (List.map (nmap1 fun (b:Nat)↦b) (List.map (Value.int IntKind.i64) l))∧AObj.sc 1 (AObj.ro (List.map (Value.int IntKind.i64) l))=true)∧True)∧Ob (Value.slice (some (ad0 0)) l.length c=Value.slice (some (ad0 0)) l.length c)∧Ob (a=a)∧Ob (b=b)∧True))∧((r==(0:Int))=false→∃ (y:Unit),Ob True∧(Ob (AObj.ro (List.map (Value.int IntKind.i64) l)=AObj.ro (List.map (nmap1 fun (b:Nat)↦b) (List.map (Value.int IntKind.i64) l))∧AObj.sc 1 (AObj.ro (List.map (Value.int IntKind.i64) l))=true)∧True)∧Ob (Value.slice (some (ad0 0)) l.length c=Value.slice (some (ad0 0)) l.length c)∧Ob (a=a)∧Ob (b=b)∧True)))∧((r==(0:Int))=true→True∧Ob (isTrue (Value.bool false) [AObj.ro (List.map (Value.int IntKind.i64) l)])))∧((b !=(5:Int))=true→True∧Ob (isTrue (Value.bool false) [AObj.ro (List.map (Value.int IntKind.i64) l)])))∧((!is)=false→(is=true→(decide ((0:Int)<r)=false→((!(b==(0:Int))==decide (n<m))=false→((r==(0:Int))=true→(decide (m<n)=true→True∧Ob (isTrue (Value.bool false) [AObj.ro (List.map (Value.int IntKind.i64) l)]))∧(decide (m<n)=false→∃ (y:Unit),Ob True∧(Ob (AObj.ro (List.map (Value.int IntKind.i64) l)=AObj.ro (List.map (nmap1 fun (b:Nat)↦b) (List.map (Value.int IntKind.i64) l))∧AObj.sc 1 (AObj.ro (List.map (Value.int IntKind.i64) l))=true)∧True)∧Ob (Value.slice (some (ad0 0)) l.length c=Value.slice (some (ad0 0)) l.length c)∧Ob (a=a)∧Ob (b=b)∧True))∧((r==(0:Int))=false→∃ (y:Unit),Ob True∧(Ob (AObj.ro (List.map (Value.int IntKind.i64) l)=AObj.ro (List.map (nmap1 fun (b:Nat)↦b) (List.map (Value.int IntKind.i64) l))∧AObj.sc 1 (AObj.ro (List.map (Value.int IntKind.i64) l))=true)∧True)∧Ob (Value.slice (some (ad0 0)) l.length c=Value.slice (some (ad0 0)) l.length c)∧Ob (a=a)∧Ob (b=b)∧True))∧((!(b==(0:Int))==decide (n<m))=true→True∧Ob (isTrue (Value.bool false) [AObj.ro (List.map (Value.int IntKind.i64) l)])))∧(decide ((0:Int)<r)=true→((!(b==(0:Int))==true)=false→((r==(0:Int))=true→(decide (m<n)=true→True∧Ob (isTrue (Value.bool false) [AObj.ro (List.map (Value.int IntKind.i64) l)]))∧(decide (m<n)=false→∃ (y:Unit),Ob True∧(Ob (AObj.ro (List.map (Value.int IntKind.i64) l)=AObj.ro (List.map (nmap1 fun (b:Nat)↦b) (List.map (Value.int IntKind.i64) l))∧AObj.sc 1 (AObj.ro (List.map (Value.int IntKind.i64) l))=true)∧True)∧Ob (Value.slice (some (ad0 0)) l.length c=Value.slice (some (ad0 0)) l.length c)∧Ob (a=a)∧Ob (b=b)∧True))∧((r==(0:Int))=false→∃ (y:Unit),Ob True∧(Ob (AObj.ro (List.map (Value.int IntKind.i64) l)=AObj.ro (List.map (nmap1 fun (b:Nat)↦b) (List.map (Value.int IntKind.i64) l))∧AObj.sc 1 (AObj.ro (List.map (Value.int IntKind.i64) l))=true)∧True)∧Ob (Value.slice (some (ad0 0)) l.length c=Value.slice (some (ad0 0)) l.length c)∧Ob (a=a)∧Ob (b=b)∧True))∧((!(b==(0:Int))==true)=true→True∧Ob (isTrue (Value.bool false) [AObj.ro (List.map (Value.int IntKind.i64) l)]))))∧(is=false→((r==(0:Int))=true→(decide (m<n)=true→True∧Ob (isTrue (Value.bool false) [AObj.ro (List.map (Value.int IntKind.i64) l)]))∧(decide (m<n)=false→∃ (y:Unit),Ob True∧(Ob (AObj.ro (List.map (Value.int IntKind.i64) l)=AObj.ro (List.map (nmap1 fun (b:Nat)↦b) (List.map (Value.int IntKind.i64) l))∧AObj.sc 1 (AObj.ro (List.map (Value.int IntKind.i64) l))=true)∧True)∧Ob (Value.slice (some (ad0 0)) l.length c=Value.slice (some (ad0 0)) l.length c)∧Ob (a=a)∧Ob (b=b)∧True))∧((r==(0:Int))=false→∃ (y:Unit),Ob True∧(Ob (AObj.ro (List.map (Value.int IntKind.i64) l)=AObj.ro (List.map (nmap1 fun (b:Nat)↦b) (List.map (Value.int IntKind.i64) l))∧AObj.sc 1 (AObj.ro (List.map (Value.int IntKind.i64) l))=true)∧True)∧Ob (Value.slice (some (ad0 0)) l.length c=Value.slice (some (ad0 0)) l.length c)∧Ob (a=a)∧Ob (b=b)∧True))))∧((b !=(16:Int))=true→True∧Ob (isTrue (Value.bool false) [AObj.ro (List.map (Value.int IntKind.i64) l)])))∧((b !=(0:Int))=false→((!is)=true→((b !=(5:Int))=false→((r==(0:Int))=false→(is=true→(decide ((0:Int)<r)=false→((!(b==(0:Int))==decide (n<m))=false→((r==(0:Int))=true→(decide (m<n)=true→True∧Ob (isTrue (Value.bool false) [AObj.ro (List.map (Value.int IntKind.i64) l)]))∧(decide (m<n)=false→∃ (y:Unit),Ob True∧(Ob (AObj.ro (List.map (Value.int IntKind.i64) l)=AObj.ro (List.map (nmap1 fun (b:Nat)↦b) (List.map (Value.int IntKind.i64) l))∧AObj.sc 1 (AObj.ro (List.map (Value.int IntKind.i64) l))=true)∧True)∧Ob (Value.slice (some (ad0 0)) l.length c=Value.slice (some (ad0 0)) l.length c)∧Ob (a=a)∧Ob (b=b)∧True))∧((r==(0:Int))=false→∃ (y:Unit),Ob True∧(Ob (AObj.ro (List.map (Value.int IntKind.i64) l)=AObj.ro (List.map (nmap1 fun (b:Nat)↦b) (List.map (Value.int IntKind.i64) l))∧AObj.sc 1 (AObj.ro (List.map (Value.int IntKind.i64) l))=true)∧True)∧Ob (Value.slice (some (ad0 0)) l.length c=Value.slice (some (ad0 0)) l.length c)∧Ob (a=a)∧Ob (b=b)∧True))∧((!(b==(0:Int))==decide (n<m))=true→True∧Ob (isTrue (Value.bool false) [AObj.ro (List.map (Value.int IntKind.i64) l)])))∧(decide ((0:Int)<r)=true→((!(b==(0:Int))==true)=false→((r==(0:Int))=true→(decide (m<n)=true→True∧Ob (isTrue (Value.bool false) [AObj.ro (List.map (Value.int IntKind.i64) l)]))∧(decide (m<n)=false→∃ (y:Unit),Ob True∧(Ob (AObj.ro (List.map (Value.int IntKind.i64) l)=AObj.ro (List.map (nmap1 fun (b:Nat)↦b) (List.map (Value.int IntKind.i64) l))∧AObj.sc 1 (AObj.ro (List.map (Value.int IntKind.i64) l))=true)∧True)∧Ob (Value.slice (some (ad0 0)) l.length c=Value.slice (some (ad0 0)) l.length c)∧Ob (a=a)∧Ob (b=b)∧True))∧((r==(0:Int))=false→∃ (y:Unit),Ob True∧(Ob (AObj.ro (List.map (Value.int IntKind.i64) l)=AObj.ro (List.map (nmap1 fun (b:Nat)↦b) (List.map (Value.int IntKind.i64) l))∧AObj.sc 1 (AObj.ro (List.map (Value.int IntKind.i64) l))=true)∧True)∧Ob (Value.slice (some (ad0 0)) l.length c=Value.slice (some (ad0 0)) l.length c)∧Ob (a=a)∧Ob (b=b)∧True))∧((!(b==(0:Int))==true)=true→True∧Ob (isTrue (Value.bool false) [AObj.ro (List.map (Value.int IntKind.i64) l)]))))∧(is=false→((r==(0:Int))=true→(decide (m<n)=true→True∧Ob (isTrue (Value.bool false) [AObj.ro (List.map (Value.int IntKind.i64) l)]))∧(decide (m<n)=false→∃ (y:Unit),Ob True∧(Ob (AObj.ro (List.map (Value.int IntKind.i64) l)=AObj.ro (List.map (nmap1 fun (b:Nat)↦b) (List.map (Value.int IntKind.i64) l))∧AObj.sc 1 (AObj.ro (List.map (Value.int IntKind.i64) l))=true)∧True)∧Ob (Value.slice (some (ad0 0)) l.length c=Value.slice (some (ad0 0)) l.length c)∧Ob (a=a)∧Ob (b=b)∧True))∧((r==(0:Int))=false→∃ (y:Unit),Ob True∧(Ob (AObj.ro (List.map (Value.int IntKind.i64) l)=AObj.ro (List.map (nmap1 fun (b:Nat)↦b) (List.map (Value.int IntKind.i64) l))∧AObj.sc 1 (AObj.ro (List.map (Value.int IntKind.i64) l))=true)∧True)∧Ob (Value.slice (some (ad0 0)) l.length c=Value.slice (some (ad0 0)) l.length c)∧Ob (a=a)∧Ob (b=b)∧True)))∧((r==(0:Int))=true→True∧Ob (isTrue (Value.bool false) [AObj.ro (List.map (Value.int IntKind.i64) l)])))∧((b !=(5:Int))=true→True∧Ob (isTrue (Value.bool false) [AObj.ro (List.map (Value.int IntKind.i64) l)])))∧((!is)=false→(is=true→(decide ((0:Int)<r)=false→((!(b==(0:Int))==decide (n<m))=false→((r==(0:Int))=true→(decide (m<n)=true→True∧Ob (isTrue (Value.bool false) [AObj.ro (List.map (Value.int IntKind.i64) l)]))∧(decide (m<n)=false→∃ (y:Unit),Ob True∧(Ob (AObj.ro (List.map (Value.int IntKind.i64) l)=AObj.ro (List.map (nmap1 fun (b:Nat)↦b) (List.map (Value.int IntKind.i64) l))∧AObj.sc 1 (AObj.ro (List.map (Value.int IntKind.i64) l))=true)∧True)∧Ob (Value.slice (some (ad0 0)) l.length c=Value.slice (some (ad0 0)) l.length c)∧Ob (a=a)∧Ob (b=b)∧True))∧((r==(0:Int))=false→∃ (y:Unit),Ob True∧(Ob (AObj.ro (List.map (Value.int IntKind.i64) l)=AObj.ro (List.map (nmap1 fun (b:Nat)↦b) (List.map (Value.int IntKind.i64) l))∧AObj.sc 1 (AObj.ro (List.map (Value.int IntKind.i64) l))=true)∧True)∧Ob (Value.slice (some (ad0 0)) l.length c=Value.slice (some (ad0 0)) l.length c)∧Ob (a=a)∧Ob (b=b)∧True))∧((!(b==(0:Int))==decide (n<m))=true→True∧Ob (isTrue (Value.bool false) [AObj.ro (List.map (Value.int IntKind.i64) l)])))∧(decide ((0:Int)<r)=true→((!(b==(0:Int))==true)=false→((r==(0:Int))=true→(decide (m<n)=true→True∧Ob (isTrue (Value.bool false) [AObj.ro (List.map (Value.int IntKind.i64) l)]))∧(decide (m<n)=false→∃ (y:Unit),Ob True∧(Ob (AObj.ro (List.map (Value.int IntKind.i64) l)=AObj.ro (List.map (nmap1 fun (b:Nat)↦b) (List.map (Value.int IntKind.i64) l))∧AObj.sc 1 (AObj.ro (List.map (Value.int IntKind.i64) l))=true)∧True)∧Ob (Value.slice (some (ad0 0)) l.length c=Value.slice (some (ad0 0)) l.length c)∧Ob (a=a)∧Ob (b=b)∧True))∧((r==(0:Int))=false→∃ (y:Unit),Ob True∧(Ob (AObj.ro (List.map (Value.int IntKind.i64) l)=AObj.ro (List.map (nmap1 fun (b:Nat)↦b) (List.map (Value.int IntKind.i64) l))∧AObj.sc 1 (AObj.ro (List.map (Value.int IntKind.i64) l))=true)∧True)∧Ob (Value.slice (some (ad0 0)) l.length c=Value.slice (some (ad0 0)) l.length c)∧Ob (a=a)∧Ob (b=b)∧True))∧((!(b==(0:Int))==true)=true→True∧Ob (isTrue (Value.bool false) [AObj.ro (List.map (Value.int IntKind.i64) l)]))))∧(is=false→((r==(0:Int))=true→(decide (m<n)=true→True∧Ob (isTrue (Value.bool false) [AObj.ro (List.map (Value.int IntKind.i64) l)]))∧(decide (m<n)=false→∃ (y:Unit),Ob True∧(Ob (AObj.ro (List.map (Value.int IntKind.i64) l)=AObj.ro (List.map (nmap1 fun (b:Nat)↦b) (List.map (Value.int IntKind.i64) l))∧AObj.sc 1 (AObj.ro (List.map (Value.int IntKind.i64) l))=true)∧True)∧Ob (Value.slice (some (ad0 0)) l.length c=Value.slice (some (ad0 0)) l.length c)∧Ob (a=a)∧Ob (b=b)∧True))∧((r==(0:Int))=false→∃ (y:Unit),Ob True∧(Ob (AObj.ro (List.map (Value.int IntKind.i64) l)=AObj.ro (List.map (nmap1 fun (b:Nat)↦b) (List.map (Value.int IntKind.i64) l))∧AObj.sc 1 (AObj.ro (List.map (Value.int IntKind.i64) l))=true)∧True)∧Ob (Value.slice (some (ad0 0)) l.length c=Value.slice (some (ad0 0)) l.length c)∧Ob (a=a)∧Ob (b=b)∧True)))))∧(is=false→((!is)=true→((b !=(5:Int))=false→((r==(0:Int))=false→(is=true→(decide ((0:Int)<r)=false→((!(b==(0:Int))==decide (n<m))=false→((r==(0:Int))=true→(decide (m<n)=true→True∧Ob (isTrue (Value.bool false) [AObj.ro (List.map (Value.int IntKind.i64) l)]))∧(decide (m<n)=false→∃ (y:Unit),Ob True∧(Ob (AObj.ro (List.map (Value.int IntKind.i64) l)=AObj.ro (List.map (nmap1 fun (b:Nat)↦b) (List.map (Value.int IntKind.i64) l))∧AObj.sc 1 (AObj.ro (List.map (Value.int IntKind.i64) l))=true)∧True)∧Ob (Value.slice (some (ad0 0)) l.length c=Value.slice (some (ad0 0)) l.length c)∧Ob (a=a)∧Ob (b=b)∧True))∧((r==(0:Int))=false→∃ (y:Unit),Ob True∧(Ob (AObj.ro (List.map (Value.int IntKind.i64) l)=AObj.ro (List.map (nmap1 fun (b:Nat)↦b) (List.map (Value.int IntKind.i64) l))∧AObj.sc 1 (AObj.ro (List.map (Value.int IntKind.i64) l))=true)∧True)∧Ob (Value.slice (some (ad0 0)) l.length c=Value.slice (some (ad0 0)) l.length c)∧Ob (a=a)∧Ob (b=b)∧True))∧((!(b==(0:Int))==decide (n<m))=true→True∧Ob (isTrue (Value.bool false) [AObj.ro (List.map (Value.int IntKind.i64) l)])))∧(decide ((0:Int)<r)=true→((!(b==(0:Int))==true)=false→((r==(0:Int))=true→(decide (m<n)=true→True∧Ob (isTrue (Value.bool false) [AObj.ro (List.map (Value.int IntKind.i64) l)]))∧(decide (m<n)=false→∃ (y:Unit),Ob True∧(Ob (AObj.ro (List.map (Value.int IntKind.i64) l)=AObj.ro (List.map (nmap1 fun (b:Nat)↦b) (List.map (Value.int IntKind.i64) l))∧AObj.sc 1 (AObj.ro (List.map (Value.int IntKind.i64) l))=true)∧True)∧Ob (Value.slice (some (ad0 0)) l.length c=Value.slice (some (ad0 0)) l.length c)∧Ob (a=a)∧Ob (b=b)∧True))∧((r==(0:Int))=false→∃ (y:Unit),Ob True∧(Ob (AObj.ro (List.map (Value.int IntKind.i64) l)=AObj.ro (List.map (nmap1 fun (b:Nat)↦b) (List.map (Value.int IntKind.i64) l))∧AObj.sc 1 (AObj.ro (List.map (Value.int IntKind.i64) l))=true)∧True)∧Ob (Value.slice (some (ad0 0)) l.length c=Value.slice (some (ad0 0)) l.length c)∧Ob (a=a)∧Ob (b=b)∧True))∧((!(b==(0:Int))==true)=true→True∧Ob (isTrue (Value.bool false) [AObj.ro (List.map (Value.int IntKind.i64) l)]))))∧(is=false→((r==(0:Int))=true→(decide (m<n)=true→True∧Ob (isTrue (Value.bool false) [AObj.ro (List.map (Value.int IntKind.i64) l)]))∧(decide (m<n)=false→∃ (y:Unit),Ob True∧(Ob (AObj.ro (List.map (Value.int IntKind.i64) l)=AObj.ro (List.map (nmap1 fun (b:Nat)↦b) (List.map (Value.int IntKind.i64) l))∧AObj.sc 1 (AObj.ro (List.map (Value.int IntKind.i64) l))=true)∧True)∧Ob (Value.slice (some (ad0 0)) l.length c=Value.slice (some (ad0 0)) l.length c)∧Ob (a=a)∧Ob (b=b)∧True))∧((r==(0:Int))=false→∃ (y:Unit),Ob True∧(Ob (AObj.ro (List.map (Value.int IntKind.i64) l)=AObj.ro (List.map (nmap1 fun (b:Nat)↦b) (List.map (Value.int IntKind.i64) l))∧AObj.sc 1 (AObj.ro (List.map (Value.int IntKind.i64) l))=true)∧True)∧Ob (Value.slice (some (ad0 0)) l.length c=Value.slice (some (ad0 0)) l.length c)∧Ob (a=a)∧Ob (b=b)∧True)))∧((r==(0:Int))=true→True∧Ob (isTrue (Value.bool false) [AObj.ro (List.map (Value.int IntKind.i64) l)])))∧((b !=(5:Int))=true→True∧Ob (isTrue (Value.bool false) [AObj.ro (List.map (Value.int IntKind.i64) l)])))∧((!is)=false→(is=true→(decide ((0:Int)<r)=false→((!(b==(0:Int))==decide (n<m))=false→((r==(0:Int))=true→(decide (m<n)=true→True∧Ob (isTrue (Value.bool false) [AObj.ro (List.map (Value.int IntKind.i64) l)]))∧(decide (m<n)=false→∃ (y:Unit),Ob True∧(Ob (AObj.ro (List.map (Value.int IntKind.i64) l)=AObj.ro (List.map (nmap1 fun (b:Nat)↦b) (List.map (Value.int IntKind.i64) l))∧AObj.sc 1 (AObj.ro (List.map (Value.int IntKind.i64) l))=true)∧True)∧Ob (Value.slice (some (ad0 0)) l.length c=Value.slice (some (ad0 0)) l.length c)∧Ob (a=a)∧Ob (b=b)∧True))∧((r==(0:Int))=false→∃ (y:Unit),Ob True∧(Ob (AObj.ro (List.map (Value.int IntKind.i64) l)=AObj.ro (List.map (nmap1 fun (b:Nat)↦b) (List.map (Value.int IntKind.i64) l))∧AObj.sc 1 (AObj.ro (List.map (Value.int IntKind.i64) l))=true)∧True)∧Ob (Value.slice (some (ad0 0)) l.length c=Value.slice (some (ad0 0)) l.length c)∧Ob (a=a)∧Ob (b=b)∧True))∧((!(b==(0:Int))==decide (n<m))=true→True∧Ob (isTrue (Value.bool false) [AObj.ro (List.map (Value.int IntKind.i64) l)])))∧(decide ((0:Int)<r)=true→((!(b==(0:Int))==true)=false→((r==(0:Int))=true→(decide (m<n)=true→True∧Ob (isTrue (Value.bool false) [AObj.ro (List.map (Value.int IntKind.i64) l)]))∧(decide (m<n)=false→∃ (y:Unit),Ob True∧(Ob (AObj.ro (List.map (Value.int IntKind.i64) l)=AObj.ro (List.map (nmap1 fun (b:Nat)↦b) (List.map (Value.int IntKind.i64) l))∧AObj.sc 1 (AObj.ro (List.map (Value.int IntKind.i64) l))=true)∧True)∧Ob (Value.slice (some (ad0 0)) l.length c=Value.slice (some (ad0 0)) l.length c)∧Ob (a=a)∧Ob (b=b)∧True))∧((r==(0:Int))=false→∃ (y:Unit),Ob True∧(Ob (AObj.ro (List.map (Value.int IntKind.i64) l)=AObj.ro (List.map (nmap1 fun (b:Nat)↦b) (List.map (Value.int IntKind.i64) l))∧AObj.sc 1 (AObj.ro (List.map (Value.int IntKind.i64) l))=true)∧True)∧Ob (Value.slice (some (ad0 0)) l.length c=Value.slice (some (ad0 0)) l.length c)∧Ob (a=a)∧Ob (b=b)∧True))∧((!(b==(0:Int))==true)=true→True∧Ob (isTrue (Value.bool false) [AObj.ro (List.map (Value.int IntKind.i64) l)]))))∧(is=false→((r==(0:Int))=true→(decide (m<n)=true→True∧Ob (isTrue (Value.bool false) [AObj.ro (List.map (Value.int IntKind.i64) l)]))∧(decide (m<n)=false→∃ (y:Unit),Ob True∧(Ob (AObj.ro (List.map (Value.int IntKind.i64) l)=AObj.ro (List.map (nmap1 fun (b:Nat)↦b) (List.map (Value.int IntKind.i64) l))∧AObj.sc 1 (AObj.ro (List.map (Value.int IntKind.i64) l))=true)∧True)∧Ob (Value.slice (some (ad0 0)) l.length c=Value.slice (some (ad0 0)) l.length c)∧Ob (a=a)∧Ob (b=b)∧True))∧((r==(0:Int))=false→∃ (y:Unit),Ob True∧(Ob (AObj.ro (List.map (Value.int IntKind.i64) l)=AObj.ro (List.map (nmap1 fun (b:Nat)↦b) (List.map (Value.int IntKind.i64) l))∧AObj.sc 1 (AObj.ro (List.map (Value.int IntKind.i64) l))=true)∧True)∧Ob (Value.slice (some (ad0 0)) l.length c=Value.slice (some (ad0 0)) l.length c)∧Ob (a=a)∧Ob (b=b)∧True)))))∧(false=true→True∧Ob (isTrue (Value.bool false) [AObj.ro (List.map (Value.int IntKind.i64) l)]))
theorem gsW_eq : gsW = fun (l : List Int) (c : Nat) (a r m n b : Int) (is : Bool) => vc Try.prog gsE 1 189 true (fun _ => none) (headC 0 (tailC 8 gsB)) [] (gsF l c a r m n b is) [ros l] (cutK 1 (fun b => b) (fun _ : Unit => True) (fun _ => gsG l c a b) (fun _ => [ros l]) gsK) := by kernel_rfl
noncomputable def gsX :=
fun (l:List Int) (c:Nat) (a b:Int)↦Ob ((List.take l.length (List.drop 0 (List.map (Value.int IntKind.i64) l))=List.map (Value.int IntKind.i64) (List.take l.length (List.drop 0 (intsOf (List.map (Value.int IntKind.i64) l))))∧0+l.length≤(List.map (Value.int IntKind.i64) l).length∧true=true)∧(List.take l.length (List.drop 0 (intsOf (List.map (Value.int IntKind.i64) l)))).length≤1000000)∧Ob ((0:Int)≤(0:Int)∧(0:Int)<(l.length:Int)∧true=true)∧Ob (IntAt IntKind.i64 (List.map (Value.int IntKind.i64) l) 0)∧((getI (List.map (Value.int IntKind.i64) l) 0 !=(1:Int))=true→((badE (List.take l.length (List.drop 0 (intsOf (List.map (Value.int IntKind.i64) l))))==(2:Int))=true→Ob True∧True∧Ob (isTrue (Value.bool true) [AObj.ro (List.map (Value.int IntKind.i64) l)]))∧((badE (List.take l.length (List.drop 0 (intsOf (List.map (Value.int IntKind.i64) l))))==(2:Int))=false→True∧Ob (isTrue (Value.bool false) [AObj.ro (List.map (Value.int IntKind.i64) l)])))∧((getI (List.map (Value.int IntKind.i64) l) 0 !=(1:Int))=false→((badE (List.take l.length (List.drop 0 (intsOf (List.map (Value.int IntKind.i64) l)))) !=(0:Int))=true→((badE (List.take l.length (List.drop 0 (intsOf (List.map (Value.int IntKind.i64) l))))==(5:Int))=true→((b !=(0:Int))=true→Ob True∧True∧Ob (isTrue (Value.bool true) [AObj.ro (List.map (Value.int IntKind.i64) l)]))∧((b !=(0:Int))=false→True∧Ob (isTrue (Value.bool false) [AObj.ro (List.map (Value.int IntKind.i64) l)])))∧((badE (List.take l.length (List.drop 0 (intsOf (List.map (Value.int IntKind.i64) l))))==(5:Int))=false→True∧Ob (isTrue (Value.bool false) [AObj.ro (List.map (Value.int IntKind.i64) l)])))∧((badE (List.take l.length (List.drop 0 (intsOf (List.map (Value.int IntKind.i64) l)))) !=(0:Int))=false→(decide ((l.length:Int)<(3:Int))=false→(decide (badV (List.take l.length (List.drop 0 (intsOf (List.map (Value.int IntKind.i64) l))))<(1:Int))=false→Ob ((0:Int)≤IntKind.i64.wrap ((l.length:Int)-(1:Int))∧IntKind.i64.wrap ((l.length:Int)-(1:Int))<(l.length:Int)∧true=true)∧Ob (IntAt IntKind.i64 (List.map (Value.int IntKind.i64) l) (0+(IntKind.i64.wrap ((l.length:Int)-(1:Int))).toNat * 1))∧Ob ((0:Int)≤IntKind.i64.wrap ((l.length:Int)-(2:Int))∧IntKind.i64.wrap ((l.length:Int)-(2:Int))<(l.length:Int)∧true=true)∧Ob (IntAt IntKind.i64 (List.map (Value.int IntKind.i64) l) (0+(IntKind.i64.wrap ((l.length:Int)-(2:Int))).toNat * 1))∧(decide (IntKind.i64.wrap (getI (List.map (Value.int IntKind.i64) l) (0+(IntKind.i64.wrap ((l.length:Int)-(1:Int))).toNat * 1)+getI (List.map (Value.int IntKind.i64) l) (0+(IntKind.i64.wrap ((l.length:Int)-(2:Int))).toNat * 1))≤badV (List.take l.length (List.drop 0 (intsOf (List.map (Value.int IntKind.i64) l)))))=false→Ob ((List.take l.length (List.drop 0 (List.map (Value.int IntKind.i64) l))=List.map (Value.int IntKind.i64) (List.take l.length (List.drop 0 (intsOf (List.map (Value.int IntKind.i64) l))))∧0+l.length≤(List.map (Value.int IntKind.i64) l).length∧true=true)∧(List.take l.length (List.drop 0 (intsOf (List.map (Value.int IntKind.i64) l)))).length≤1000000)∧((cbdE (List.take l.length (List.drop 0 (intsOf (List.map (Value.int IntKind.i64) l)))) (badV (List.take l.length (List.drop 0 (intsOf (List.map (Value.int IntKind.i64) l))))) !=(0:Int))=true→True∧Ob (isTrue (Value.bool false) [AObj.ro (List.map (Value.int IntKind.i64) l)]))∧((cbdE (List.take l.length (List.drop 0 (intsOf (List.map (Value.int IntKind.i64) l)))) (badV (List.take l.length (List.drop 0 (intsOf (List.map (Value.int IntKind.i64) l))))) !=(0:Int))=false→((b !=(0:Int))=false→(decide (badV (List.take l.length (List.drop 0 (intsOf (List.map (Value.int IntKind.i64) l))))≤a)=true→Ob True∧True∧Ob (isTrue (Value.bool true) [AObj.ro (List.map (Value.int IntKind.i64) l)]))∧(decide (badV (List.take l.length (List.drop 0 (intsOf (List.map (Value.int IntKind.i64) l))))≤a)=false→True∧Ob (isTrue (Value.bool false) [AObj.ro (List.map (Value.int IntKind.i64) l)])))∧((b !=(0:Int))=true→Ob True∧True∧Ob (isTrue (Value.bool true) [AObj.ro (List.map (Value.int IntKind.i64) l)]))))∧(decide (IntKind.i64.wrap (getI (List.map (Value.int IntKind.i64) l) (0+(IntKind.i64.wrap ((l.length:Int)-(1:Int))).toNat * 1)+getI (List.map (Value.int IntKind.i64) l) (0+(IntKind.i64.wrap ((l.length:Int)-(2:Int))).toNat * 1))≤badV (List.take l.length (List.drop 0 (intsOf (List.map (Value.int IntKind.i64) l)))))=true→True∧Ob (isTrue (Value.bool false) [AObj.ro (List.map (Value.int IntKind.i64) l)])))∧(decide (badV (List.take l.length (List.drop 0 (intsOf (List.map (Value.int IntKind.i64) l))))<(1:Int))=true→True∧Ob (isTrue (Value.bool false) [AObj.ro (List.map (Value.int IntKind.i64) l)])))∧(decide ((l.length:Int)<(3:Int))=true→True∧Ob (isTrue (Value.bool false) [AObj.ro (List.map (Value.int IntKind.i64) l)]))))
theorem gsX_eq : gsX = fun (l : List Int) (c : Nat) (a b : Int) => vc Try.prog gsE 1 189 true (fun _ => none) (tailC 0 (tailC 8 gsB)) [] (gsG l c a b) [ros l] gsK := by kernel_rfl
noncomputable def gsN :=
fun (w:Int)↦Ob True∧(true=true→Ob True∧True∧Ob (isTrue (Value.bool true) []))∧(true=false→Ob ((0:Int)≤w∧w<(65536:Int))∧False)
theorem gsN_eq : gsN = fun (w : Int) => vc Try.prog gsE 0 189 true (fun _ => none) gsB [] (argFr 0 [.slice none 0 0,.int .u16 w]) [] gsK := by kernel_rfl
noncomputable def gsH :=
fun (s:Option Nat) (c:Nat) (w:Int)↦Ob True∧(true=true→Ob True∧True∧Ob (isTrue (Value.bool true) [AObj.gone]))∧(true=false→Ob ((0:Int)≤w∧w<(65536:Int))∧False)
theorem gsH_eq : gsH = fun (s : Option Nat) (c : Nat) (w : Int) => vc Try.prog gsE 1 189 true (fun _ => none) gsB [] (argFr 0 [.slice (some ⟨0,0,s⟩) 0 c,.int .u16 w]) [.gone] gsK := by kernel_rfl
theorem gre_gt {l : List Int} {a : Int} {k : Nat} (hk : k < l.length) (h5 : l.length≤5) : gt (greL l a) k = (grF l a l.length).1 k := by
 unfold gt greL
 rw [List.getD_eq_getElem?_getD,List.getElem?_take,if_pos hk]
 unfold L5
 rcases k with _ | _ | _ | _ | _ | k <;> first | rfl | omega
theorem gre_fact {l : List Int} {a : Int} (hc : Coins l) (ha : 0≤a∧a≤300) : errK l (greL l a) = 0∧chA l (greL l a) + (grF l a l.length).2 = a∧chM l (greL l a) = m5 (grF l a l.length).1 := by
 have hf := hc.few
 have hl := gre_len (a := a) hf
 have gb := (gr_bd hc ha.1 l.length (Nat.le_refl _)).2
 have hall : ∀ x ∈ greL l a,0≤x∧x≤1000 := ints_all (i := l.length) (by omega) fun j hj => by
   have e : (greL l a).getD j 0 = (grF l a l.length).1 j := gre_gt hj hf
   rw [e]; have := gb j (by omega); omega
 have hk := errK_0 (errC_ok.2 hc) hl hall
 refine ⟨hk,?_,?_⟩
 · rw [chA,if_pos hk,dot_congr (z := (grF l a l.length).1) _ fun k hk => gre_gt hk hf]
   exact (gr_all hc ha.1 l.length (Nat.le_refl _)).2.2
 · rw [chM,if_pos hk,pf_congr (z := (grF l a l.length).1) _ fun k hk => gre_gt hk hf,gr_m5 hc ha.1]
theorem gsV_ok (l : List Int) (c : Nat) (w : Int) (hw : 0≤w∧w < 65536) : gsV l c w := by
 unfold gsV
 simp only [SS,reduceCtorEq,Arg.list,Arg.num,Arg.flag,intOf,andP,Nat.reduceLeDiff,Nat.reduceAdd,Nat.reduceMul,Nat.reduceLT,isTrue]
 intro h
 have hc := errC_ok.1 h
 have aw := amt_rng w
 have hf := hc.few
 have hp := hc.pos
 have hl := gre_len (a := amt w) hf
 have h0 : errA l (amt w) = 0 := errA_0.2 ⟨h,aw⟩
 have hr := gr_rest hc aw.1
 obtain ⟨f1,f2,f3⟩ := gre_fact hc aw
 rw [f2,wrap_in (by omega) (by omega)]
 exact ⟨hw,h0,fun _ => ⟨fun _ => ⟨by omega,by omega,fun k => by omega,fun _ => ⟨⟨by omega,by omega⟩,fun _ => ⟨fun k => k rfl,fun _ => ⟨⟨hc,aw⟩,by omega,h⟩⟩,fun k => k f1⟩⟩,fun k => by omega⟩,fun k => k (by rw [hl])⟩
theorem gsW_ok (l : List Int) (c : Nat) (a r m n b : Int) (is : Bool) (hr : 0≤r) (h1 : is = true→b = 0∨b = 16) (h2 : is = false→b = 5∧r ≠ 0) (h3 : is = true→(b = 0 ↔ 0 < r∨n < m)) (h4 : r = 0→n≤m) : gsW l c a r m n b is := by
 unfold gsW
 simp only [SS,reduceCtorEq,Arg.list,Arg.num,Arg.flag,intOf,andP,Nat.reduceLeDiff,Nat.reduceAdd,Nat.reduceMul,Nat.reduceLT,isTrue]
 cases is with
 | false =>
   obtain ⟨rfl,h5⟩ := h2 rfl
   simp [h5]
 | true =>
   have h3 := h3 rfl
   by_cases c1 : 0 < r
   · have hb : b = 0 := h3.2 (.inl c1)
     subst hb
     have : ¬ r = 0 := by omega
     simp [c1,this]
   · have hr0 : r = 0 := by omega
     subst hr0
     have h4 := h4 rfl
     by_cases c2 : n < m
     · have hb : b = 0 := h3.2 (.inr c2)
       subst hb
       have : ¬ m < n := by omega
       simp [c2,this]
     · have hb : b = 16 := by
         rcases h1 rfl with e | e
         · have := h3.1 e; omega
         · exact e
       subst hb
       have : ¬ m < n := by omega
       simp [c2,this]
theorem lb_some {l : List Int} {q : Nat} : ∀ n s,lbF l n s = some q→(s≤q∧q < s + n)∧(canB l q && badF l q (bF l q)) = true∧∀ b,s≤b→b < q→(canB l b && badF l b (bF l b)) = false
 | 0,s,h => by cases h
 | n + 1,s,h => by
   unfold lbF at h
   cases hb : (canB l s && badF l s (bF l s)) with
   | true =>
     rw [hb] at h
     have h : some s = some q := h
     obtain rfl := Option.some.inj h
     exact ⟨⟨Nat.le_refl _,by omega⟩,hb,fun b h1 h2 => by omega⟩
   | false =>
     rw [hb] at h
     obtain ⟨k1,k2,k3⟩ := lb_some n (s + 1) h
     refine ⟨⟨by omega,by omega⟩,k2,fun b h1 h2 => ?_⟩
     by_cases e : b = s
     · rw [e]; exact hb
     · exact k3 b (by omega) h2
theorem cbd_0 {l : List Int} (hc : Coins l) (h1 : l.getD 0 0 = 1) {x : Nat} (hx : x≤300) : cbdE l (x : Int) = 0 ↔ bdB1 l x = true := by
 have h0 : errA l (x : Int) = 0 := errA_0.2 ⟨errC_ok.2 hc,by omega,by omega⟩
 have hN : errN l (x : Int) = 0 := errN_0 h0 (ones hc h1 (by omega)).2.1
 rw [cbdE,if_neg (fun h => h hN)]
 have e : badF l (x : Int) (bF l ((x : Int)).toNat) = bdB1 l x := rfl
 rw [e]
 cases bdB1 l x
 · exact ⟨fun h => (by cases h),fun h => (by cases h)⟩
 · exact ⟨fun _ => rfl,fun _ => rfl⟩
theorem gsX_ok (l : List Int) (c : Nat) (a : Int) (hc : Coins l) (ha : 0≤a∧a≤300) : gsX l c a (cbdE l a) := by
 unfold gsX
 simp only [SS,reduceCtorEq,Arg.list,Arg.num,Arg.flag,intOf,andP,Nat.reduceLeDiff,Nat.reduceAdd,Nat.reduceMul,Nat.reduceLT,isTrue]
 have hf := hc.few
 have hp := hc.pos
 have he : ¬ errC l ≠ 0 := fun h => h (errC_ok.2 hc)
 obtain ⟨A,rfl⟩ := Int.eq_ofNat_of_zero_le ha.1
 refine ⟨by omega,⟨by omega,by omega⟩,hp,fun h1 k => k ?_,fun h1 => ?_⟩
 · rw [badE,if_neg he,if_neg (show ¬ fstF l = 1 from h1)]
 · have eE : badE l = bdErr l := by rw [badE,if_neg he,if_pos (show fstF l = 1 from h1)]
   have eV : badV l = bdVal l := by rw [badV,if_neg he,if_pos (show fstF l = 1 from h1)]
   rw [eE,eV]
   have conv : ∀ x : Nat,x≤9999→(canB l x && badF l x (bF l x)) = bdB1 l x := fun x hx => by rw [(ones hc h1 hx).2.1,Bool.true_and]; rfl
   cases hL : lbF l 101 0 with
   | none =>
     have e5 : bdErr l = 5 := by rw [bdErr,hL]
     have hno : ∀ x : Nat,x < 101→bdB1 l x = false := fun x hx => by
       rw [← conv x (by omega)]
       cases hb : (canB l x && badF l x (bF l x)) with
       | false => rfl
       | true =>
         exfalso
         have key : ∀ m,m≤x→(∀ b,b < m→(canB l b && badF l b (bF l b)) = false)∨∃ q,q≤x∧(canB l q && badF l q (bF l q)) = true∧∀ b,b < q→(canB l b && badF l b (bF l b)) = false := by
           intro m
           induction m with
           | zero => intro _; exact .inl fun b h => by omega
           | succ m ih =>
             intro hm
             rcases ih (by omega) with h | h
             · cases hbm : (canB l m && badF l m (bF l m)) with
               | true => exact .inr ⟨m,by omega,hbm,h⟩
               | false =>
                 refine .inl fun b h2 => ?_
                 by_cases e : b = m
                 · rw [e]; exact hbm
                 · exact h b (by omega)
             · exact .inr h
         rcases key x (Nat.le_refl _) with h | ⟨q,q1,q2,q3⟩
         · rw [lb_at hb 101 0 (by omega) (by omega) fun b _ h2 => h b h2] at hL; cases hL
         · rw [lb_at q2 101 0 (by omega) (by omega) fun b _ h2 => q3 b h2] at hL; cases hL
     have hall := no_bad hc h1 fun x hx hS h0 => by
       refine hno x ?_
       rcases h0 with h0 | h0
       · omega
       · have := hS h0
         have := coin_rng hc (j := l.length - 1) (by omega)
         have := coin_rng hc (j := l.length - 2) (by omega)
         omega
     rw [e5]
     refine ⟨fun _ => ⟨fun _ hb => ?_,fun k => k rfl⟩,fun k => by cases k⟩
     have := (cbd_0 hc h1 (x := A) (by omega)).1 hb
     rw [hall A (by omega)] at this; cases this
   | some q =>
     have e0 : bdErr l = 0 := by rw [bdErr,hL]
     have eq : bdVal l = q := by rw [bdVal,hL]
     obtain ⟨⟨_,q1⟩,q2,q3⟩ := lb_some 101 0 hL
     rw [conv q (by omega)] at q2
     have h3 : ¬ l.length < 3 := fun h => by rw [few_bad hc h1 h q (by omega)] at q2; cases q2
     have q0 : q ≠ 0 := fun h => by rw [h,zero_bad hc h1] at q2; cases q2
     have w1 : IntKind.i64.wrap ((l.length : Int) - 1) = ((l.length - 1 : Nat) : Int) := by rw [wrap_in (by omega) (by omega)]; omega
     have w2 : IntKind.i64.wrap ((l.length : Int) - 2) = ((l.length - 2 : Nat) : Int) := by rw [wrap_in (by omega) (by omega)]; omega
     have r1 := coin_rng hc (j := l.length - 1) (by omega)
     have r2 := coin_rng hc (j := l.length - 2) (by omega)
     have w3 : IntKind.i64.wrap (l.getD (l.length - 1) 0 + l.getD (l.length - 2) 0) = l.getD (l.length - 1) 0 + l.getD (l.length - 2) 0 := wrap_in (by omega) (by omega)
     have hS : ¬ l.getD (l.length - 1) 0 + l.getD (l.length - 2) 0≤(q : Int) := fun h => by
       have := no_bad hc h1 (fun x hx hS h0 => by
         have hxq : x < q := by
           rcases h0 with h0 | h0
           · omega
           · have := hS h0; omega
         rw [← conv x hx]; exact q3 x (by omega) hxq) q (by omega)
       rw [this] at q2; cases q2
     rw [e0,eq]
     simp only [w1,w2,Int.toNat_natCast,w3]
     refine ⟨fun k => absurd trivial k,fun _ => ⟨fun _ => ⟨fun _ => ⟨⟨by omega,by omega⟩,by omega,⟨by omega,by omega⟩,by omega,fun _ => ⟨by omega,fun k => k ((cbd_0 hc h1 (by omega)).2 q2),fun _ hb k => k ?_⟩,fun k => hS k⟩,fun k => by omega⟩,fun k => by omega⟩⟩
     have hA := (cbd_0 hc h1 (x := A) (by omega)).1 hb
     by_cases e : q≤A
     · omega
     · have := q3 A (by omega) (by omega)
       rw [conv A (by omega),hA] at this; cases this
theorem gsN_ok (w : Int) : gsN w := by
 unfold gsN
 simp only [SS,reduceCtorEq,Arg.list,Arg.num,Arg.flag,intOf,andP,Nat.reduceLeDiff,Nat.reduceAdd,Nat.reduceMul,Nat.reduceLT,isTrue]
theorem gsH_ok (s : Option Nat) (c : Nat) (w : Int) : gsH s c w := by
 unfold gsH
 simp only [SS,reduceCtorEq,Arg.list,Arg.num,Arg.flag,intOf,andP,Nat.reduceLeDiff,Nat.reduceAdd,Nat.reduceMul,Nat.reduceLT,isTrue]
theorem gsT_ok : CtOk Try.prog gsT := (((((((CtOk.none.add worksG_ok).add fnG_ok).add atG_ok).add pdG_ok).add gdOG_ok).add ccG_ok).add cbG_ok).add baG_ok
theorem gsE_ok : VOk Try.prog gsE := ⟨gsT_ok,E0_ok.cc,E0_ok.yc,E0_ok.orc⟩
theorem greedy_small (r : List Arg) (hr : fitsAll [.ints .i64,.int .u16] r) (caps : Nat→Nat) : Call Try.prog 10 (canonA caps 0 r) (canonH r) isTrue := match r,hr with
 | [_,_],⟨hl,⟨w,ew,hw⟩,_⟩ => by
   subst ew
   rcases hl with rfl | ⟨s,rfl⟩ | ⟨l,rfl,_,_,_⟩
   · exact Call.ofVc gsE_ok mixed (c := gsB) (inv := fun _ => none) Try.func10 (by kernel_rfl) (cast (congrFun gsN_eq w) (gsN_ok w))
   · exact Call.ofVc gsE_ok mixed (c := gsB) (inv := fun _ => none) Try.func10 (by kernel_rfl) (cast (congrFun (congrFun (congrFun gsH_eq s) (caps 0)) w) (gsH_ok s (caps 0) w))
   · have h := gsV_ok l (caps 0) w (u16_wfA hw)
     rw [gsV_eq] at h
     refine Call.ofVW (H := [ros l]) (args := [.slice (some ⟨0,0,none⟩) l.length (caps 0),.int .u16 w]) (R := isTrue) Try.func10 (c := gsB) (by kernel_rfl) (vc_cut gsE_ok mixed 8 (ro := none) (split_of (by kernel_rfl)) h fun _ hx => ?_)
     have hc := errC_ok.1 hx
     have aw := amt_rng w
     obtain ⟨A,eA⟩ := Int.eq_ofNat_of_zero_le aw.1
     have hr := gr_rest hc aw.1
     have f3 := (gre_fact hc aw).2.2
     have h0 : errA l (amt w) = 0 := errA_0.2 ⟨hx,aw⟩
     have h2 := gsW_ok l (caps 0) (amt w) (grF l (amt w) l.length).2 (chM l (greL l (amt w))) (fewF l (amt w)) (cbdE l (amt w)) (canB l (amt w).toNat) hr.1
       (fun hk => by
         rw [cbdE,if_neg (fun h => h (errN_0 h0 hk))]
         cases badF l (amt w) (bF l (amt w).toNat)
         · exact .inr rfl
         · exact .inl rfl)
       (fun hk => by
         refine ⟨by rw [cbdE,if_pos (by rw [errN_5 h0 hk]; decide),errN_5 h0 hk],fun hz => ?_⟩
         rw [eA] at hz hk
         have := (gr_le hc (x := A) (by omega) hz).1
         rw [show ((A : Int)).toNat = A from rfl,this] at hk; cases hk)
       (fun hk => by
         rw [cbdE,if_neg (fun h => h (errN_0 h0 hk)),f3,fewF_ok (errN_0 h0 hk),badF]
         by_cases c1 : 0 < (grF l (amt w) l.length).2
         · rw [decide_eq_true c1]; exact ⟨fun _ => .inl c1,fun _ => rfl⟩
         · rw [decide_eq_false c1]
           by_cases c2 : m5 (bF l (amt w).toNat) < m5 (grF l (amt w) l.length).1
           · rw [decide_eq_true c2]; exact ⟨fun _ => .inr c2,fun _ => rfl⟩
           · rw [decide_eq_false c2]; exact ⟨fun h => (by cases h),fun h => (by rcases h with h | h <;> contradiction)⟩)
       (fun hz => by
         rw [eA] at hz ⊢
         obtain ⟨k1,k2⟩ := gr_le hc (x := A) (by omega) hz
         rw [eA] at f3 h0
         rw [f3,fewF_ok (errN_0 h0 k1)]; exact k2)
     rw [gsW_eq] at h2
     refine vc_cut gsE_ok mixed 0 (ro := none) (split_of (by kernel_rfl)) h2 fun _ _ => ?_
     have h3 := gsX_ok l (caps 0) (amt w) hc aw
     rw [gsX_eq] at h3
     exact vc_sound gsE_ok mixed (ro := none) _ [] _ _ _ h3
theorem greedy_law {K : Type} : ∀ (H : Heap) (avs : List Value) (ds : List (DataW K)),Still H→ReadsAll Try.prog H Try.f10.params.toList avs ds→Call Try.prog 10 avs H fun v _ => v = .bool true :=
 law_of (ps := [.ints .i64,.int .u16]) (by kernel_rfl) greedy_small
end Go.Pier.Fl
