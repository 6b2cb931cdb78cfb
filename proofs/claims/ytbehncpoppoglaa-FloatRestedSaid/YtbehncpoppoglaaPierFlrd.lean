import Derived.Test.YtbehncpoppoglaaPierKC6
import Derived.KernelRfl
set_option linter.unusedSimpArgs false
set_option linter.unusedVariables false
set_option maxRecDepth 100000
namespace Go.Pier.Fl
open Go Go.Pier Go.Proofs
def msF (r : List Int) (f : Int) : Nat→Int
 | 0 => -1
 | i + 1 => if r.getD i 0 - f > msF r f i then r.getD i 0 - f else msF r f i
def enF (r : List Int) : Nat→Bool
 | 0 => false
 | i + 1 => enF r i || decide (r.getD i 0 < 0)
noncomputable def rdT : Ct := (((((((Ct.none.add 19 (pureG [] worksS)).add 49 (pureG [.ints .i64] fnS)).add 50 (pureG [.int .u16] atS)).add 51 (pureG [.ints .i64,.int .i64] pdS)).add 41 (pureG [.ints .i64] gtS)).add 43 (pureG [.ints .i64] mnS)).add 39 (born3 [.one (.rows [.i .i64] false)] rtS))
noncomputable def rdE : VEnv := { ct := rdT }
noncomputable def rdB : Code := Try.f11.body.getD .skip
def rdI (l : List Int) (c : Nat) (a : Int) (b : Bool) : Nat→Option LInv := invOf 0 (LInv.one Nat (fun i => i≤(resF l).length) (fun i => [(0,.slice (some ⟨0,0,none⟩) l.length c),(5,vi a),(6,.slice (some ⟨1,0,none⟩) (resF l).length (resF l).length),(9,.bool b),(11,vi (msF (resF l) (fstF l) i)),(12,vi (smF (resF l) (fstF l) i)),(13,.bool (enF (resF l) i)),(14,vi i)]) (fun _ => [ros l,.rw ((resF l).map (.int .i64)) none]) (fun i => (resF l).length - i))
noncomputable def rdV :=
fun (l:List Int) (c:Nat) (w:Int)↦Ob ((List.take l.length (List.drop 0 (List.map (Value.int IntKind.i64) l))=List.map (Value.int IntKind.i64) (List.take l.length (List.drop 0 (intsOf (List.map (Value.int IntKind.i64) l))))∧0+l.length≤(List.map (Value.int IntKind.i64) l).length∧true=true)∧True)∧((!errC (List.take l.length (List.drop 0 (intsOf (List.map (Value.int IntKind.i64) l))))==(0:Int))=true→Ob True∧True∧Ob (isTrue (Value.bool true) [AObj.ro (List.map (Value.int IntKind.i64) l)]))∧((!errC (List.take l.length (List.drop 0 (intsOf (List.map (Value.int IntKind.i64) l))))==(0:Int))=false→Ob ((0:Int)≤w∧w<(65536:Int))∧Ob ((true=true∧Flat (List.map (Value.int IntKind.i64) l))∧okV (Leaf.view (List.map (Value.int IntKind.i64) l) l.length false))∧Ob ((List.take l.length (List.drop 0 (List.map (Value.int IntKind.i64) l))=List.map (Value.int IntKind.i64) (List.take l.length (List.drop 0 (intsOf (List.map (Value.int IntKind.i64) l))))∧0+l.length≤(List.map (Value.int IntKind.i64) l).length∧true=true)∧Coins (List.take l.length (List.drop 0 (intsOf (List.map (Value.int IntKind.i64) l))))∧(0:Int)≤amt w∧amt w≤(300:Int))∧(false=false→(false=false→Ob ((0:Int)≤(0:Int)∧(0:Int)<(l.length:Int)∧true=true)∧Ob (IntAt IntKind.i64 (List.map (Value.int IntKind.i64) l) 0)∧(((↑(resF (intsOf (List.map (Value.int IntKind.i64) l))).length:Int) !=getI (List.map (Value.int IntKind.i64) l) 0)=false→Ob ((0:Int)≤(0:Int)∧(0:Int)<(↑(resF (intsOf (List.map (Value.int IntKind.i64) l))).length:Int)∧true=true)∧Ob (IntAt IntKind.i64 (List.map (Value.int IntKind.i64) (resF (intsOf (List.map (Value.int IntKind.i64) l)))) (0+0))∧((getI (List.map (Value.int IntKind.i64) (resF (intsOf (List.map (Value.int IntKind.i64) l)))) (0+0) !=(0:Int))=true→True∧Ob (isTrue (Value.bool false) [AObj.ro (List.map (Value.int IntKind.i64) l),AObj.rw (List.map (Value.int IntKind.i64) (resF (intsOf (List.map (Value.int IntKind.i64) l)))) none]))∧((getI (List.map (Value.int IntKind.i64) (resF (intsOf (List.map (Value.int IntKind.i64) l)))) (0+0) !=(0:Int))=false→(∃ (y:Nat),Ob (y≤(resF l).length)∧(Ob (AObj.ro (List.map (Value.int IntKind.i64) l)=AObj.ro (List.map (nmap1 fun (b:Nat)↦b) (List.map (Value.int IntKind.i64) l))∧AObj.sc 2 (AObj.ro (List.map (Value.int IntKind.i64) l))=true)∧Ob (AObj.rw (List.map (Value.int IntKind.i64) (resF (intsOf (List.map (Value.int IntKind.i64) l)))) none=AObj.rw (List.map (nmap1 fun (b:Nat)↦b) (List.map (Value.int IntKind.i64) (resF l))) none∧AObj.sc 2 (AObj.rw (List.map (Value.int IntKind.i64) (resF l)) none)=true)∧True)∧Ob (Value.slice (some (ad0 0)) l.length c=Value.slice (some (ad0 0)) l.length c)∧Ob (amt w=amt w)∧Ob (Value.slice (some (ad0 1)) (resF (intsOf (List.map (Value.int IntKind.i64) l))).length (resF (intsOf (List.map (Value.int IntKind.i64) l))).length=Value.slice (some (ad0 1)) (resF l).length (resF l).length)∧Ob (canB (List.take l.length (List.drop 0 (intsOf (List.map (Value.int IntKind.i64) l)))) (amt w).toNat=canB l (amt w).toNat)∧Ob ((-1:Int)=msF (resF l) (fstF l) y)∧Ob ((0:Int)=smF (resF l) (fstF l) y)∧Ob (false=enF (resF l) y)∧Ob ((0:Int)=(y:Int))∧True)∧∀ (x:Nat),Ob (x≤(resF l).length)→Ob ((0:Int)≤(0:Int)∧(0:Int)<(l.length:Int)∧true=true)∧Ob (IntAt IntKind.i64 (List.map (Value.int IntKind.i64) l) 0)∧(decide ((x:Int)<getI (List.map (Value.int IntKind.i64) l) 0)=true→Ob ((0:Int)≤(x:Int)∧(x:Int)<(↑(resF l).length:Int)∧true=true)∧Ob (IntAt IntKind.i64 (List.map (Value.int IntKind.i64) (resF l)) (0+(x:Int).toNat * 1))∧(decide (getI (List.map (Value.int IntKind.i64) (resF l)) (0+(x:Int).toNat * 1)<(-1:Int))=false→Ob ((0:Int)≤(x:Int)∧(x:Int)<(↑(resF l).length:Int)∧true=true)∧Ob (IntAt IntKind.i64 (List.map (Value.int IntKind.i64) (resF l)) (0+(x:Int).toNat * 1))∧(decide ((5000:Int)<getI (List.map (Value.int IntKind.i64) (resF l)) (0+(x:Int).toNat * 1))=false→Ob ((0:Int)≤(x:Int)∧(x:Int)<(↑(resF l).length:Int)∧true=true)∧Ob (IntAt IntKind.i64 (List.map (Value.int IntKind.i64) (resF l)) (0+(x:Int).toNat * 1))∧(decide ((0:Int)≤getI (List.map (Value.int IntKind.i64) (resF l)) (0+(x:Int).toNat * 1))=true→Ob ((0:Int)≤(x:Int)∧(x:Int)<(↑(resF l).length:Int)∧true=true)∧Ob (IntAt IntKind.i64 (List.map (Value.int IntKind.i64) (resF l)) (0+(x:Int).toNat * 1))∧Ob ((0:Int)≤(0:Int)∧(0:Int)<(l.length:Int)∧true=true)∧Ob (IntAt IntKind.i64 (List.map (Value.int IntKind.i64) l) 0)∧Ob (getI (List.map (Value.int IntKind.i64) l) 0≠(0:Int))∧(((getI (List.map (Value.int IntKind.i64) (resF l)) (0+(x:Int).toNat * 1)).tmod (getI (List.map (Value.int IntKind.i64) l) 0) !=(x:Int))=true→True∧Ob (isTrue (Value.bool false) [AObj.ro (List.map (Value.int IntKind.i64) l),AObj.rw (List.map (Value.int IntKind.i64) (resF l)) none]))∧(((getI (List.map (Value.int IntKind.i64) (resF l)) (0+(x:Int).toNat * 1)).tmod (getI (List.map (Value.int IntKind.i64) l) 0) !=(x:Int))=false→Ob ((0:Int)≤(x:Int)∧(x:Int)<(↑(resF l).length:Int)∧true=true)∧Ob (IntAt IntKind.i64 (List.map (Value.int IntKind.i64) (resF l)) (0+(x:Int).toNat * 1))∧Ob ((0:Int)≤(0:Int)∧(0:Int)<(l.length:Int)∧true=true)∧Ob (IntAt IntKind.i64 (List.map (Value.int IntKind.i64) l) 0)∧Ob ((0:Int)≤(x:Int)∧(x:Int)<(↑(resF l).length:Int)∧true=true)∧Ob (IntAt IntKind.i64 (List.map (Value.int IntKind.i64) (resF l)) (0+(x:Int).toNat * 1))∧Ob ((0:Int)≤(0:Int)∧(0:Int)<(l.length:Int)∧true=true)∧Ob (IntAt IntKind.i64 (List.map (Value.int IntKind.i64) l) 0)∧Ob (getI (List.map (Value.int IntKind.i64) l) 0≠(0:Int))∧(enF (resF l) x=false→Ob ((0:Int)≤(x:Int)∧(x:Int)<(↑(resF l).length:Int)∧true=true)∧Ob (IntAt IntKind.i64 (List.map (Value.int IntKind.i64) (resF l)) (0+(x:Int).toNat * 1))∧∃ (y:Nat),Ob (y≤(resF l).length)∧Ob ((resF l).length-y<(resF l).length-x)∧(Ob (AObj.ro (List.map (Value.int IntKind.i64) l)=AObj.ro (List.map (nmap1 fun (b:Nat)↦b) (List.map (Value.int IntKind.i64) l))∧AObj.sc 2 (AObj.ro (List.map (Value.int IntKind.i64) l))=true)∧Ob (AObj.rw (List.map (Value.int IntKind.i64) (resF l)) none=AObj.rw (List.map (nmap1 fun (b:Nat)↦b) (List.map (Value.int IntKind.i64) (resF l))) none∧AObj.sc 2 (AObj.rw (List.map (Value.int IntKind.i64) (resF l)) none)=true)∧True)∧Ob (Value.slice (some (ad0 0)) l.length c=Value.slice (some (ad0 0)) l.length c)∧Ob (amt w=amt w)∧Ob (Value.slice (some (ad0 1)) (resF l).length (resF l).length=Value.slice (some (ad0 1)) (resF l).length (resF l).length)∧Ob (canB l (amt w).toNat=canB l (amt w).toNat)∧Ob ((if IntKind.i64.wrap (getI (List.map (Value.int IntKind.i64) (resF l)) (0+(x:Int).toNat * 1)-getI (List.map (Value.int IntKind.i64) l) 0) > msF (resF l) (fstF l) x then IntKind.i64.wrap (getI (List.map (Value.int IntKind.i64) (resF l)) (0+(x:Int).toNat * 1)-getI (List.map (Value.int IntKind.i64) l) 0) else msF (resF l) (fstF l) x)=msF (resF l) (fstF l) y)∧Ob (IntKind.i64.wrap (smF (resF l) (fstF l) x+IntKind.i64.wrap ((getI (List.map (Value.int IntKind.i64) (resF l)) (0+(x:Int).toNat * 1)).tdiv (getI (List.map (Value.int IntKind.i64) l) 0)))=smF (resF l) (fstF l) y)∧Ob (decide (getI (List.map (Value.int IntKind.i64) (resF l)) (0+(x:Int).toNat * 1)<(0:Int))=enF (resF l) y)∧Ob (IntKind.i64.wrap ((x:Int)+(1:Int))=(y:Int))∧True)∧(enF (resF l) x=true→∃ (y:Nat),Ob (y≤(resF l).length)∧Ob ((resF l).length-y<(resF l).length-x)∧(Ob (AObj.ro (List.map (Value.int IntKind.i64) l)=AObj.ro (List.map (nmap1 fun (b:Nat)↦b) (List.map (Value.int IntKind.i64) l))∧AObj.sc 2 (AObj.ro (List.map (Value.int IntKind.i64) l))=true)∧Ob (AObj.rw (List.map (Value.int IntKind.i64) (resF l)) none=AObj.rw (List.map (nmap1 fun (b:Nat)↦b) (List.map (Value.int IntKind.i64) (resF l))) none∧AObj.sc 2 (AObj.rw (List.map (Value.int IntKind.i64) (resF l)) none)=true)∧True)∧Ob (Value.slice (some (ad0 0)) l.length c=Value.slice (some (ad0 0)) l.length c)∧Ob (amt w=amt w)∧Ob (Value.slice (some (ad0 1)) (resF l).length (resF l).length=Value.slice (some (ad0 1)) (resF l).length (resF l).length)∧Ob (canB l (amt w).toNat=canB l (amt w).toNat)∧Ob ((if IntKind.i64.wrap (getI (List.map (Value.int IntKind.i64) (resF l)) (0+(x:Int).toNat * 1)-getI (List.map (Value.int IntKind.i64) l) 0) > msF (resF l) (fstF l) x then IntKind.i64.wrap (getI (List.map (Value.int IntKind.i64) (resF l)) (0+(x:Int).toNat * 1)-getI (List.map (Value.int IntKind.i64) l) 0) else msF (resF l) (fstF l) x)=msF (resF l) (fstF l) y)∧Ob (IntKind.i64.wrap (smF (resF l) (fstF l) x+IntKind.i64.wrap ((getI (List.map (Value.int IntKind.i64) (resF l)) (0+(x:Int).toNat * 1)).tdiv (getI (List.map (Value.int IntKind.i64) l) 0)))=smF (resF l) (fstF l) y)∧Ob (true=enF (resF l) y)∧Ob (IntKind.i64.wrap ((x:Int)+(1:Int))=(y:Int))∧True)))∧(decide ((0:Int)≤getI (List.map (Value.int IntKind.i64) (resF l)) (0+(x:Int).toNat * 1))=false→Ob ((0:Int)≤(x:Int)∧(x:Int)<(↑(resF l).length:Int)∧true=true)∧Ob (IntAt IntKind.i64 (List.map (Value.int IntKind.i64) (resF l)) (0+(x:Int).toNat * 1))∧Ob ((0:Int)≤(0:Int)∧(0:Int)<(l.length:Int)∧true=true)∧Ob (IntAt IntKind.i64 (List.map (Value.int IntKind.i64) l) 0)∧Ob ((0:Int)≤(x:Int)∧(x:Int)<(↑(resF l).length:Int)∧true=true)∧Ob (IntAt IntKind.i64 (List.map (Value.int IntKind.i64) (resF l)) (0+(x:Int).toNat * 1))∧Ob ((0:Int)≤(0:Int)∧(0:Int)<(l.length:Int)∧true=true)∧Ob (IntAt IntKind.i64 (List.map (Value.int IntKind.i64) l) 0)∧Ob (getI (List.map (Value.int IntKind.i64) l) 0≠(0:Int))∧(enF (resF l) x=false→Ob ((0:Int)≤(x:Int)∧(x:Int)<(↑(resF l).length:Int)∧true=true)∧Ob (IntAt IntKind.i64 (List.map (Value.int IntKind.i64) (resF l)) (0+(x:Int).toNat * 1))∧∃ (y:Nat),Ob (y≤(resF l).length)∧Ob ((resF l).length-y<(resF l).length-x)∧(Ob (AObj.ro (List.map (Value.int IntKind.i64) l)=AObj.ro (List.map (nmap1 fun (b:Nat)↦b) (List.map (Value.int IntKind.i64) l))∧AObj.sc 2 (AObj.ro (List.map (Value.int IntKind.i64) l))=true)∧Ob (AObj.rw (List.map (Value.int IntKind.i64) (resF l)) none=AObj.rw (List.map (nmap1 fun (b:Nat)↦b) (List.map (Value.int IntKind.i64) (resF l))) none∧AObj.sc 2 (AObj.rw (List.map (Value.int IntKind.i64) (resF l)) none)=true)∧True)∧Ob (Value.slice (some (ad0 0)) l.length c=Value.slice (some (ad0 0)) l.length c)∧Ob (amt w=amt w)∧Ob (Value.slice (some (ad0 1)) (resF l).length (resF l).length=Value.slice (some (ad0 1)) (resF l).length (resF l).length)∧Ob (canB l (amt w).toNat=canB l (amt w).toNat)∧Ob ((if IntKind.i64.wrap (getI (List.map (Value.int IntKind.i64) (resF l)) (0+(x:Int).toNat * 1)-getI (List.map (Value.int IntKind.i64) l) 0) > msF (resF l) (fstF l) x then IntKind.i64.wrap (getI (List.map (Value.int IntKind.i64) (resF l)) (0+(x:Int).toNat * 1)-getI (List.map (Value.int IntKind.i64) l) 0) else msF (resF l) (fstF l) x)=msF (resF l) (fstF l) y)∧Ob (IntKind.i64.wrap (smF (resF l) (fstF l) x+IntKind.i64.wrap ((getI (List.map (Value.int IntKind.i64) (resF l)) (0+(x:Int).toNat * 1)).tdiv (getI (List.map (Value.int IntKind.i64) l) 0)))=smF (resF l) (fstF l) y)∧Ob (decide (getI (List.map (Value.int IntKind.i64) (resF l)) (0+(x:Int).toNat * 1)<(0:Int))=enF (resF l) y)∧Ob (IntKind.i64.wrap ((x:Int)+(1:Int))=(y:Int))∧True)∧(enF (resF l) x=true→∃ (y:Nat),Ob (y≤(resF l).length)∧Ob ((resF l).length-y<(resF l).length-x)∧(Ob (AObj.ro (List.map (Value.int IntKind.i64) l)=AObj.ro (List.map (nmap1 fun (b:Nat)↦b) (List.map (Value.int IntKind.i64) l))∧AObj.sc 2 (AObj.ro (List.map (Value.int IntKind.i64) l))=true)∧Ob (AObj.rw (List.map (Value.int IntKind.i64) (resF l)) none=AObj.rw (List.map (nmap1 fun (b:Nat)↦b) (List.map (Value.int IntKind.i64) (resF l))) none∧AObj.sc 2 (AObj.rw (List.map (Value.int IntKind.i64) (resF l)) none)=true)∧True)∧Ob (Value.slice (some (ad0 0)) l.length c=Value.slice (some (ad0 0)) l.length c)∧Ob (amt w=amt w)∧Ob (Value.slice (some (ad0 1)) (resF l).length (resF l).length=Value.slice (some (ad0 1)) (resF l).length (resF l).length)∧Ob (canB l (amt w).toNat=canB l (amt w).toNat)∧Ob ((if IntKind.i64.wrap (getI (List.map (Value.int IntKind.i64) (resF l)) (0+(x:Int).toNat * 1)-getI (List.map (Value.int IntKind.i64) l) 0) > msF (resF l) (fstF l) x then IntKind.i64.wrap (getI (List.map (Value.int IntKind.i64) (resF l)) (0+(x:Int).toNat * 1)-getI (List.map (Value.int IntKind.i64) l) 0) else msF (resF l) (fstF l) x)=msF (resF l) (fstF l) y)∧Ob (IntKind.i64.wrap (smF (resF l) (fstF l) x+IntKind.i64.wrap ((getI (List.map (Value.int IntKind.i64) (resF l)) (0+(x:Int).toNat * 1)).tdiv (getI (List.map (Value.int IntKind.i64) l) 0)))=smF (resF l) (fstF l) y)∧Ob (true=enF (resF l) y)∧Ob (IntKind.i64.wrap ((x:Int)+(1:Int))=(y:Int))∧True)))∧(decide ((5000:Int)<getI (List.map (Value.int IntKind.i64) (resF l)) (0+(x:Int).toNat * 1))=true→True∧Ob (isTrue (Value.bool false) [AObj.ro (List.map (Value.int IntKind.i64) l),AObj.rw (List.map (Value.int IntKind.i64) (resF l)) none])))∧(decide (getI (List.map (Value.int IntKind.i64) (resF l)) (0+(x:Int).toNat * 1)<(-1:Int))=true→True∧Ob (isTrue (Value.bool false) [AObj.ro (List.map (Value.int IntKind.i64) l),AObj.rw (List.map (Value.int IntKind.i64) (resF l)) none])))∧(decide ((x:Int)<getI (List.map (Value.int IntKind.i64) l) 0)=false→Ob ((0:Int)≤(0:Int)∧(0:Int)<(l.length:Int)∧true=true)∧Ob (IntAt IntKind.i64 (List.map (Value.int IntKind.i64) l) 0)∧Ob (getI (List.map (Value.int IntKind.i64) l) 0≠(0:Int))∧Ob ((0:Int)≤(amt w).tmod (getI (List.map (Value.int IntKind.i64) l) 0)∧(amt w).tmod (getI (List.map (Value.int IntKind.i64) l) 0)<(↑(resF l).length:Int)∧true=true)∧Ob (IntAt IntKind.i64 (List.map (Value.int IntKind.i64) (resF l)) (0+((amt w).tmod (getI (List.map (Value.int IntKind.i64) l) 0)).toNat * 1))∧(decide ((0:Int)≤getI (List.map (Value.int IntKind.i64) (resF l)) (0+((amt w).tmod (getI (List.map (Value.int IntKind.i64) l) 0)).toNat * 1))=true→((!canB l (amt w).toNat==decide (getI (List.map (Value.int IntKind.i64) (resF l)) (0+((amt w).tmod (getI (List.map (Value.int IntKind.i64) l) 0)).toNat * 1)≤amt w))=true→True∧Ob (isTrue (Value.bool false) [AObj.ro (List.map (Value.int IntKind.i64) l),AObj.rw (List.map (Value.int IntKind.i64) (resF l)) none]))∧((!canB l (amt w).toNat==decide (getI (List.map (Value.int IntKind.i64) (resF l)) (0+((amt w).tmod (getI (List.map (Value.int IntKind.i64) l) 0)).toNat * 1)≤amt w))=false→Ob ((List.take l.length (List.drop 0 (List.map (Value.int IntKind.i64) l))=List.map (Value.int IntKind.i64) (List.take l.length (List.drop 0 (intsOf (List.map (Value.int IntKind.i64) l))))∧0+l.length≤(List.map (Value.int IntKind.i64) l).length∧true=true)∧(List.take l.length (List.drop 0 (intsOf (List.map (Value.int IntKind.i64) l)))).length≤1000000)∧Ob ((List.take l.length (List.drop 0 (List.map (Value.int IntKind.i64) l))=List.map (Value.int IntKind.i64) (List.take l.length (List.drop 0 (intsOf (List.map (Value.int IntKind.i64) l))))∧0+l.length≤(List.map (Value.int IntKind.i64) l).length∧true=true)∧(List.take l.length (List.drop 0 (intsOf (List.map (Value.int IntKind.i64) l)))).length≤1000000)∧(enF (resF l) x=true→((gtE (List.take l.length (List.drop 0 (intsOf (List.map (Value.int IntKind.i64) l))))==(4:Int))=true→((mnE (List.take l.length (List.drop 0 (intsOf (List.map (Value.int IntKind.i64) l))))==(4:Int))=true→Ob True∧True∧Ob (isTrue (Value.bool true) [AObj.ro (List.map (Value.int IntKind.i64) l),AObj.rw (List.map (Value.int IntKind.i64) (resF l)) none]))∧((mnE (List.take l.length (List.drop 0 (intsOf (List.map (Value.int IntKind.i64) l))))==(4:Int))=false→True∧Ob (isTrue (Value.bool false) [AObj.ro (List.map (Value.int IntKind.i64) l),AObj.rw (List.map (Value.int IntKind.i64) (resF l)) none])))∧((gtE (List.take l.length (List.drop 0 (intsOf (List.map (Value.int IntKind.i64) l))))==(4:Int))=false→True∧Ob (isTrue (Value.bool false) [AObj.ro (List.map (Value.int IntKind.i64) l),AObj.rw (List.map (Value.int IntKind.i64) (resF l)) none])))∧(enF (resF l) x=false→(decide (msF (resF l) (fstF l) x<(0:Int))=true→((gtE (List.take l.length (List.drop 0 (intsOf (List.map (Value.int IntKind.i64) l))))==(5:Int))=true→((mnE (List.take l.length (List.drop 0 (intsOf (List.map (Value.int IntKind.i64) l))))==(0:Int))=true→((mnV (List.take l.length (List.drop 0 (intsOf (List.map (Value.int IntKind.i64) l))))==(0:Int))=true→(canB l (amt w).toNat=true→Ob True∧True∧Ob (isTrue (Value.bool true) [AObj.ro (List.map (Value.int IntKind.i64) l),AObj.rw (List.map (Value.int IntKind.i64) (resF l)) none]))∧(canB l (amt w).toNat=false→True∧Ob (isTrue (Value.bool false) [AObj.ro (List.map (Value.int IntKind.i64) l),AObj.rw (List.map (Value.int IntKind.i64) (resF l)) none])))∧((mnV (List.take l.length (List.drop 0 (intsOf (List.map (Value.int IntKind.i64) l))))==(0:Int))=false→True∧Ob (isTrue (Value.bool false) [AObj.ro (List.map (Value.int IntKind.i64) l),AObj.rw (List.map (Value.int IntKind.i64) (resF l)) none])))∧((mnE (List.take l.length (List.drop 0 (intsOf (List.map (Value.int IntKind.i64) l))))==(0:Int))=false→True∧Ob (isTrue (Value.bool false) [AObj.ro (List.map (Value.int IntKind.i64) l),AObj.rw (List.map (Value.int IntKind.i64) (resF l)) none])))∧((gtE (List.take l.length (List.drop 0 (intsOf (List.map (Value.int IntKind.i64) l))))==(5:Int))=false→True∧Ob (isTrue (Value.bool false) [AObj.ro (List.map (Value.int IntKind.i64) l),AObj.rw (List.map (Value.int IntKind.i64) (resF l)) none])))∧(decide (msF (resF l) (fstF l) x<(0:Int))=false→((gtE (List.take l.length (List.drop 0 (intsOf (List.map (Value.int IntKind.i64) l))))==(0:Int))=true→((gtV (List.take l.length (List.drop 0 (intsOf (List.map (Value.int IntKind.i64) l))))==msF (resF l) (fstF l) x)=true→((mnE (List.take l.length (List.drop 0 (intsOf (List.map (Value.int IntKind.i64) l))))==(0:Int))=true→((mnV (List.take l.length (List.drop 0 (intsOf (List.map (Value.int IntKind.i64) l))))==smF (resF l) (fstF l) x)=true→(canB l (amt w).toNat=false→(decide (amt w≤gtV (List.take l.length (List.drop 0 (intsOf (List.map (Value.int IntKind.i64) l)))))=true→((amt w !=gtV (List.take l.length (List.drop 0 (intsOf (List.map (Value.int IntKind.i64) l)))))=false→((!canB l (amt w).toNat)=true→Ob True∧True∧Ob (isTrue (Value.bool true) [AObj.ro (List.map (Value.int IntKind.i64) l),AObj.rw (List.map (Value.int IntKind.i64) (resF l)) none]))∧((!canB l (amt w).toNat)=false→True∧Ob (isTrue (Value.bool false) [AObj.ro (List.map (Value.int IntKind.i64) l),AObj.rw (List.map (Value.int IntKind.i64) (resF l)) none])))∧((amt w !=gtV (List.take l.length (List.drop 0 (intsOf (List.map (Value.int IntKind.i64) l)))))=true→Ob True∧True∧Ob (isTrue (Value.bool true) [AObj.ro (List.map (Value.int IntKind.i64) l),AObj.rw (List.map (Value.int IntKind.i64) (resF l)) none])))∧(decide (amt w≤gtV (List.take l.length (List.drop 0 (intsOf (List.map (Value.int IntKind.i64) l)))))=false→True∧Ob (isTrue (Value.bool false) [AObj.ro (List.map (Value.int IntKind.i64) l),AObj.rw (List.map (Value.int IntKind.i64) (resF l)) none])))∧(canB l (amt w).toNat=true→((amt w !=gtV (List.take l.length (List.drop 0 (intsOf (List.map (Value.int IntKind.i64) l)))))=false→((!canB l (amt w).toNat)=true→Ob True∧True∧Ob (isTrue (Value.bool true) [AObj.ro (List.map (Value.int IntKind.i64) l),AObj.rw (List.map (Value.int IntKind.i64) (resF l)) none]))∧((!canB l (amt w).toNat)=false→True∧Ob (isTrue (Value.bool false) [AObj.ro (List.map (Value.int IntKind.i64) l),AObj.rw (List.map (Value.int IntKind.i64) (resF l)) none])))∧((amt w !=gtV (List.take l.length (List.drop 0 (intsOf (List.map (Value.int IntKind.i64) l)))))=true→Ob True∧True∧Ob (isTrue (Value.bool true) [AObj.ro (List.map (Value.int IntKind.i64) l),AObj.rw (List.map (Value.int IntKind.i64) (resF l)) none]))))∧((mnV (List.take l.length (List.drop 0 (intsOf (List.map (Value.int IntKind.i64) l))))==smF (resF l) (fstF l) x)=false→True∧Ob (isTrue (Value.bool false) [AObj.ro (List.map (Value.int IntKind.i64) l),AObj.rw (List.map (Value.int IntKind.i64) (resF l)) none])))∧((mnE (List.take l.length (List.drop 0 (intsOf (List.map (Value.int IntKind.i64) l))))==(0:Int))=false→True∧Ob (isTrue (Value.bool false) [AObj.ro (List.map (Value.int IntKind.i64) l),AObj.rw (List.map (Value.int IntKind.i64) (resF l)) none])))∧((gtV (List.take l.length (List.drop 0 (intsOf (List.map (Value.int IntKind.i64) l))))==msF (resF l) (fstF l) x)=false→True∧Ob (isTrue (Value.bool false) [AObj.ro (List.map (Value.int IntKind.i64) l),AObj.rw (List.map (Value.int IntKind.i64) (resF l)) none])))∧((gtE (List.take l.length (List.drop 0 (intsOf (List.map (Value.int IntKind.i64) l))))==(0:Int))=false→True∧Ob (isTrue (Value.bool false) [AObj.ro (List.map (Value.int IntKind.i64) l),AObj.rw (List.map (Value.int IntKind.i64) (resF l)) none]))))))∧(decide ((0:Int)≤getI (List.map (Value.int IntKind.i64) (resF l)) (0+((amt w).tmod (getI (List.map (Value.int IntKind.i64) l) 0)).toNat * 1))=false→((!canB l (amt w).toNat==false)=true→True∧Ob (isTrue (Value.bool false) [AObj.ro (List.map (Value.int IntKind.i64) l),AObj.rw (List.map (Value.int IntKind.i64) (resF l)) none]))∧((!canB l (amt w).toNat==false)=false→Ob ((List.take l.length (List.drop 0 (List.map (Value.int IntKind.i64) l))=List.map (Value.int IntKind.i64) (List.take l.length (List.drop 0 (intsOf (List.map (Value.int IntKind.i64) l))))∧0+l.length≤(List.map (Value.int IntKind.i64) l).length∧true=true)∧(List.take l.length (List.drop 0 (intsOf (List.map (Value.int IntKind.i64) l)))).length≤1000000)∧Ob ((List.take l.length (List.drop 0 (List.map (Value.int IntKind.i64) l))=List.map (Value.int IntKind.i64) (List.take l.length (List.drop 0 (intsOf (List.map (Value.int IntKind.i64) l))))∧0+l.length≤(List.map (Value.int IntKind.i64) l).length∧true=true)∧(List.take l.length (List.drop 0 (intsOf (List.map (Value.int IntKind.i64) l)))).length≤1000000)∧(enF (resF l) x=true→((gtE (List.take l.length (List.drop 0 (intsOf (List.map (Value.int IntKind.i64) l))))==(4:Int))=true→((mnE (List.take l.length (List.drop 0 (intsOf (List.map (Value.int IntKind.i64) l))))==(4:Int))=true→Ob True∧True∧Ob (isTrue (Value.bool true) [AObj.ro (List.map (Value.int IntKind.i64) l),AObj.rw (List.map (Value.int IntKind.i64) (resF l)) none]))∧((mnE (List.take l.length (List.drop 0 (intsOf (List.map (Value.int IntKind.i64) l))))==(4:Int))=false→True∧Ob (isTrue (Value.bool false) [AObj.ro (List.map (Value.int IntKind.i64) l),AObj.rw (List.map (Value.int IntKind.i64) (resF l)) none])))∧((gtE (List.take l.length (List.drop 0 (intsOf (List.map (Value.int IntKind.i64) l))))==(4:Int))=false→True∧Ob (isTrue (Value.bool false) [AObj.ro (List.map (Value.int IntKind.i64) l),AObj.rw (List.map (Value.int IntKind.i64) (resF l)) none])))∧(enF (resF l) x=false→(decide (msF (resF l) (fstF l) x<(0:Int))=true→((gtE (List.take l.length (List.drop 0 (intsOf (List.map (Value.int IntKind.i64) l))))==(5:Int))=true→((mnE (List.take l.length (List.drop 0 (intsOf (List.map (Value.int IntKind.i64) l))))==(0:Int))=true→((mnV (List.take l.length (List.drop 0 (intsOf (List.map (Value.int IntKind.i64) l))))==(0:Int))=true→(canB l (amt w).toNat=true→Ob True∧True∧Ob (isTrue (Value.bool true) [AObj.ro (List.map (Value.int IntKind.i64) l),AObj.rw (List.map (Value.int IntKind.i64) (resF l)) none]))∧(canB l (amt w).toNat=false→True∧Ob (isTrue (Value.bool false) [AObj.ro (List.map (Value.int IntKind.i64) l),AObj.rw (List.map (Value.int IntKind.i64) (resF l)) none])))∧((mnV (List.take l.length (List.drop 0 (intsOf (List.map (Value.int IntKind.i64) l))))==(0:Int))=false→True∧Ob (isTrue (Value.bool false) [AObj.ro (List.map (Value.int IntKind.i64) l),AObj.rw (List.map (Value.int IntKind.i64) (resF l)) none])))∧((mnE (List.take l.length (List.drop 0 (intsOf (List.map (Value.int IntKind.i64) l))))==(0:Int))=false→True∧Ob (isTrue (Value.bool false) [AObj.ro (List.map (Value.int IntKind.i64) l),AObj.rw (List.map (Value.int IntKind.i64) (resF l)) none])))∧((gtE (List.take l.length (List.drop 0 (intsOf (List.map (Value.int IntKind.i64) l))))==(5:Int))=false→True∧Ob (isTrue (Value.bool false) [AObj.ro (List.map (Value.int IntKind.i64) l),AObj.rw (List.map (Value.int IntKind.i64) (resF l)) none])))∧(decide (msF (resF l) (fstF l) x<(0:Int))=false→((gtE (List.take l.length (List.drop 0 (intsOf (List.map (Value.int IntKind.i64) l))))==(0:Int))=true→((gtV (List.take l.length (List.drop 0 (intsOf (List.map (Value.int IntKind.i64) l))))==msF (resF l) (fstF l) x)=true→((mnE (List.take l.length (List.drop 0 (intsOf (List.map (Value.int IntKind.i64) l))))==(0:Int))=true→((mnV (List.take l.length (List.drop 0 (intsOf (List.map (Value.int IntKind.i64) l))))==smF (resF l) (fstF l) x)=true→(canB l (amt w).toNat=false→(decide (amt w≤gtV (List.take l.length (List.drop 0 (intsOf (List.map (Value.int IntKind.i64) l)))))=true→((amt w !=gtV (List.take l.length (List.drop 0 (intsOf (List.map (Value.int IntKind.i64) l)))))=false→((!canB l (amt w).toNat)=true→Ob True∧True∧Ob (isTrue (Value.bool true) [AObj.ro (List.map (Value.int IntKind.i64) l),AObj.rw (List.map (Value.int IntKind.i64) (resF l)) none]))∧((!canB l (amt w).toNat)=false→True∧Ob (isTrue (Value.bool false) [AObj.ro (List.map (Value.int IntKind.i64) l),AObj.rw (List.map (Value.int IntKind.i64) (resF l)) none])))∧((amt w !=gtV (List.take l.length (List.drop 0 (intsOf (List.map (Value.int IntKind.i64) l)))))=true→Ob True∧True∧Ob (isTrue (Value.bool true) [AObj.ro (List.map (Value.int IntKind.i64) l),AObj.rw (List.map (Value.int IntKind.i64) (resF l)) none])))∧(decide (amt w≤gtV (List.take l.length (List.drop 0 (intsOf (List.map (Value.int IntKind.i64) l)))))=false→True∧Ob (isTrue (Value.bool false) [AObj.ro (List.map (Value.int IntKind.i64) l),AObj.rw (List.map (Value.int IntKind.i64) (resF l)) none])))∧(canB l (amt w).toNat=true→((amt w !=gtV (List.take l.length (List.drop 0 (intsOf (List.map (Value.int IntKind.i64) l)))))=false→((!canB l (amt w).toNat)=true→Ob True∧True∧Ob (isTrue (Value.bool true) [AObj.ro (List.map (Value.int IntKind.i64) l),AObj.rw (List.map (Value.int IntKind.i64) (resF l)) none]))∧((!canB l (amt w).toNat)=false→True∧Ob (isTrue (Value.bool false) [AObj.ro (List.map (Value.int IntKind.i64) l),AObj.rw (List.map (Value.int IntKind.i64) (resF l)) none])))∧((amt w !=gtV (List.take l.length (List.drop 0 (intsOf (List.map (Value.int IntKind.i64) l)))))=true→Ob True∧True∧Ob (isTrue (Value.bool true) [AObj.ro (List.map (Value.int IntKind.i64) l),AObj.rw (List.map (Value.int IntKind.i64) (resF l)) none]))))∧((mnV (List.take l.length (List.drop 0 (intsOf (List.map (Value.int IntKind.i64) l))))==smF (resF l) (fstF l) x)=false→True∧Ob (isTrue (Value.bool false) [AObj.ro (List.map (Value.int IntKind.i64) l),AObj.rw (List.map (Value.int IntKind.i64) (resF l)) none])))∧((mnE (List.take l.length (List.drop 0 (intsOf (List.map (Value.int IntKind.i64) l))))==(0:Int))=false→True∧Ob (isTrue (Value.bool false) [AObj.ro (List.map (Value.int IntKind.i64) l),AObj.rw (List.map (Value.int IntKind.i64) (resF l)) none])))∧((gtV (List.take l.length (List.drop 0 (intsOf (List.map (Value.int IntKind.i64) l))))==msF (resF l) (fstF l) x)=false→True∧Ob (isTrue (Value.bool false) [AObj.ro (List.map (Value.int IntKind.i64) l),AObj.rw (List.map (Value.int IntKind.i64) (resF l)) none])))∧((gtE (List.take l.length (List.drop 0 (intsOf (List.map (Value.int IntKind.i64) l))))==(0:Int))=false→True∧Ob (isTrue (Value.bool false) [AObj.ro (List.map (Value.int IntKind.i64) l),AObj.rw (List.map (Value.int IntKind.i64) (resF l)) none])))))))))∧(((↑(resF (intsOf (List.map (Value.int IntKind.i64) l))).length:Int) !=getI (List.map (Value.int IntKind.i64) l) 0)=true→True∧Ob (isTrue (Value.bool false) [AObj.ro (List.map (Value.int IntKind.i64) l),AObj.rw (List.map (Value.int IntKind.i64) (resF (intsOf (List.map (Value.int IntKind.i64) l)))) none])))∧(false=true→True∧Ob (isTrue (Value.bool false) [AObj.ro (List.map (Value.int IntKind.i64) l),AObj.rw (List.map (Value.int IntKind.i64) (resF (intsOf (List.map (Value.int IntKind.i64) l)))) none])))∧(false=true→True∧Ob (isTrue (Value.bool false) [AObj.ro (List.map (Value.int IntKind.i64) l),AObj.rw (List.map (Value.int IntKind.i64) (resF (intsOf (List.map (Value.int IntKind.i64) l)))) none])))
theorem rdV_eq : rdV = fun (l : List Int) (c : Nat) (w : Int) => vc Try.prog rdE 1 215 true (rdI l c (amt w) (canB l (amt w).toNat)) rdB [] (argFr 0 [.slice (some ⟨0,0,none⟩) l.length c,.int .u16 w]) [ros l] (retK Try.prog Try.f11 isTrue) := by kernel_rfl
noncomputable def rdN :=
fun (w:Int)↦Ob True∧(true=true→Ob True∧True∧Ob (isTrue (Value.bool true) []))∧(true=false→Ob ((0:Int)≤w∧w<(65536:Int))∧False)
theorem rdN_eq : rdN = fun (w : Int) => vc Try.prog rdE 0 215 true (fun _ => none) rdB [] (argFr 0 [.slice none 0 0,.int .u16 w]) [] (retK Try.prog Try.f11 isTrue) := by kernel_rfl
noncomputable def rdH :=
fun (s:Option Nat) (c:Nat) (w:Int)↦Ob True∧(true=true→Ob True∧True∧Ob (isTrue (Value.bool true) [AObj.gone]))∧(true=false→Ob ((0:Int)≤w∧w<(65536:Int))∧False)
theorem rdH_eq : rdH = fun (s : Option Nat) (c : Nat) (w : Int) => vc Try.prog rdE 1 215 true (fun _ => none) rdB [] (argFr 0 [.slice (some ⟨0,0,s⟩) 0 c,.int .u16 w]) [.gone] (retK Try.prog Try.f11 isTrue) := by kernel_rfl
theorem add_coin {l : List Int} (hc : Coins l) {k : Nat} (hk : k < l.length) {y : Nat} (hy : y + (l.getD k 0).toNat≤9999) (h : canB l y = true) : canB l (y + (l.getD k 0).toNat) = true := by
 have hr := coin_rng hc hk
 obtain ⟨p,q⟩ := ((best_is hc y (by omega)).1 h).1
 refine ((best_is hc _ hy).2 (up (bF l y) k 1) ⟨fun j hj => ?_,?_⟩).1
 · have := p j hj
   unfold up
   split <;> omega
 · rw [dot_up,q,if_pos hk]; omega
theorem sub_coin {l : List Int} (hc : Coins l) {x : Nat} (hx : 0 < x) (hx9 : x≤9999) (h : canB l x = true) : ∃ k,k < l.length∧(l.getD k 0).toNat≤x∧canB l (x - (l.getD k 0).toNat) = true := by
 obtain ⟨p,q⟩ := ((best_is hc x hx9).1 h).1
 obtain ⟨k,hk,hp⟩ := dot_pos (l := l) l.length (fun j hj => ⟨by have := coin_rng hc hj; omega,p j hj⟩) (by rw [q]; omega)
 have hr := coin_rng hc hk
 have hz : isCh l (x - l.getD k 0) (up (bF l x) k (-1)) := ⟨fun j hj => by
   have := p j hj
   unfold up
   split
   · rename_i e
     rw [e]; omega
   · omega,by rw [dot_up,q,if_pos hk]; omega⟩
 have h0 := dot_nonneg (l := l) l.length (fun j hj => ⟨by have := coin_rng hc hj; omega,hz.1 j hj⟩)
 rw [hz.2] at h0
 refine ⟨k,hk,by omega,((best_is hc _ (by omega)).2 (up (bF l x) k (-1)) ?_).1⟩
 have e : ((x - (l.getD k 0).toNat : Nat) : Int) = x - l.getD k 0 := by omega
 rw [e]; exact hz
theorem chain {l : List Int} (hc : Coins l) : ∀ n z,z≤n→z≤9999→canB l z = true→∃ ss : List Nat,(z : Int) + lastF l≤ss.length * lastF l∧(∀ s ∈ ss,s≤z∧canB l s = true)∧ss.Pairwise (fun s t => t < s∧canB l (z - s + t) = true) := by
 intro n
 induction n with
 | zero =>
   intro z hn _ h
   obtain rfl : z = 0 := by omega
   exact ⟨[0],by simp,fun s hs => by rw [List.mem_singleton] at hs; subst hs; exact ⟨Nat.le_refl _,h⟩,List.pairwise_singleton _ _⟩
 | succ n ih =>
   intro z hn h9 h
   by_cases hz : z = 0
   · subst hz
     exact ⟨[0],by simp,fun s hs => by rw [List.mem_singleton] at hs; subst hs; exact ⟨Nat.le_refl _,h⟩,List.pairwise_singleton _ _⟩
   · obtain ⟨k,hk,h1,h2⟩ := sub_coin hc (by omega) h9 h
     have hr := coin_rng hc hk
     have hl := coin_last hc hk
     obtain ⟨ss,a1,a2,a3⟩ := ih (z - (l.getD k 0).toNat) (by omega) (by omega) h2
     refine ⟨z :: ss,?_,?_,List.pairwise_cons.2 ⟨fun t ht => ⟨by have := (a2 t ht).1; omega,?_⟩,a3.imp_of_mem fun {s t} hs ht ⟨b1,b2⟩ => ⟨b1,?_⟩⟩⟩
     · rw [List.length_cons,Int.natCast_add,Int.add_mul]; omega
     · intro s hs
       rcases List.mem_cons.1 hs with rfl | hs
       · exact ⟨Nat.le_refl _,h⟩
       · have := a2 s hs
         exact ⟨by omega,this.2⟩
     · rw [Nat.sub_self,Nat.zero_add]; exact (a2 t ht).2
     · have hs2 := (a2 s hs).1
       have := add_coin hc hk (y := z - (l.getD k 0).toNat - s + t) (by omega) b2
       rw [show z - s + t = z - (l.getD k 0).toNat - s + t + (l.getD k 0).toNat by omega]
       exact this
theorem len_leN {l : List Nat} : ∀ {k : List Nat},k.Nodup→(∀ x ∈ k,x ∈ l)→k.length≤l.length
 | [],_,_ => Nat.zero_le _
 | x :: k,hn,h => by
   obtain ⟨h1,h2⟩ := List.nodup_cons.1 hn
   have hx := h x List.mem_cons_self
   have := len_leN (l := l.erase x) (k := k) h2 fun y hy => (List.mem_erase_of_ne (fun (e : y = x) => h1 (e ▸ hy))).2 (h y (List.mem_cons_of_mem _ hy))
   rw [List.length_erase_of_mem hx] at this
   have : 0 < l.length := List.length_pos_of_mem hx
   rw [List.length_cons]
   omega
theorem least_top {l : List Int} (hc : Coins l) {z : Nat} (h9 : z≤9999) (h : canB l z = true) (hm : ∀ y,y < z→y % (fstF l).toNat = z % (fstF l).toNat→canB l y = false) : z≤topF l := by
 have hf := fst_rng hc
 have hl := last_rng hc
 obtain ⟨ss,a1,a2,a3⟩ := chain hc z z (Nat.le_refl _) h9 h
 have hnd : (ss.map (· % (fstF l).toNat)).Nodup := by
   rw [List.Nodup,List.pairwise_map]
   refine a3.imp_of_mem fun {s t} hs ht ⟨b1,b2⟩ e => ?_
   have hs2 := (a2 s hs).1
   have := hm (z - s + t) (by omega) (by
     conv => rhs; rw [show z = z - s + s by omega]
     rw [Nat.add_mod,← e,← Nat.add_mod])
   rw [b2] at this; cases this
 have hlen := len_leN (l := List.range (fstF l).toNat) hnd fun x hx => by
   obtain ⟨s,_,rfl⟩ := List.mem_map.1 hx
   exact List.mem_range.2 (Nat.mod_lt _ (by omega))
 rw [List.length_map,List.length_range] at hlen
 have h1 := Int.mul_le_mul_of_nonneg_right (show (ss.length : Int)≤fstF l by omega) (show 0≤lastF l by omega)
 rw [topF]; omega
theorem pay_least {l : List Int} (hc : Coins l) : ∀ n z,z≤n→z≤9999→canB l z = true→∃ y,y≤z∧y≤topF l∧y % (fstF l).toNat = z % (fstF l).toNat∧canB l y = true := by
 intro n
 induction n with
 | zero =>
   intro z hn h9 h
   exact ⟨z,Nat.le_refl _,by omega,rfl,h⟩
 | succ n ih =>
   intro z hn h9 h
   by_cases hx : ∃ y,y < z∧y % (fstF l).toNat = z % (fstF l).toNat∧canB l y = true
   · obtain ⟨y,h1,h2,h3⟩ := hx
     obtain ⟨x,k1,k2,k3,k4⟩ := ih y (by omega) (by omega) h3
     exact ⟨x,by omega,k2,by rw [k3,h2],k4⟩
   · refine ⟨z,Nat.le_refl _,least_top hc h9 h fun y h1 h2 => ?_,rfl,h⟩
     cases hy : canB l y with
     | false => rfl
     | true => exact absurd ⟨y,h1,h2,hy⟩ hx
theorem add_firsts {l : List Int} (hc : Coins l) {y : Nat} (h : canB l y = true) : ∀ n,y + (fstF l).toNat * n≤9999→canB l (y + (fstF l).toNat * n) = true
 | 0,_ => by rw [Nat.mul_zero,Nat.add_zero]; exact h
 | n + 1,hn => by
   rw [Nat.mul_succ] at hn ⊢
   have := add_coin hc hc.pos (y := y + (fstF l).toNat * n) (by show _ + (fstF l).toNat≤9999; omega) (add_firsts hc h n (by omega))
   rw [← Nat.add_assoc]; exact this
theorem tmodN {n : Nat} {f : Int} (hf : 1≤f) : ((n : Int).tmod f).toNat = n % f.toNat := by
 obtain ⟨F,rfl⟩ : ∃ F : Nat,f = F := ⟨f.toNat,by omega⟩
 rw [Int.tmod_eq_emod_of_nonneg (by omega),← Int.natCast_emod,Int.toNat_natCast,Int.toNat_natCast]
theorem rs_at {l : List Int} (hc : Coins l) {j : Nat} (hj : j < (fstF l).toNat) : ∀ n,((rsF l n).getD j 0 = -1∧∀ a,a < n→a % (fstF l).toNat = j→canB l a = false)∨∃ a : Nat,a < n∧(rsF l n).getD j 0 = a∧a % (fstF l).toNat = j∧canB l a = true∧∀ b,b < n→b % (fstF l).toNat = j→canB l b = true→a≤b := by
 have hf := fst_rng hc
 intro n
 induction n with
 | zero => exact .inl ⟨by rw [rsF,List.getD_eq_getElem?_getD,List.getElem?_replicate,if_pos hj]; rfl,fun a h => by omega⟩
 | succ n ih =>
   have hk : ((n : Int).tmod (fstF l)).toNat = n % (fstF l).toNat := tmodN hf.1
   have hlen := rs_len (l := l) n
   rw [rsF,hk]
   by_cases hb : canB l n = true∧(rsF l n).getD (n % (fstF l).toNat) 0 = -1
   · rw [show (canB l n && (rsF l n).getD (n % (fstF l).toNat) 0 == -1) = true by rw [hb.1,hb.2]; rfl]
     show (((rsF l n).set _ _).getD j 0 = -1∧_)∨∃ a : Nat,a < n + 1∧((rsF l n).set _ _).getD j 0 = a∧_
     by_cases e : n % (fstF l).toNat = j
     · refine .inr ⟨n,by omega,by rw [e,List.getD_eq_getElem?_getD,List.getElem?_set_self (by omega)]; rfl,e,hb.1,fun b h1 h2 h3 => ?_⟩
       rcases ih with ⟨_,i2⟩ | ⟨a,_,i2,_⟩
       · by_cases hbn : b = n
         · omega
         · have := i2 b (by omega) h2
           rw [h3] at this; cases this
       · have := hb.2
         rw [e,i2] at this; omega
     · rw [List.getD_eq_getElem?_getD,List.getElem?_set_ne e,← List.getD_eq_getElem?_getD]
       rcases ih with ⟨i1,i2⟩ | ⟨a,i1,i2,i3,i4,i5⟩
       · exact .inl ⟨i1, fun a h1 h2 => i2 a (by
           by_cases ha : a = n
           · subst ha; exact absurd h2 e
           · omega) h2⟩
       · exact .inr ⟨a, by omega, i2, i3, i4, fun b h1 h2 h3 => by
           by_cases hbn : b = n
           · omega
           · exact i5 b (by omega) h2 h3⟩
   · rw [show (canB l n && (rsF l n).getD (n % (fstF l).toNat) 0 == -1) = false by
       rw [Bool.eq_false_iff]
       intro h
       rw [Bool.and_eq_true,beq_iff_eq] at h
       exact hb h]
     show ((rsF l n).getD j 0 = -1∧_)∨∃ a : Nat,a < n + 1∧(rsF l n).getD j 0 = a∧_
     rcases ih with ⟨i1,i2⟩ | ⟨a,i1,i2,i3,i4,i5⟩
     · refine .inl ⟨i1,fun a h1 h2 => ?_⟩
       by_cases ha : a = n
       · subst ha
         cases hx : canB l a with
         | false => rfl
         | true => exact absurd ⟨hx,by rw [h2]; exact i1⟩ hb
       · exact i2 a (by omega) h2
     · exact .inr ⟨a, by omega, i2, i3, i4, fun b h1 h2 h3 => by
         by_cases hbn : b = n
         · omega
         · exact i5 b (by omega) h2 h3⟩
theorem res_no {l : List Int} (hc : Coins l) {j : Nat} (hj : j < (fstF l).toNat) (h : (resF l).getD j 0 < 0) {x : Nat} (hx : x≤9999) (hr : x % (fstF l).toNat = j) : canB l x = false := by
 rcases rs_at hc hj (topF l + 1) with ⟨_,h2⟩ | ⟨a,_,h2,_⟩
 · cases hb : canB l x with
   | false => rfl
   | true =>
     obtain ⟨y,_,k2,k3,k4⟩ := pay_least hc x x (Nat.le_refl _) hx hb
     rw [h2 y (by omega) (by rw [k3,hr])] at k4; cases k4
 · have e : (resF l).getD j 0 = a := h2
   omega
theorem res_yes {l : List Int} (hc : Coins l) {j : Nat} (hj : j < (fstF l).toNat) (h : 0≤(resF l).getD j 0) : ((resF l).getD j 0).toNat % (fstF l).toNat = j∧∀ x : Nat,x≤9999→x % (fstF l).toNat = j→canB l x = decide ((resF l).getD j 0≤x) := by
 rcases rs_at hc hj (topF l + 1) with ⟨h2,_⟩ | ⟨a,a1,a2,a3,a4,a5⟩
 · have e : (resF l).getD j 0 = -1 := h2
   omega
 · have e : (resF l).getD j 0 = a := a2
   rw [e]
   refine ⟨a3,fun x hx hr => ?_⟩
   by_cases hax : a≤x
   · rw [decide_eq_true (by omega)]
     have hd := Nat.div_add_mod x (fstF l).toNat
     have hd2 := Nat.div_add_mod a (fstF l).toNat
     have hle := Nat.div_le_div_right (c := (fstF l).toNat) hax
     have e2 : x = a + (fstF l).toNat * (x / (fstF l).toNat - a / (fstF l).toNat) := by
       rw [Nat.mul_sub]
       have := Nat.mul_le_mul_left (fstF l).toNat hle
       omega
     rw [e2]
     exact add_firsts hc a4 _ (by omega)
   · rw [decide_eq_false (by omega)]
     cases hb : canB l x with
     | false => rfl
     | true =>
       obtain ⟨y,k1,k2,k3,k4⟩ := pay_least hc x x (Nat.le_refl _) hx hb
       have := a5 y (by omega) (by rw [k3,hr]) k4
       omega
theorem rdN_ok (w : Int) : rdN w := by
 unfold rdN
 simp only [SS,reduceCtorEq,Arg.list,Arg.num,Arg.flag,intOf,andP,Nat.reduceLeDiff,Nat.reduceAdd,Nat.reduceMul,Nat.reduceLT,isTrue]
theorem rdH_ok (s : Option Nat) (c : Nat) (w : Int) : rdH s c w := by
 unfold rdH
 simp only [SS,reduceCtorEq,Arg.list,Arg.num,Arg.flag,intOf,andP,Nat.reduceLeDiff,Nat.reduceAdd,Nat.reduceMul,Nat.reduceLT,isTrue]
theorem tdiv_rng {v f : Int} (hv : -1≤v) (hv2 : v≤2501) (hf : 1≤f) : -1≤v.tdiv f∧v.tdiv f≤2501 := by
 by_cases h : 0≤v
 · have := div_bd h hf
   omega
 · obtain rfl : v = -1 := by omega
   rw [Int.neg_tdiv]
   have := div_bd (r := 1) (by omega) hf
   omega
theorem sm_rng {r : List Int} {f : Int} (hf : 1≤f) (h : ∀ j,j < r.length→-1≤r.getD j 0∧r.getD j 0≤2501) : ∀ i : Nat,i≤r.length→-(i : Int)≤smF r f i∧smF r f i≤2501 * i
 | 0,_ => by simp [smF]
 | i + 1,hi => by
   have h1 := sm_rng hf h i (by omega)
   have h2 := h i (by omega)
   have h3 := tdiv_rng h2.1 h2.2 hf
   rw [smF]
   omega
theorem sm_zero {r : List Int} {f : Int} : ∀ i,(∀ j,j < i→0≤r.getD j 0∧r.getD j 0 < f)→smF r f i = 0
 | 0,_ => rfl
 | i + 1,h => by
   have h1 := h i (by omega)
   rw [smF,sm_zero i fun j hj => h j (by omega),Int.tdiv_eq_zero_of_lt h1.1 h1.2]; rfl
theorem ms_rng {r : List Int} {f : Int} (hf : 1≤f) (h : ∀ j,j < r.length→r.getD j 0≤2501) : ∀ i : Nat,i≤r.length→-1≤msF r f i∧msF r f i≤2501
 | 0,_ => by simp [msF]
 | i + 1,hi => by
   have h1 := ms_rng hf h i (by omega)
   have h2 := h i (by omega)
   rw [msF]
   split <;> omega
theorem ms_mx {r : List Int} {f : Int} : ∀ i : Nat,msF r f (i + 1) = if mxF r i - f > -1 then mxF r i - f else -1
 | 0 => rfl
 | i + 1 => by
   rw [msF,ms_mx i,mxF]
   split <;> split <;> split <;> omega
theorem mx_ge {r : List Int} : ∀ i j : Nat,j≤i→r.getD j 0≤mxF r i
 | 0,j,h => by
   obtain rfl : j = 0 := by omega
   exact Int.le_refl _
 | i + 1,j,h => by
   rw [mxF]
   by_cases e : j = i + 1
   · subst e
     split <;> omega
   · have := mx_ge (r := r) i j (by omega)
     split <;> omega
theorem mx_at {r : List Int} : ∀ i : Nat,∃ j,j≤i∧mxF r i = r.getD j 0
 | 0 => ⟨0,Nat.le_refl _,rfl⟩
 | i + 1 => by
   obtain ⟨j,h1,h2⟩ := mx_at (r := r) i
   rw [mxF]
   split
   · exact ⟨i + 1,Nat.le_refl _,rfl⟩
   · exact ⟨j,by omega,h2⟩
theorem en_at {r : List Int} : ∀ i : Nat,enF r i = true→∃ j,j < i∧r.getD j 0 < 0
 | 0,h => by cases h
 | i + 1,h => by
   rw [enF,Bool.or_eq_true,decide_eq_true_eq] at h
   rcases h with h | h
   · obtain ⟨j,h1,h2⟩ := en_at i h
     exact ⟨j,by omega,h2⟩
   · exact ⟨i,by omega,h⟩
theorem en_no {r : List Int} : ∀ i : Nat,enF r i = false→∀ j,j < i→0≤r.getD j 0
 | 0,_,j,hj => by omega
 | i + 1,h,j,hj => by
   rw [enF,Bool.or_eq_false_iff,decide_eq_false_iff_not] at h
   by_cases e : j = i
   · subst e; omega
   · exact en_no i h.1 j (by omega)
theorem mod_gap {a q F : Nat} (h : q % F = a % F) (h2 : a < q) : a + F≤q := by
 have h3 := Nat.sub_mod_eq_zero_of_mod_eq h
 by_cases e : a + F≤q
 · exact e
 · rw [Nat.mod_eq_of_lt (by omega)] at h3; omega
theorem rd_facts {l : List Int} (hc : Coins l) {a : Nat} (ha : a≤300) :
   (enF (resF l) (resF l).length = true→gtE l = 4∧mnE l = 4) ∧
   (enF (resF l) (resF l).length = false→msF (resF l) (fstF l) (resF l).length < 0→gtE l = 5∧mnE l = 0∧mnV l = 0∧canB l a = true) ∧
   (enF (resF l) (resF l).length = false→¬ msF (resF l) (fstF l) (resF l).length < 0→gtE l = 0∧gtV l = msF (resF l) (fstF l) (resF l).length∧mnE l = 0∧mnV l = smF (resF l) (fstF l) (resF l).length∧(canB l a = false→(a : Int)≤gtV l)∧(canB l a = true→(a : Int) ≠ gtV l)) := by
 have hf := fst_rng hc
 have hlen : (resF l).length = (fstF l).toNat := res_len
 have h0 : ¬ errC l ≠ 0 := fun h => h (errC_ok.2 hc)
 have hb := fun j (hj : j < (resF l).length) => res_bd hc hj
 have hms := ms_mx (r := resF l) (f := fstF l) ((resF l).length - 1)
 rw [show (resF l).length - 1 + 1 = (resF l).length by omega] at hms
 have hj : a % (fstF l).toNat < (fstF l).toNat := Nat.mod_lt _ (by omega)
 have nc : enF (resF l) (resF l).length = false→(resF l).contains (-1) = false := fun h => by
   rw [Bool.eq_false_iff]
   intro h2
   rw [List.contains_iff_mem] at h2
   obtain ⟨j,h3,h4⟩ := List.getElem_of_mem h2
   have := en_no _ h j h3
   rw [List.getD_eq_getElem?_getD,List.getElem?_eq_getElem h3,h4] at this
   simp at this
 refine ⟨fun h => ?_,fun h h2 => ?_,fun h h2 => ?_⟩
 · obtain ⟨j,h1,h2⟩ := en_at _ h
   have hx : (resF l).contains (-1) = true := by
     cases hx : (resF l).contains (-1) with
     | true => rfl
     | false =>
       have := not_cont hx h1
       have := hb j h1
       omega
   exact ⟨by rw [gtE,if_neg h0,hx]; rfl,by rw [mnE,if_neg h0,hx]; rfl⟩
 · have hx := nc h
   have hm : mxF (resF l) ((resF l).length - 1) - fstF l < 0 := by
     rw [hms] at h2
     split at h2 <;> omega
   have hs : ∀ j,j < (resF l).length→0≤(resF l).getD j 0∧(resF l).getD j 0 < fstF l := fun j hj => ⟨en_no _ h j hj,by have := mx_ge (r := resF l) ((resF l).length - 1) j (by omega); omega⟩
   have e1 : mnE l = 0 := by rw [mnE,if_neg h0,hx]; rfl
   refine ⟨by rw [gtE,if_neg h0,hx]; show (if _ then (5 : Int) else 0) = 5; rw [if_pos hm],e1,by rw [mnV,if_pos e1,sm_zero _ hs],?_⟩
   have hr := hs _ (by rw [hlen]; exact hj)
   obtain ⟨k1,k2⟩ := res_yes hc hj hr.1
   rw [k2 a (by omega) rfl,decide_eq_true_eq]
   rw [Nat.mod_eq_of_lt (by omega)] at k1
   have := Nat.mod_le a (fstF l).toNat
   omega
 · have hx := nc h
   have hm : ¬ mxF (resF l) ((resF l).length - 1) - fstF l < 0 := fun h3 => by
     rw [hms] at h2
     split at h2 <;> omega
   have hg : mxF (resF l) ((resF l).length - 1) - fstF l = msF (resF l) (fstF l) (resF l).length := by rw [hms,if_pos (by omega)]
   have e0 : gtE l = 0 := by rw [gtE,if_neg h0,hx]; show (if _ then (5 : Int) else 0) = 0; rw [if_neg hm]
   have e1 : mnE l = 0 := by rw [mnE,if_neg h0,hx]; rfl
   have e2 : gtV l = mxF (resF l) ((resF l).length - 1) - fstF l := by rw [gtV,if_pos e0]
   have hr := en_no _ h _ (by rw [hlen]; exact hj)
   obtain ⟨k1,k2⟩ := res_yes hc hj hr
   have k3 := k2 a (by omega) rfl
   refine ⟨e0,by rw [e2,hg],e1,by rw [mnV,if_pos e1],fun h3 => ?_,fun h3 h4 => ?_⟩
   · rw [k3,decide_eq_false_iff_not] at h3
     have := mod_gap (F := (fstF l).toNat) (a := a) (q := ((resF l).getD (a % (fstF l).toNat) 0).toNat) k1 (by omega)
     have := mx_ge (r := resF l) ((resF l).length - 1) (a % (fstF l).toNat) (by omega)
     rw [e2]; omega
   · obtain ⟨j,j1,j2⟩ := mx_at (r := resF l) ((resF l).length - 1)
     have jr := en_no _ h j (by omega)
     obtain ⟨q1,q2⟩ := res_yes hc (j := j) (by omega) jr
     have e3 : ((resF l).getD j 0).toNat = a + (fstF l).toNat := by rw [e2,j2] at h4; omega
     rw [e3,Nat.add_mod_right] at q1
     have := q2 a (by omega) q1
     rw [h3] at this
     have := of_decide_eq_true this.symm
     omega
theorem rdV_ok (l : List Int) (c : Nat) (w : Int) (hw : 0≤w∧w < 65536) : rdV l c w := by
 unfold rdV
 simp only [SS,reduceCtorEq,Arg.list,Arg.num,Arg.flag,intOf,andP,Nat.reduceLeDiff,Nat.reduceAdd,Nat.reduceMul,Nat.reduceLT,isTrue,nm_sl]
 intro h
 have hc := errC_ok.1 h
 have aw := amt_rng w
 have hf := fst_rng hc
 have hp := hc.pos
 have hfew := hc.few
 have hlen : (resF l).length = (fstF l).toNat := res_len
 have hb := fun j (hj : j < (resF l).length) => res_bd hc hj
 have hb' : ∀ j,j < (resF l).length→-1≤(resF l).getD j 0∧(resF l).getD j 0≤2501 := hb
 have fold : l.getD 0 0 = fstF l := rfl
 have an : ((amt w).toNat : Int) = amt w := by omega
 have tm : ((amt w).tmod (fstF l)).toNat = (amt w).toNat % (fstF l).toNat := by rw [← an]; exact tmodN hf.1
 have hj : (amt w).toNat % (fstF l).toNat < (fstF l).toNat := Nat.mod_lt _ (by omega)
 have td := div_bd (r := amt w) aw.1 hf.1
 obtain ⟨E1,E2,E3⟩ := rd_facts hc (a := (amt w).toNat) (by omega)
 have hz : (resF l).getD 0 0 = 0 := by
   have h00 : canB l 0 = true := rfl
   by_cases h1 : 0≤(resF l).getD 0 0
   · have := (res_yes hc (j := 0) (by omega) h1).2 0 (by omega) (Nat.zero_mod _)
     rw [h00] at this
     have := of_decide_eq_true this.symm
     omega
   · have := res_no hc (j := 0) (by omega) (by omega) (x := 0) (by omega) (Nat.zero_mod _)
     rw [h00] at this; cases this
 rw [fold,tm]
 refine ⟨hw,⟨all_sc_int,by rw [intsOf_map],by simp,by rw [intsOf_map]; exact hc⟩,⟨hc,aw⟩,by omega,hp,fun _ => ⟨by omega,by omega,fun h1 => h1 hz,fun _ => ⟨⟨0,by omega,rfl,rfl,rfl,rfl⟩,fun x hx => ⟨by omega,hp,fun h1 => ?_,fun h1 => ?_⟩⟩⟩,fun h1 => h1 (by omega)⟩
 · have kn : x < (resF l).length := by omega
   have kx : 0≤(x : Int)∧(x : Int) < ((resF l).length : Int) := by omega
   have hv := hb x kn
   have ms := ms_rng (f := fstF l) hf.1 (fun j hj => (hb j hj).2) x hx
   have sm := sm_rng hf.1 hb' x hx
   have t1 := tdiv_rng hv.1 (by omega) hf.1
   have w1 : IntKind.i64.wrap ((resF l).getD x 0 - fstF l) = (resF l).getD x 0 - fstF l := wrap_in (by omega) (by omega)
   have w2 : IntKind.i64.wrap (((resF l).getD x 0).tdiv (fstF l)) = ((resF l).getD x 0).tdiv (fstF l) := wrap_in (by omega) (by omega)
   have w3 : IntKind.i64.wrap (smF (resF l) (fstF l) x + ((resF l).getD x 0).tdiv (fstF l)) = smF (resF l) (fstF l) x + ((resF l).getD x 0).tdiv (fstF l) := wrap_in (by omega) (by omega)
   have ws : IntKind.i64.wrap ((x : Int) + 1) = ((x + 1 : Nat) : Int) := wrap_succ (n := 100) (by omega) (by omega)
   rw [w1,w2,w3,ws]
   have f0 : ¬ fstF l = 0 := by omega
   have k0 : (0 : Int)≤0∧(0 : Int) < (l.length : Int) := by omega
   have nx : ∀ b,b = enF (resF l) (x + 1)→∃ y,y≤(resF l).length∧(resF l).length - y < (resF l).length - x∧(if (resF l).getD x 0 - fstF l > msF (resF l) (fstF l) x then (resF l).getD x 0 - fstF l else msF (resF l) (fstF l) x) = msF (resF l) (fstF l) y∧smF (resF l) (fstF l) x + ((resF l).getD x 0).tdiv (fstF l) = smF (resF l) (fstF l) y∧b = enF (resF l) y∧((x + 1 : Nat) : Int) = (y : Int) := fun b hb2 => ⟨x + 1,by omega,by omega,rfl,rfl,hb2,rfl⟩
   have e1 : enF (resF l) x = false→decide ((resF l).getD x 0 < 0) = enF (resF l) (x + 1) := fun h => by rw [enF,h,Bool.false_or]
   have e2 : enF (resF l) x = true→true = enF (resF l) (x + 1) := fun h => by rw [enF,h,Bool.true_or]
   refine ⟨kx,kn,fun _ => ⟨kx,kn,fun _ => ⟨kx,kn,fun h3 => ⟨kx,kn,k0,hp,f0,fun h4 => h4 ?_,fun _ => ⟨kx,kn,k0,hp,kx,kn,k0,hp,f0,fun h => ⟨kx,kn,nx _ (e1 h)⟩,fun h => nx _ (e2 h)⟩⟩,fun h3 => ⟨kx,kn,k0,hp,kx,kn,k0,hp,f0,fun h => ⟨kx,kn,nx _ (e1 h)⟩,fun h => nx _ (e2 h)⟩⟩,fun h3 => by omega⟩,fun h3 => by omega⟩
   have q := (res_yes hc (j := x) (by omega) h3).1
   have q2 := tmodN (n := ((resF l).getD x 0).toNat) hf.1
   rw [q,Int.toNat_of_nonneg h3] at q2
   have q3 := div_bd h3 hf.1
   omega
 · obtain rfl : x = (resF l).length := by omega
   rw [an] at E3
   refine ⟨by omega,hp,by omega,by omega,by omega,fun h2 => ⟨fun h3 => h3 ?_,fun _ => ⟨by omega,by omega,⟨fun h => ⟨fun _ k => k (E1 h).2,fun k => k (E1 h).1⟩,fun h => ⟨fun h2 => ⟨fun _ => ⟨fun _ => ⟨fun _ k => (by rw [(E2 h h2).2.2.2] at k; cases k),fun k => k (E2 h h2).2.2.1⟩,fun k => k (E2 h h2).2.1⟩,fun k => k (E2 h h2).1⟩,fun h2 => ⟨fun _ => ⟨fun _ => ⟨fun _ => ⟨fun _ => ⟨fun h3 => ⟨fun _ _ h5 => (by rw [h3] at h5; cases h5),fun k => k ((E3 h h2).2.2.2.2.1 h3)⟩,fun h3 h4 _ => (E3 h h2).2.2.2.2.2 h3 h4⟩,fun k => k (E3 h h2).2.2.2.1⟩,fun k => k (E3 h h2).2.2.1⟩,fun k => k (E3 h h2).2.1⟩,fun k => k (E3 h h2).1⟩⟩⟩⟩⟩,fun h2 => ⟨fun h3 => h3 ?_,fun _ => ⟨by omega,by omega,⟨fun h => ⟨fun _ k => k (E1 h).2,fun k => k (E1 h).1⟩,fun h => ⟨fun h2 => ⟨fun _ => ⟨fun _ => ⟨fun _ k => (by rw [(E2 h h2).2.2.2] at k; cases k),fun k => k (E2 h h2).2.2.1⟩,fun k => k (E2 h h2).2.1⟩,fun k => k (E2 h h2).1⟩,fun h2 => ⟨fun _ => ⟨fun _ => ⟨fun _ => ⟨fun _ => ⟨fun h3 => ⟨fun _ _ h5 => (by rw [h3] at h5; cases h5),fun k => k ((E3 h h2).2.2.2.2.1 h3)⟩,fun h3 h4 _ => (E3 h h2).2.2.2.2.2 h3 h4⟩,fun k => k (E3 h h2).2.2.2.1⟩,fun k => k (E3 h h2).2.2.1⟩,fun k => k (E3 h h2).2.1⟩,fun k => k (E3 h h2).1⟩⟩⟩⟩⟩⟩
   · rw [(res_yes hc hj h2).2 _ (by omega) rfl,an]
   · exact res_no hc hj (by omega) (by omega) rfl
theorem rdT_ok : CtOk Try.prog rdT := ((((((CtOk.none.add worksG_ok).add fnG_ok).add atG_ok).add pdG_ok).add gtG_ok).add mnG_ok).add rtG_ok
theorem rdE_ok : VOk Try.prog rdE := ⟨rdT_ok,E0_ok.cc,E0_ok.yc,E0_ok.orc⟩
theorem rested_small (r : List Arg) (hr : fitsAll [.ints .i64,.int .u16] r) (caps : Nat→Nat) : Call Try.prog 11 (canonA caps 0 r) (canonH r) isTrue := match r,hr with
 | [_,_],⟨hl,⟨w,ew,hw⟩,_⟩ => by
   subst ew
   rcases hl with rfl | ⟨s,rfl⟩ | ⟨l,rfl,_,_,_⟩
   · exact Call.ofVc rdE_ok mixed (c := rdB) (inv := fun _ => none) Try.func11 (by kernel_rfl) (cast (congrFun rdN_eq w) (rdN_ok w))
   · exact Call.ofVc rdE_ok mixed (c := rdB) (inv := fun _ => none) Try.func11 (by kernel_rfl) (cast (congrFun (congrFun (congrFun rdH_eq s) (caps 0)) w) (rdH_ok s (caps 0) w))
   · exact Call.ofVc rdE_ok mixed (c := rdB) (inv := rdI l (caps 0) (amt w) (canB l (amt w).toNat)) Try.func11 (by kernel_rfl) (cast (congrFun (congrFun (congrFun rdV_eq l) (caps 0)) w) (rdV_ok l (caps 0) w (u16_wfA hw)))
theorem rested_law {K : Type} : ∀ (H : Heap) (avs : List Value) (ds : List (DataW K)),Still H→ReadsAll Try.prog H Try.f11.params.toList avs ds→Call Try.prog 11 avs H fun v _ => v = .bool true :=
 law_of (ps := [.ints .i64,.int .u16]) (by kernel_rfl) rested_small
end Go.Pier.Fl
