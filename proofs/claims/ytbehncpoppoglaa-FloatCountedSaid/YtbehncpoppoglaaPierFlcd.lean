import Derived.Test.YtbehncpoppoglaaPierKD5
import Derived.Test.YtbehncpoppoglaaPierKD6
import Derived.KernelRfl
set_option linter.unusedSimpArgs false
set_option linter.unusedVariables false
set_option maxRecDepth 100000
namespace Go.Pier.Fl
open Go Go.Pier Go.Proofs
noncomputable def cdT : Ct := ((((Ct.none.add 19 (pureG [] worksS)).add 49 (pureG [.ints .i64] fnS)).add 50 (pureG [.int .u16] atS)).add 51 (pureG [.ints .i64,.int .i64] pdS)).add 45 (pureG [.ints .i64,.int .i64] wsS)
noncomputable def cdE : VEnv := { ct := cdT }
noncomputable def cdB : Code := Try.f13.body.getD .skip
noncomputable def cdV :=
fun (l:List Int) (c:Nat) (w:Int)↦Ob ((List.take l.length (List.drop 0 (List.map (Value.int IntKind.i64) l))=List.map (Value.int IntKind.i64) (List.take l.length (List.drop 0 (intsOf (List.map (Value.int IntKind.i64) l))))∧0+l.length≤(List.map (Value.int IntKind.i64) l).length∧true=true)∧True)∧((!errC (List.take l.length (List.drop 0 (intsOf (List.map (Value.int IntKind.i64) l))))==(0:Int))=true→Ob True∧True∧Ob (isTrue (Value.bool true) [AObj.ro (List.map (Value.int IntKind.i64) l)]))∧((!errC (List.take l.length (List.drop 0 (intsOf (List.map (Value.int IntKind.i64) l))))==(0:Int))=false→Ob ((0:Int)≤w∧w<(65536:Int))∧Ob ((List.take l.length (List.drop 0 (List.map (Value.int IntKind.i64) l))=List.map (Value.int IntKind.i64) (List.take l.length (List.drop 0 (intsOf (List.map (Value.int IntKind.i64) l))))∧0+l.length≤(List.map (Value.int IntKind.i64) l).length∧true=true)∧(List.take l.length (List.drop 0 (intsOf (List.map (Value.int IntKind.i64) l)))).length≤1000000)∧Ob ((List.take l.length (List.drop 0 (List.map (Value.int IntKind.i64) l))=List.map (Value.int IntKind.i64) (List.take l.length (List.drop 0 (intsOf (List.map (Value.int IntKind.i64) l))))∧0+l.length≤(List.map (Value.int IntKind.i64) l).length∧true=true)∧Coins (List.take l.length (List.drop 0 (intsOf (List.map (Value.int IntKind.i64) l))))∧(0:Int)≤amt w∧amt w≤(300:Int))∧((errA (List.take l.length (List.drop 0 (intsOf (List.map (Value.int IntKind.i64) l)))) (amt w) !=(0:Int))=false→(false=false→(decide (wyV (List.take l.length (List.drop 0 (intsOf (List.map (Value.int IntKind.i64) l)))) (amt w)<(0:Int))=false→(decide ((10000000000:Int)<wyV (List.take l.length (List.drop 0 (intsOf (List.map (Value.int IntKind.i64) l)))) (amt w))=false→((!canB (List.take l.length (List.drop 0 (intsOf (List.map (Value.int IntKind.i64) l)))) (amt w).toNat==decide ((0:Int)<wyV (List.take l.length (List.drop 0 (intsOf (List.map (Value.int IntKind.i64) l)))) (amt w)))=true→True∧Ob (isTrue (Value.bool false) [AObj.ro (List.map (Value.int IntKind.i64) l)]))∧((!canB (List.take l.length (List.drop 0 (intsOf (List.map (Value.int IntKind.i64) l)))) (amt w).toNat==decide ((0:Int)<wyV (List.take l.length (List.drop 0 (intsOf (List.map (Value.int IntKind.i64) l)))) (amt w)))=false→Ob ((0:Int)≤IntKind.i64.wrap ((l.length:Int)-(1:Int))∧IntKind.i64.wrap ((l.length:Int)-(1:Int))<(l.length:Int)∧true=true)∧Ob (IntAt IntKind.i64 (List.map (Value.int IntKind.i64) l) (0+(IntKind.i64.wrap ((l.length:Int)-(1:Int))).toNat * 1))∧(decide (getI (List.map (Value.int IntKind.i64) l) (0+(IntKind.i64.wrap ((l.length:Int)-(1:Int))).toNat * 1)≤amt w)=true→Ob ((List.take l.length (List.drop 0 (List.map (Value.int IntKind.i64) l))=List.map (Value.int IntKind.i64) (List.take l.length (List.drop 0 (intsOf (List.map (Value.int IntKind.i64) l))))∧0+l.length≤(List.map (Value.int IntKind.i64) l).length∧true=true)∧(List.take l.length (List.drop 0 (intsOf (List.map (Value.int IntKind.i64) l)))).length≤1000000)∧((errA (List.take l.length (List.drop 0 (intsOf (List.map (Value.int IntKind.i64) l)))) (IntKind.i64.wrap (amt w-getI (List.map (Value.int IntKind.i64) l) (0+(IntKind.i64.wrap ((l.length:Int)-(1:Int))).toNat * 1))) !=(0:Int))=false→(decide (wyV (List.take l.length (List.drop 0 (intsOf (List.map (Value.int IntKind.i64) l)))) (IntKind.i64.wrap (amt w-getI (List.map (Value.int IntKind.i64) l) (0+(IntKind.i64.wrap ((l.length:Int)-(1:Int))).toNat * 1)))<(0:Int))=false→(decide ((10000000000:Int)<wyV (List.take l.length (List.drop 0 (intsOf (List.map (Value.int IntKind.i64) l)))) (IntKind.i64.wrap (amt w-getI (List.map (Value.int IntKind.i64) l) (0+(IntKind.i64.wrap ((l.length:Int)-(1:Int))).toNat * 1))))=true→True∧Ob (isTrue (Value.bool false) [AObj.ro (List.map (Value.int IntKind.i64) l)]))∧(decide ((10000000000:Int)<wyV (List.take l.length (List.drop 0 (intsOf (List.map (Value.int IntKind.i64) l)))) (IntKind.i64.wrap (amt w-getI (List.map (Value.int IntKind.i64) l) (0+(IntKind.i64.wrap ((l.length:Int)-(1:Int))).toNat * 1))))=false→(((l.length:Int)==(1:Int))=true→((amt w==(0:Int))=true→((wyV (List.take l.length (List.drop 0 (intsOf (List.map (Value.int IntKind.i64) l)))) (amt w)==IntKind.i64.wrap (IntKind.i64.wrap ((0:Int)+wyV (List.take l.length (List.drop 0 (intsOf (List.map (Value.int IntKind.i64) l)))) (IntKind.i64.wrap (amt w-getI (List.map (Value.int IntKind.i64) l) (0+(IntKind.i64.wrap ((l.length:Int)-(1:Int))).toNat * 1))))+(1:Int)))=true→Ob True∧True∧Ob (isTrue (Value.bool true) [AObj.ro (List.map (Value.int IntKind.i64) l)]))∧((wyV (List.take l.length (List.drop 0 (intsOf (List.map (Value.int IntKind.i64) l)))) (amt w)==IntKind.i64.wrap (IntKind.i64.wrap ((0:Int)+wyV (List.take l.length (List.drop 0 (intsOf (List.map (Value.int IntKind.i64) l)))) (IntKind.i64.wrap (amt w-getI (List.map (Value.int IntKind.i64) l) (0+(IntKind.i64.wrap ((l.length:Int)-(1:Int))).toNat * 1))))+(1:Int)))=false→True∧Ob (isTrue (Value.bool false) [AObj.ro (List.map (Value.int IntKind.i64) l)])))∧((amt w==(0:Int))=false→((wyV (List.take l.length (List.drop 0 (intsOf (List.map (Value.int IntKind.i64) l)))) (amt w)==IntKind.i64.wrap ((0:Int)+wyV (List.take l.length (List.drop 0 (intsOf (List.map (Value.int IntKind.i64) l)))) (IntKind.i64.wrap (amt w-getI (List.map (Value.int IntKind.i64) l) (0+(IntKind.i64.wrap ((l.length:Int)-(1:Int))).toNat * 1)))))=true→Ob True∧True∧Ob (isTrue (Value.bool true) [AObj.ro (List.map (Value.int IntKind.i64) l)]))∧((wyV (List.take l.length (List.drop 0 (intsOf (List.map (Value.int IntKind.i64) l)))) (amt w)==IntKind.i64.wrap ((0:Int)+wyV (List.take l.length (List.drop 0 (intsOf (List.map (Value.int IntKind.i64) l)))) (IntKind.i64.wrap (amt w-getI (List.map (Value.int IntKind.i64) l) (0+(IntKind.i64.wrap ((l.length:Int)-(1:Int))).toNat * 1)))))=false→True∧Ob (isTrue (Value.bool false) [AObj.ro (List.map (Value.int IntKind.i64) l)]))))∧(((l.length:Int)==(1:Int))=false→Ob (l.length≤c∧(0:Int)≤IntKind.i64.wrap ((l.length:Int)-(1:Int))∧IntKind.i64.wrap ((l.length:Int)-(1:Int))≤(c:Int))∧Ob ((List.take (IntKind.i64.wrap ((l.length:Int)-(1:Int))).toNat (List.drop 0 (List.map (Value.int IntKind.i64) l))=List.map (Value.int IntKind.i64) (List.take (IntKind.i64.wrap ((l.length:Int)-(1:Int))).toNat (List.drop 0 (intsOf (List.map (Value.int IntKind.i64) l))))∧0+(IntKind.i64.wrap ((l.length:Int)-(1:Int))).toNat≤(List.map (Value.int IntKind.i64) l).length∧true=true)∧(List.take (IntKind.i64.wrap ((l.length:Int)-(1:Int))).toNat (List.drop 0 (intsOf (List.map (Value.int IntKind.i64) l)))).length≤1000000)∧((errA (List.take (IntKind.i64.wrap ((l.length:Int)-(1:Int))).toNat (List.drop 0 (intsOf (List.map (Value.int IntKind.i64) l)))) (amt w)==(0:Int))=true→(decide ((0:Int)≤wyV (List.take (IntKind.i64.wrap ((l.length:Int)-(1:Int))).toNat (List.drop 0 (intsOf (List.map (Value.int IntKind.i64) l)))) (amt w))=true→(decide (wyV (List.take (IntKind.i64.wrap ((l.length:Int)-(1:Int))).toNat (List.drop 0 (intsOf (List.map (Value.int IntKind.i64) l)))) (amt w)≤(10000000000:Int))=true→((wyV (List.take l.length (List.drop 0 (intsOf (List.map (Value.int IntKind.i64) l)))) (amt w)==IntKind.i64.wrap (IntKind.i64.wrap ((0:Int)+wyV (List.take l.length (List.drop 0 (intsOf (List.map (Value.int IntKind.i64) l)))) (IntKind.i64.wrap (amt w-getI (List.map (Value.int IntKind.i64) l) (0+(IntKind.i64.wrap ((l.length:Int)-(1:Int))).toNat * 1))))+wyV (List.take (IntKind.i64.wrap ((l.length:Int)-(1:Int))).toNat (List.drop 0 (intsOf (List.map (Value.int IntKind.i64) l)))) (amt w)))=true→Ob True∧True∧Ob (isTrue (Value.bool true) [AObj.ro (List.map (Value.int IntKind.i64) l)]))∧((wyV (List.take l.length (List.drop 0 (intsOf (List.map (Value.int IntKind.i64) l)))) (amt w)==IntKind.i64.wrap (IntKind.i64.wrap ((0:Int)+wyV (List.take l.length (List.drop 0 (intsOf (List.map (Value.int IntKind.i64) l)))) (IntKind.i64.wrap (amt w-getI (List.map (Value.int IntKind.i64) l) (0+(IntKind.i64.wrap ((l.length:Int)-(1:Int))).toNat * 1))))+wyV (List.take (IntKind.i64.wrap ((l.length:Int)-(1:Int))).toNat (List.drop 0 (intsOf (List.map (Value.int IntKind.i64) l)))) (amt w)))=false→True∧Ob (isTrue (Value.bool false) [AObj.ro (List.map (Value.int IntKind.i64) l)])))∧(decide (wyV (List.take (IntKind.i64.wrap ((l.length:Int)-(1:Int))).toNat (List.drop 0 (intsOf (List.map (Value.int IntKind.i64) l)))) (amt w)≤(10000000000:Int))=false→True∧Ob (isTrue (Value.bool false) [AObj.ro (List.map (Value.int IntKind.i64) l)])))∧(decide ((0:Int)≤wyV (List.take (IntKind.i64.wrap ((l.length:Int)-(1:Int))).toNat (List.drop 0 (intsOf (List.map (Value.int IntKind.i64) l)))) (amt w))=false→True∧Ob (isTrue (Value.bool false) [AObj.ro (List.map (Value.int IntKind.i64) l)])))∧((errA (List.take (IntKind.i64.wrap ((l.length:Int)-(1:Int))).toNat (List.drop 0 (intsOf (List.map (Value.int IntKind.i64) l)))) (amt w)==(0:Int))=false→True∧Ob (isTrue (Value.bool false) [AObj.ro (List.map (Value.int IntKind.i64) l)])))))∧(decide (wyV (List.take l.length (List.drop 0 (intsOf (List.map (Value.int IntKind.i64) l)))) (IntKind.i64.wrap (amt w-getI (List.map (Value.int IntKind.i64) l) (0+(IntKind.i64.wrap ((l.length:Int)-(1:Int))).toNat * 1)))<(0:Int))=true→True∧Ob (isTrue (Value.bool false) [AObj.ro (List.map (Value.int IntKind.i64) l)])))∧((errA (List.take l.length (List.drop 0 (intsOf (List.map (Value.int IntKind.i64) l)))) (IntKind.i64.wrap (amt w-getI (List.map (Value.int IntKind.i64) l) (0+(IntKind.i64.wrap ((l.length:Int)-(1:Int))).toNat * 1))) !=(0:Int))=true→True∧Ob (isTrue (Value.bool false) [AObj.ro (List.map (Value.int IntKind.i64) l)])))∧(decide (getI (List.map (Value.int IntKind.i64) l) (0+(IntKind.i64.wrap ((l.length:Int)-(1:Int))).toNat * 1)≤amt w)=false→(((l.length:Int)==(1:Int))=true→((amt w==(0:Int))=true→((wyV (List.take l.length (List.drop 0 (intsOf (List.map (Value.int IntKind.i64) l)))) (amt w)==IntKind.i64.wrap ((0:Int)+(1:Int)))=true→Ob True∧True∧Ob (isTrue (Value.bool true) [AObj.ro (List.map (Value.int IntKind.i64) l)]))∧((wyV (List.take l.length (List.drop 0 (intsOf (List.map (Value.int IntKind.i64) l)))) (amt w)==IntKind.i64.wrap ((0:Int)+(1:Int)))=false→True∧Ob (isTrue (Value.bool false) [AObj.ro (List.map (Value.int IntKind.i64) l)])))∧((amt w==(0:Int))=false→((wyV (List.take l.length (List.drop 0 (intsOf (List.map (Value.int IntKind.i64) l)))) (amt w)==(0:Int))=true→Ob True∧True∧Ob (isTrue (Value.bool true) [AObj.ro (List.map (Value.int IntKind.i64) l)]))∧((wyV (List.take l.length (List.drop 0 (intsOf (List.map (Value.int IntKind.i64) l)))) (amt w)==(0:Int))=false→True∧Ob (isTrue (Value.bool false) [AObj.ro (List.map (Value.int IntKind.i64) l)]))))∧(((l.length:Int)==(1:Int))=false→Ob (l.length≤c∧(0:Int)≤IntKind.i64.wrap ((l.length:Int)-(1:Int))∧IntKind.i64.wrap ((l.length:Int)-(1:Int))≤(c:Int))∧Ob ((List.take (IntKind.i64.wrap ((l.length:Int)-(1:Int))).toNat (List.drop 0 (List.map (Value.int IntKind.i64) l))=List.map (Value.int IntKind.i64) (List.take (IntKind.i64.wrap ((l.length:Int)-(1:Int))).toNat (List.drop 0 (intsOf (List.map (Value.int IntKind.i64) l))))∧0+(IntKind.i64.wrap ((l.length:Int)-(1:Int))).toNat≤(List.map (Value.int IntKind.i64) l).length∧true=true)∧(List.take (IntKind.i64.wrap ((l.length:Int)-(1:Int))).toNat (List.drop 0 (intsOf (List.map (Value.int IntKind.i64) l)))).length≤1000000)∧((errA (List.take (IntKind.i64.wrap ((l.length:Int)-(1:Int))).toNat (List.drop 0 (intsOf (List.map (Value.int IntKind.i64) l)))) (amt w)==(0:Int))=true→(decide ((0:Int)≤wyV (List.take (IntKind.i64.wrap ((l.length:Int)-(1:Int))).toNat (List.drop 0 (intsOf (List.map (Value.int IntKind.i64) l)))) (amt w))=true→(decide (wyV (List.take (IntKind.i64.wrap ((l.length:Int)-(1:Int))).toNat (List.drop 0 (intsOf (List.map (Value.int IntKind.i64) l)))) (amt w)≤(10000000000:Int))=true→((wyV (List.take l.length (List.drop 0 (intsOf (List.map (Value.int IntKind.i64) l)))) (amt w)==IntKind.i64.wrap ((0:Int)+wyV (List.take (IntKind.i64.wrap ((l.length:Int)-(1:Int))).toNat (List.drop 0 (intsOf (List.map (Value.int IntKind.i64) l)))) (amt w)))=true→Ob True∧True∧Ob (isTrue (Value.bool true) [AObj.ro (List.map (Value.int IntKind.i64) l)]))∧((wyV (List.take l.length (List.drop 0 (intsOf (List.map (Value.int IntKind.i64) l)))) (amt w)==IntKind.i64.wrap ((0:Int)+wyV (List.take (IntKind.i64.wrap ((l.length:Int)-(1:Int))).toNat (List.drop 0 (intsOf (List.map (Value.int IntKind.i64) l)))) (amt w)))=false→True∧Ob (isTrue (Value.bool false) [AObj.ro (List.map (Value.int IntKind.i64) l)])))∧(decide (wyV (List.take (IntKind.i64.wrap ((l.length:Int)-(1:Int))).toNat (List.drop 0 (intsOf (List.map (Value.int IntKind.i64) l)))) (amt w)≤(10000000000:Int))=false→True∧Ob (isTrue (Value.bool false) [AObj.ro (List.map (Value.int IntKind.i64) l)])))∧(decide ((0:Int)≤wyV (List.take (IntKind.i64.wrap ((l.length:Int)-(1:Int))).toNat (List.drop 0 (intsOf (List.map (Value.int IntKind.i64) l)))) (amt w))=false→True∧Ob (isTrue (Value.bool false) [AObj.ro (List.map (Value.int IntKind.i64) l)])))∧((errA (List.take (IntKind.i64.wrap ((l.length:Int)-(1:Int))).toNat (List.drop 0 (intsOf (List.map (Value.int IntKind.i64) l)))) (amt w)==(0:Int))=false→True∧Ob (isTrue (Value.bool false) [AObj.ro (List.map (Value.int IntKind.i64) l)]))))))∧(decide ((10000000000:Int)<wyV (List.take l.length (List.drop 0 (intsOf (List.map (Value.int IntKind.i64) l)))) (amt w))=true→True∧Ob (isTrue (Value.bool false) [AObj.ro (List.map (Value.int IntKind.i64) l)])))∧(decide (wyV (List.take l.length (List.drop 0 (intsOf (List.map (Value.int IntKind.i64) l)))) (amt w)<(0:Int))=true→True∧Ob (isTrue (Value.bool false) [AObj.ro (List.map (Value.int IntKind.i64) l)])))∧(false=true→True∧Ob (isTrue (Value.bool false) [AObj.ro (List.map (Value.int IntKind.i64) l)])))∧((errA (List.take l.length (List.drop 0 (intsOf (List.map (Value.int IntKind.i64) l)))) (amt w) !=(0:Int))=true→True∧Ob (isTrue (Value.bool false) [AObj.ro (List.map (Value.int IntKind.i64) l)])))
theorem cdV_eq : cdV = fun (l : List Int) (c : Nat) (w : Int) => vc Try.prog cdE 1 128 true (fun _ => none) cdB [] (argFr 0 [.slice (some ⟨0,0,none⟩) l.length c,.int .u16 w]) [ros l] (retK Try.prog Try.f13 isTrue) := by kernel_rfl
noncomputable def cdN :=
fun (w:Int)↦Ob True∧(true=true→Ob True∧True∧Ob (isTrue (Value.bool true) []))∧(true=false→Ob ((0:Int)≤w∧w<(65536:Int))∧Ob True∧Ob False∧False)
theorem cdN_eq : cdN = fun (w : Int) => vc Try.prog cdE 0 128 true (fun _ => none) cdB [] (argFr 0 [.slice none 0 0,.int .u16 w]) [] (retK Try.prog Try.f13 isTrue) := by kernel_rfl
noncomputable def cdH :=
fun (s:Option Nat) (c:Nat) (w:Int)↦Ob True∧(true=true→Ob True∧True∧Ob (isTrue (Value.bool true) [AObj.gone]))∧(true=false→Ob ((0:Int)≤w∧w<(65536:Int))∧Ob True∧Ob False∧False)
theorem cdH_eq : cdH = fun (s : Option Nat) (c : Nat) (w : Int) => vc Try.prog cdE 1 128 true (fun _ => none) cdB [] (argFr 0 [.slice (some ⟨0,0,s⟩) 0 c,.int .u16 w]) [.gone] (retK Try.prog Try.f13 isTrue) := by kernel_rfl
theorem wy_take {l : List Int} {n : Nat} (hn : n≤l.length) : ∀ k x,k≤n→wyF (l.take n) k x = wyF l k x
 | 0,_,_ => rfl
 | k + 1,x,hk => by
   have e : (l.take n).getD k 0 = l.getD k 0 := by rw [List.getD_eq_getElem?_getD,List.getElem?_take,if_pos (by omega),List.getD_eq_getElem?_getD]
   have e2 : wyF (l.take n) k = wyF l k := funext fun x => wy_take hn k x (by omega)
   show wvF (wyF (l.take n) k) _ x x = wvF (wyF l k) _ x x
   rw [e,e2]
theorem coins_take {l : List Int} (hc : Coins l) {n : Nat} (h1 : 1≤n) (hn : n≤l.length) : Coins (l.take n) := by
 have hf := hc.few
 refine ⟨by rw [List.length_take]; omega,by rw [List.length_take]; omega,fun x hx => hc.rng x (List.mem_of_mem_take hx),fun j hj h0 => ?_⟩
 rw [List.length_take] at hj
 rw [List.getD_eq_getElem?_getD,List.getElem?_take,if_pos (by omega),List.getD_eq_getElem?_getD,List.getElem?_take,if_pos (by omega),← List.getD_eq_getElem?_getD,← List.getD_eq_getElem?_getD]
 exact hc.inc j (by omega) h0
theorem wyV_ok {l : List Int} (hc : Coins l) {a : Int} (ha : 0≤a∧a≤300) : errA l a = 0∧wyV l a = wyF l l.length a.toNat∧0≤wyV l a∧wyV l a≤8208541201 := by
 have h0 : errA l a = 0 := errA_0.2 ⟨errC_ok.2 hc,ha⟩
 have hb := wy_big hc (Nat.le_refl l.length) (x := a.toNat) (by omega)
 have e : wyV l a = wyF l l.length a.toNat := by rw [wyV,if_pos h0]
 rw [e]; exact ⟨h0,rfl,hb⟩
theorem cdV_ok (l : List Int) (c : Nat) (w : Int) (hcap : l.length≤c) (hw : 0≤w∧w < 65536) : cdV l c w := by
 unfold cdV
 simp only [SS,reduceCtorEq,Arg.list,Arg.num,Arg.flag,intOf,andP,Nat.reduceLeDiff,Nat.reduceAdd,Nat.reduceMul,Nat.reduceLT,isTrue]
 intro h
 have hc := errC_ok.1 h
 have aw := amt_rng w
 have hf := hc.few
 have hp := hc.pos
 obtain ⟨A,eA⟩ := Int.eq_ofNat_of_zero_le aw.1
 have hA : A≤300 := by omega
 have hn : IntKind.i64.wrap ((l.length : Int) - 1) = ((l.length - 1 : Nat) : Int) := by rw [wrap_in (by omega) (by omega)]; omega
 have hv := coin_rng hc (j := l.length - 1) (by omega)
 obtain ⟨v,ev⟩ := Int.eq_ofNat_of_zero_le (show 0≤l.getD (l.length - 1) 0 by omega)
 obtain ⟨x0,x1,x2,x3⟩ := wyV_ok hc aw
 have hcan : canB l (amt w).toNat = decide (0 < wyV l (amt w)) := by rw [x1,wy_can hc (by omega)]
 have hrec := wy_rec (l := l) (k := l.length - 1) (by omega) A
 rw [show l.length - 1 + 1 = l.length by omega,ev] at hrec
 rw [eA] at x1 x0 x2 x3 hcan ⊢
 have hw1 : IntKind.i64.wrap ((A : Int) - (v : Int)) = (A : Int) - v := wrap_in (by omega) (by omega)
 have w01 : IntKind.i64.wrap (0 + 1) = 1 := rfl
 simp only [hn,Int.toNat_natCast,ev,hw1,w01]
 have x1 : wyV l (A : Int) = wyF l l.length A := x1
 have hZ : ¬ (l.length : Int) = 1→errA (l.take (l.length - 1)) (A : Int) = 0∧wyV (l.take (l.length - 1)) (A : Int) = wyF l (l.length - 1) A∧0≤wyV (l.take (l.length - 1)) (A : Int)∧wyV (l.take (l.length - 1)) (A : Int)≤8208541201∧IntKind.i64.wrap (0 + wyV (l.take (l.length - 1)) (A : Int)) = wyV (l.take (l.length - 1)) (A : Int) := fun h1 => by
   obtain ⟨z0,z1,z2,z3⟩ := wyV_ok (coins_take hc (n := l.length - 1) (by omega) (by omega)) (a := (A : Int)) (by omega)
   refine ⟨z0,?_,z2,z3,by rw [wrap_in (by omega) (by omega),Int.zero_add]⟩
   rw [z1,List.length_take,Nat.min_eq_left (by omega)]
   exact wy_take (by omega) _ _ (Nat.le_refl _)
 have h1 : (l.length : Int) = 1→wyF l (l.length - 1) A = if A = 0 then 1 else 0 := fun h1 => by rw [show l.length - 1 = 0 by omega]; rfl
 refine ⟨hw,by omega,⟨hc,by omega,by omega⟩,fun _ => ⟨fun _ => ⟨fun _ => ⟨fun h => h hcan,fun _ => ⟨⟨by omega,by omega⟩,by omega,fun hv => ?_,fun hv => ?_⟩⟩,fun h => by omega⟩,fun h => by omega⟩,fun h => h x0⟩
 · have hvA : v≤A := by omega
   obtain ⟨y0,y1,y2,y3⟩ := wyV_ok hc (a := (A : Int) - v) (by omega)
   have y1 : wyV l ((A : Int) - v) = wyF l l.length (A - v) := by rw [y1]; congr 1; omega
   have hvt : ((v : Int)).toNat = v := rfl
   rw [hvt,if_pos hvA,← x1,← y1] at hrec
   have wY : IntKind.i64.wrap (0 + wyV l ((A : Int) - v)) = wyV l ((A : Int) - v) := by rw [wrap_in (by omega) (by omega),Int.zero_add]
   simp only [wY]
   refine ⟨by omega,fun _ => ⟨fun _ => ⟨fun h => by omega,fun _ => ⟨fun g => ?_,fun g => ?_⟩⟩,fun h => by omega⟩,fun h => h y0⟩
   · have := h1 g
     constructor
     · intro g2 g3
       refine g3 ?_
       rw [wrap_in (by omega) (by omega)]
       rw [if_pos (by omega)] at this
       omega
     · intro g2 g3
       rw [if_neg (by omega)] at this
       exact g3 (by omega)
   · obtain ⟨z0,z1,z2,z3,z4⟩ := hZ g
     refine ⟨⟨hcap,by omega,by omega⟩,⟨⟨by rw [List.map_take],by omega⟩,by rw [List.length_take]; omega⟩,fun _ => ⟨fun _ => ⟨fun _ g3 => g3 ?_,fun g3 => by omega⟩,fun g3 => by omega⟩,fun g3 => g3 z0⟩
     rw [wrap_in (by omega) (by omega)]; omega
 · have hvA : ¬ v≤A := by omega
   have hvt : ((v : Int)).toNat = v := rfl
   rw [hvt,if_neg hvA,← x1] at hrec
   refine ⟨fun g => ?_,fun g => ?_⟩
   · have := h1 g
     constructor
     · intro g2 g3
       rw [if_pos (by omega)] at this
       exact g3 (by omega)
     · intro g2 g3
       rw [if_neg (by omega)] at this
       exact g3 (by omega)
   · obtain ⟨z0,z1,z2,z3,z4⟩ := hZ g
     simp only [z4]
     exact ⟨⟨hcap,by omega,by omega⟩,⟨⟨by rw [List.map_take],by omega⟩,by rw [List.length_take]; omega⟩,fun _ => ⟨fun _ => ⟨fun _ g3 => g3 (by omega),fun g3 => by omega⟩,fun g3 => by omega⟩,fun g3 => g3 z0⟩
theorem cdN_ok (w : Int) : cdN w := by
 unfold cdN
 simp only [SS,reduceCtorEq,Arg.list,Arg.num,Arg.flag,intOf,andP,Nat.reduceLeDiff,Nat.reduceAdd,Nat.reduceMul,Nat.reduceLT,isTrue]
theorem cdH_ok (s : Option Nat) (c : Nat) (w : Int) : cdH s c w := by
 unfold cdH
 simp only [SS,reduceCtorEq,Arg.list,Arg.num,Arg.flag,intOf,andP,Nat.reduceLeDiff,Nat.reduceAdd,Nat.reduceMul,Nat.reduceLT,isTrue]
theorem cdT_ok : CtOk Try.prog cdT := ((((CtOk.none.add worksG_ok).add fnG_ok).add atG_ok).add pdG_ok).add wsG_ok
theorem cdE_ok : VOk Try.prog cdE := ⟨cdT_ok,E0_ok.cc,E0_ok.yc,E0_ok.orc⟩
theorem counted_small (r : List Arg) (hr : fitsAll [.ints .i64,.int .u16] r) (caps : Nat→Nat) (hcap : capsOk caps 0 (r.map Arg.two)) : Call Try.prog 13 (canonA caps 0 r) (canonH r) isTrue := match r,hr,hcap with
 | [_,_],⟨hl,⟨w,ew,hw⟩,_⟩,hcap => by
   subst ew
   rcases hl with rfl | ⟨s,rfl⟩ | ⟨l,rfl,_,_,_⟩
   · exact Call.ofVc cdE_ok mixed (c := cdB) (inv := fun _ => none) Try.func13 (by kernel_rfl) (cast (congrFun cdN_eq w) (cdN_ok w))
   · exact Call.ofVc cdE_ok mixed (c := cdB) (inv := fun _ => none) Try.func13 (by kernel_rfl) (cast (congrFun (congrFun (congrFun cdH_eq s) (caps 0)) w) (cdH_ok s (caps 0) w))
   · exact Call.ofVc cdE_ok mixed (c := cdB) (inv := fun _ => none) Try.func13 (by kernel_rfl) (cast (congrFun (congrFun (congrFun cdV_eq l) (caps 0)) w) (cdV_ok l (caps 0) w hcap.1 (u16_wfA hw)))
theorem counted_law {K : Type} : ∀ (H : Heap) (avs : List Value) (ds : List (DataW K)),Still H→ReadsAll Try.prog H Try.f13.params.toList avs ds→Call Try.prog 13 avs H fun v _ => v = .bool true :=
 law_ofC (ps := [.ints .i64,.int .u16]) (by kernel_rfl) counted_small
end Go.Pier.Fl
