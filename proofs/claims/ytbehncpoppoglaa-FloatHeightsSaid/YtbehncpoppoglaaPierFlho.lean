import Derived.Test.YtbehncpoppoglaaPierKH6
import Derived.Test.YtbehncpoppoglaaPierKH7
import Derived.KernelRfl
set_option linter.unusedSimpArgs false
set_option linter.unusedVariables false
set_option maxRecDepth 100000
namespace Go.Pier.Fl
open Go Go.Pier Go.Proofs
noncomputable def hgCt (l : List Int) (c : Nat) : List Value→Heap→Option (Option Prop × Value × Heap × List Nat) := fun args H => match args with
 | [.pointer (some ⟨1,0,none⟩),.int .i64 a] => some (some (AtZ l c H∧Coins l∧0≤a∧a≤300),.slice (some ⟨H.length,0,none⟩) (a.toNat + 1) (a.toNat + 1),H ++ [.rw ((hL l a.toNat).map (.int .i64)) none],[])
 | _ => none
noncomputable def hoE (l : List Int) (c : Nat) : VEnv := { ct := Ct.none.add 76 (hgCt l c),cc := ccIn Try.prog (tiE l c) [⟨66,Try.f66,fun _ _ _ => none⟩] }
noncomputable def hoB : Code := Try.f31.body.getD .skip
noncomputable def hoV0 (l:List Int) (a:Int):Array Value := ⟨[Value.slice none 0 0,vi (errA l a)]⟩
noncomputable def hoV1 (a:Int) := (!wiF (Arg.plain (vi (0:Int))).num (Arg.plain (vi (300:Int))).num [intOf (vi a)])
noncomputable def hoV2 (l:List Int) (a:Int):Prop := (errA l a≠(0:Int)→Value.tuple ⟨[Value.slice none 0 0,vi (3:Int)]⟩=Value.tuple (hoV0 l a))
noncomputable def hoV3 (l:List Int) (a:Int):Prop := (errA l a≠(0:Int)→Value.tuple ⟨[Value.slice none 0 0,vi (0:Int)]⟩=Value.tuple (hoV0 l a))
noncomputable def hoV4 (a:Int):Prop := (([vi a]=[vi (intOf (vi a))]∧0+1≤1∧true=true)∧1≤1000000)
noncomputable def hoV5 (l:List Int) (a:Int):Prop := (errA l a≠(0:Int)→Value.tuple ⟨[Value.slice none 0 0,vi (errC l)]⟩=Value.tuple (hoV0 l a))
noncomputable def hoV6  := (Value.int IntKind.i64)
noncomputable def hoV :=
fun (l:List Int) (c:Nat) (a:Int)↦Ob (some (AObj.ro (List.map hoV6 l))=some (AObj.ro (List.map hoV6 l))∧l.length=l.length∧c=c∧l.length≤1000000)∧(Ob (errC l≠(0:Int))→((errC l==(0:Int))=true→Ob (hoV4 a)∧((hoV1 a)=true→(true=true→True∧Ob (hoV2 l a))∧(true=false→False))∧((hoV1 a)=false→((errC l !=(0:Int))=true→True∧Ob (hoV5 l a))∧((errC l !=(0:Int))=false→False)))∧((errC l==(0:Int))=false→((errC l !=(0:Int))=true→True∧Ob (hoV5 l a))∧((errC l !=(0:Int))=false→False)))∧(Ob (errC l=(0:Int))→∀ (zl:List Int),Ob (isZ zl)→(true=true→Ob (hoV4 a)∧((hoV1 a)=true→(true=true→True∧Ob (hoV2 l a))∧(true=false→False))∧((hoV1 a)=false→(false=true→True∧Ob (hoV3 l a))∧(false=false→Ob (AtZ l c [AObj.ro (List.map hoV6 l),AObj.rw (Value.slice (some (ad0 0)) l.length c::List.map hoV6 zl) none,AObj.rw [vi a] none]∧Coins l∧(0:Int)≤a∧a≤(300:Int))∧True∧Ob (errA l a≠(0:Int)→Value.tuple ⟨[Value.slice (some (ad0 3)) (a.toNat+1) (a.toNat+1),vi (0:Int)]⟩=Value.tuple (hoV0 l a)))))∧(true=false→(false=true→True∧Ob (hoV3 l a))∧(false=false→Ob (AtZ l c [AObj.ro (List.map hoV6 l),AObj.rw (Value.slice (some (ad0 0)) l.length c::List.map hoV6 zl) none]∧Coins l∧(0:Int)≤a∧a≤(300:Int))∧True∧Ob (errA l a≠(0:Int)→Value.tuple ⟨[Value.slice (some (ad0 2)) (a.toNat+1) (a.toNat+1),vi (0:Int)]⟩=Value.tuple (hoV0 l a)))))
theorem hoV_eq : hoV = fun (l : List Int) (c : Nat) (a : Int) => vc Try.prog (hoE l c) 1 20 true (fun _ => none) hoB [] (argFr 0 [.slice (some ⟨0,0,none⟩) l.length c,vi a]) [ros l] (retK Try.prog Try.f31 (fun v H => errA l a ≠ 0→v = .tuple #[.slice none 0 0,vi (errA l a)])) := by kernel_rfl
noncomputable def hoO0 (l:List Int):Prop := (AObj.ro (List.map (Value.int IntKind.i64) l)=AObj.ro (List.map (nmap1 (nsub 1 3)) (List.map (Value.int IntKind.i64) l))∧AObj.sc 2 (AObj.ro (List.map (Value.int IntKind.i64) l))=true)
noncomputable def hoO1 (a:Int):Array Value := ⟨[Value.slice (some (ad0 3)) (a.toNat+1) (a.toNat+1),vi (0:Int)]⟩
noncomputable def hoO2 (a:Int) := (!wiF (Arg.plain (vi (0:Int))).num (Arg.plain (vi (300:Int))).num [intOf (vi a)])
noncomputable def hoO3  := (Value.int IntKind.i64)
noncomputable def hoO4 (a:Int):Prop := (([vi a]=[vi (intOf (vi a))]∧0+1≤1∧true=true)∧1≤1000000)
noncomputable def hoO5 (a:Int):Prop := (Value.tuple ⟨[Value.slice none 0 0,vi (3:Int)]⟩=Value.tuple (hoO1 a))
noncomputable def hoO6 (a:Int):Prop := (Value.tuple ⟨[Value.slice none 0 0,vi (0:Int)]⟩=Value.tuple (hoO1 a))
noncomputable def hoO7 (l:List Int) (a:Int):Prop := (Value.tuple ⟨[Value.slice none 0 0,vi (errC l)]⟩=Value.tuple (hoO1 a))
noncomputable def hoO :=
fun (l:List Int) (c:Nat) (a:Int)↦Ob (some (AObj.ro (List.map hoO3 l))=some (AObj.ro (List.map hoO3 l))∧l.length=l.length∧c=c∧l.length≤1000000)∧(Ob (errC l≠(0:Int))→((errC l==(0:Int))=true→Ob (hoO4 a)∧((hoO2 a)=true→(true=true→(Ob (hoO0 l)∧False)∧Ob (hoO5 a)∧True)∧(true=false→False))∧((hoO2 a)=false→((errC l !=(0:Int))=true→(Ob (hoO0 l)∧False)∧Ob (hoO7 l a)∧True)∧((errC l !=(0:Int))=false→False)))∧((errC l==(0:Int))=false→((errC l !=(0:Int))=true→(Ob (hoO0 l)∧False)∧Ob (hoO7 l a)∧True)∧((errC l !=(0:Int))=false→False)))∧(Ob (errC l=(0:Int))→∀ (zl:List Int),Ob (isZ zl)→(true=true→Ob (hoO4 a)∧((hoO2 a)=true→(true=true→(Ob (hoO0 l)∧False)∧Ob (hoO5 a)∧True)∧(true=false→False))∧((hoO2 a)=false→(false=true→(Ob (hoO0 l)∧False)∧Ob (hoO6 a)∧True)∧(false=false→Ob (AtZ l c [AObj.ro (List.map hoO3 l),AObj.rw (Value.slice (some (ad0 0)) l.length c::List.map hoO3 zl) none,AObj.rw [vi a] none]∧Coins l∧(0:Int)≤a∧a≤(300:Int))∧(Ob (hoO0 l)∧Ob (AObj.rw (List.map hoO3 (hL l a.toNat)) none=AObj.rw (List.map (nmap1 (nsub 1 3)) (List.map hoO3 (hL l a.toNat))) none∧AObj.sc 2 (AObj.rw (List.map hoO3 (hL l a.toNat)) none)=true)∧True)∧Ob (Value.tuple (hoO1 a)=Value.tuple (hoO1 a))∧True)))∧(true=false→(false=true→(Ob (hoO0 l)∧False)∧Ob (hoO6 a)∧True)∧(false=false→Ob (AtZ l c [AObj.ro (List.map hoO3 l),AObj.rw (Value.slice (some (ad0 0)) l.length c::List.map hoO3 zl) none]∧Coins l∧(0:Int)≤a∧a≤(300:Int))∧(Ob (hoO0 l)∧False)∧Ob (Value.tuple ⟨[Value.slice (some (ad0 2)) (a.toNat+1) (a.toNat+1),vi (0:Int)]⟩=Value.tuple (hoO1 a))∧True)))
noncomputable def hoN0  : Array Value := { toList := [Value.slice none (0 : Nat) (0 : Nat),vi (6 : Int)] }
noncomputable def hoN1 (a:Int) := (!wiF (Arg.plain (vi (0:Int))).num (Arg.plain (vi (300:Int))).num [intOf (vi a)])
noncomputable def hoN :=
fun (a:Int)↦Ob True∧(false=true→Ob (([vi a]=[vi (intOf (vi a))]∧1≤1∧true=true)∧1≤1000000)∧((hoN1 a)=true→(true=true→True∧Ob (Value.tuple ⟨[Value.slice none 0 0,vi (3:Int)]⟩=Value.tuple hoN0))∧(true=false→False))∧((hoN1 a)=false→(true=true→True∧Ob (Value.tuple hoN0=Value.tuple hoN0))∧(true=false→False)))∧(false=false→(true=true→True∧Ob (Value.tuple hoN0=Value.tuple hoN0))∧(true=false→False))
theorem hoN_eq : hoN = fun (a : Int) => vc Try.prog fnE 0 20 true (fun _ => none) hoB [] (argFr 0 [.slice none 0 0,vi a]) [] (retK Try.prog Try.f31 (fun v H => v = .tuple #[.slice none 0 0,vi 6])) := by kernel_rfl
noncomputable def hoH0  : Array Value := { toList := [Value.slice none (0 : Nat) (0 : Nat),vi (6 : Int)] }
noncomputable def hoH1 (a:Int) := (!wiF (Arg.plain (vi (0:Int))).num (Arg.plain (vi (300:Int))).num [intOf (vi a)])
noncomputable def hoH :=
fun (s:Option Nat) (c:Nat) (a:Int)↦Ob True∧(false=true→Ob (([vi a]=[vi (intOf (vi a))]∧1≤1∧true=true)∧1≤1000000)∧((hoH1 a)=true→(true=true→True∧Ob (Value.tuple ⟨[Value.slice none 0 0,vi (3:Int)]⟩=Value.tuple hoH0))∧(true=false→False))∧((hoH1 a)=false→(true=true→True∧Ob (Value.tuple hoH0=Value.tuple hoH0))∧(true=false→False)))∧(false=false→(true=true→True∧Ob (Value.tuple hoH0=Value.tuple hoH0))∧(true=false→False))
theorem hoH_eq : hoH = fun (s : Option Nat) (c : Nat) (a : Int) => vc Try.prog fnE 1 20 true (fun _ => none) hoB [] (argFr 0 [.slice (some ⟨0,0,s⟩) 0 c,vi a]) [.gone] (retK Try.prog Try.f31 (fun v H => v = .tuple #[.slice none 0 0,vi 6])) := by kernel_rfl
structure HP (l : List Int) (am i : Nat) (R : List Int) : Prop where
 len : R.length = am + 1
 val : ∀ j,j≤am→R.getD j 0 = if j < i then hvF l j else fvA l j
noncomputable def h2E : VEnv := { ct := (Ct.none.add 69 (pureG [.ints .i64,.int .i64] raS)).add 70 (newG [.ints .i64,.int .i64] foS) }
noncomputable def h2ZE (l : List Int) (c : Nat) : VEnv := { ct := (Ct.none.add 69 (pureG [.ints .i64,.int .i64] raS)).add 70 (fzCt l c) }
noncomputable def h2B : Code := Try.f32.body.getD .skip
def h2I (l : List Int) (am : Nat) : Nat→Option LInv := invOf 0 (LInv.one (Nat × List Int) (fun q => q.1≤am + 1∧HP l am q.1 q.2) (fun q => [(6,newSlice 1 (am + 1)),(7,vi q.1)]) (fun q => [ros l,rws q.2]) (fun q => am + 1 - q.1))
def h2J (l : List Int) : Nat→Option LInv := invOf 0 (LInv.one Nat (fun i => i≤1) (fun i => [(6,.slice (some ⟨1,0,none⟩) 1 1),(7,vi i)]) (fun _ => [ros l,.rw [vi 0] none]) (fun i => 1 - i))
noncomputable def h2V0 (l:List Int) := (List.take l.length (List.drop 0 (intsOf (List.map (Value.int IntKind.i64) l))))
noncomputable def h2V1 (l:List Int):Prop := (List.take l.length (List.drop 0 (List.map (Value.int IntKind.i64) l))=List.map (Value.int IntKind.i64) (h2V0 l)∧0+l.length≤(List.map (Value.int IntKind.i64) l).length∧true=true)
noncomputable def h2V :=
fun (l:List Int) (c:Nat) (a:Int)↦Ob ((h2V1 l)∧(h2V0 l).length≤1000000)∧((errA (h2V0 l) a !=(0:Int))=true→Ob ((h2V1 l)∧(h2V0 l).length≤1000000)∧True∧Ob (Value.tuple ⟨[Value.slice none 0 0,vi (errA (h2V0 l) a)]⟩=Value.tuple ⟨[Value.slice none 0 0,vi (errA l a)]⟩))∧((errA (h2V0 l) a !=(0:Int))=false→Ob ((h2V1 l)∧Coins (h2V0 l)∧(1:Int)≤a∧a≤(300:Int))∧False)
theorem h2V_eq : h2V = fun (l : List Int) (c : Nat) (a : Int) => vc Try.prog h2E 1 33 true (fun _ => none) h2B [] (argFr 0 [.slice (some ⟨0,0,none⟩) l.length c,vi a]) [ros l] (retK Try.prog Try.f32 (fun v H => v = .tuple #[.slice none 0 0,vi (errA l a)])) := by kernel_rfl
noncomputable def h2O0 (l:List Int) := (List.map (Value.int IntKind.i64) l)
noncomputable def h2O1 (l:List Int) := (List.take l.length (List.drop 0 (intsOf (h2O0 l))))
noncomputable def h2O2 (l:List Int):Prop := (List.take l.length (List.drop 0 (h2O0 l))=List.map (Value.int IntKind.i64) (h2O1 l)∧0+l.length≤(h2O0 l).length∧true=true)
noncomputable def h2O3 (am:Nat):Array Value := ⟨[Value.slice (some ⟨1,0,some 0⟩) (am+1) 0,vi (0:Int)]⟩
noncomputable def h2O4  := (Value.int IntKind.i64)
noncomputable def h2O5 (am:Nat):Prop := (Value.slice (some ⟨1,0,some 0⟩) (am+1) 0=Value.slice (some ⟨1,0,some 0⟩) (am+1) 0)
noncomputable def h2O6  (x:Nat × List Int) := (0+(x.fst:Int).toNat * 1)
noncomputable def h2O7  (x:Nat × List Int) := (List.map h2O4 x.snd)
noncomputable def h2O8  (y:Nat × List Int) := (AObj.rw (List.map h2O4 y.snd) (some 1))
noncomputable def h2O :=
fun (l:List Int) (c am:Nat)↦Ob ((h2O2 l)∧(h2O1 l).length≤1000000)∧((errA (h2O1 l) (am:Int) !=(0:Int))=true→Ob ((h2O2 l)∧(h2O1 l).length≤1000000)∧(Ob (AObj.ro (h2O0 l)=AObj.ro (List.map (nmap1 fun (b:Nat)↦b) (h2O0 l))∧AObj.sc 2 (AObj.ro (h2O0 l))=true)∧False)∧Ob (Value.tuple ⟨[Value.slice none 0 0,vi (errA (h2O1 l) (am:Int))]⟩=Value.tuple (h2O3 am))∧True)∧((errA (h2O1 l) (am:Int) !=(0:Int))=false→Ob ((h2O2 l)∧Coins (h2O1 l)∧(1:Int)≤(am:Int)∧(am:Int)≤(300:Int))∧(∃ (y:Nat × List Int),Ob (y.fst≤am+1∧HP l am y.fst y.snd)∧(Ob (AObj.ro (h2O0 l)=AObj.ro (List.map (nmap1 fun (b:Nat)↦b) (h2O0 l))∧AObj.sc 2 (AObj.ro (h2O0 l))=true)∧Ob (AObj.rw (List.map h2O4 (fR (h2O1 l) (am:Int).toNat)) (some 1)=AObj.rw (List.map (nmap1 fun (b:Nat)↦b) (List.map h2O4 y.snd)) (some 1)∧AObj.sc 2 (h2O8 y)=true)∧True)∧Ob (Value.slice (some ⟨1,0,some 0⟩) (fR (h2O1 l) (am:Int).toNat).length 0=Value.slice (some ⟨1,0,some 0⟩) (am+1) 0)∧Ob ((0:Int)=(y.fst:Int))∧True)∧∀ (x:Nat × List Int),Ob (x.fst≤am+1∧HP l am x.fst x.snd)→(decide ((x.fst:Int)<(↑(am+1):Int))=true→Ob ((0:Int)≤(x.fst:Int)∧(x.fst:Int)<(↑(am+1):Int)∧true=true)∧Ob (IntAt IntKind.i64 (h2O7 x) (h2O6 x))∧(decide (getI (h2O7 x) (h2O6 x)<(0:Int))=true→Ob ((0:Int)≤(x.fst:Int)∧(x.fst:Int)<(↑(am+1):Int)∧true=true)∧Ob (0+(x.fst:Int).toNat * 1+1≤(h2O7 x).length)∧∃ (y:Nat × List Int),Ob (y.fst≤am+1∧HP l am y.fst y.snd)∧Ob (am+1-y.fst<am+1-x.fst)∧(Ob (AObj.ro (h2O0 l)=AObj.ro (List.map (nmap1 fun (b:Nat)↦b) (h2O0 l))∧AObj.sc 2 (AObj.ro (h2O0 l))=true)∧Ob (AObj.rw (putL (h2O7 x) (h2O6 x) [vi (1000:Int)]) (some 1)=AObj.rw (List.map (nmap1 fun (b:Nat)↦b) (List.map h2O4 y.snd)) (some 1)∧AObj.sc 2 (h2O8 y)=true)∧True)∧Ob (h2O5 am)∧Ob (IntKind.i64.wrap ((x.fst:Int)+(1:Int))=(y.fst:Int))∧True)∧(decide (getI (h2O7 x) (h2O6 x)<(0:Int))=false→∃ (y:Nat × List Int),Ob (y.fst≤am+1∧HP l am y.fst y.snd)∧Ob (am+1-y.fst<am+1-x.fst)∧(Ob (AObj.ro (h2O0 l)=AObj.ro (List.map (nmap1 fun (b:Nat)↦b) (h2O0 l))∧AObj.sc 2 (AObj.ro (h2O0 l))=true)∧Ob (AObj.rw (h2O7 x) (some 1)=AObj.rw (List.map (nmap1 fun (b:Nat)↦b) (List.map h2O4 y.snd)) (some 1)∧AObj.sc 2 (h2O8 y)=true)∧True)∧Ob (h2O5 am)∧Ob (IntKind.i64.wrap ((x.fst:Int)+(1:Int))=(y.fst:Int))∧True))∧(decide ((x.fst:Int)<(↑(am+1):Int))=false→(Ob (AObj.ro (h2O0 l)=AObj.ro (List.map (nmap1 fun (b:Nat)↦b) (h2O0 l))∧AObj.sc 2 (AObj.ro (h2O0 l))=true)∧Ob (AObj.rw (h2O7 x) (some 1)=AObj.rw (List.map (nmap1 fun (b:Nat)↦b) (List.map h2O4 (hL l am))) (some 1)∧AObj.sc 2 (AObj.rw (List.map h2O4 (hL l am)) (some 1))=true)∧True)∧Ob (Value.tuple (h2O3 am)=Value.tuple (h2O3 am))∧True))
noncomputable def h2Z0 (l:List Int) := (List.map (Value.int IntKind.i64) l)
noncomputable def h2Z1 (l:List Int) := (List.take l.length (List.drop 0 (intsOf (h2Z0 l))))
noncomputable def h2Z2  : Prop := (Value.slice (some (ad0 1)) (1 : Nat) (1 : Nat) = Value.slice (some (ad0 1)) (1 : Nat) (1 : Nat))
noncomputable def h2Z3 (l:List Int):Prop := ((List.take l.length (List.drop 0 (h2Z0 l))=List.map (Value.int IntKind.i64) (h2Z1 l)∧0+l.length≤(h2Z0 l).length∧true=true)∧(h2Z1 l).length≤1000000)
noncomputable def h2Z4  : Array Value := { toList := [Value.slice (some (ad0 1)) (1 : Nat) (1 : Nat),vi (0 : Int)] }
noncomputable def h2Z5  : Prop := (AObj.rw [vi (0 : Int)] none = AObj.rw [vi (0 : Int)] none∧true = true)
noncomputable def h2Z6  (x:Nat) := (0+(x:Int).toNat * 1)
noncomputable def h2Z :=
fun (l:List Int) (c:Nat)↦Ob (h2Z3 l)∧((errA (h2Z1 l) (0:Int) !=(0:Int))=true→Ob (h2Z3 l)∧(Ob (AObj.ro (h2Z0 l)=AObj.ro (List.map (nmap1 fun (b:Nat)↦b) (h2Z0 l))∧AObj.sc 2 (AObj.ro (h2Z0 l))=true)∧False)∧Ob (Value.tuple ⟨[Value.slice none 0 0,vi (errA (h2Z1 l) (0:Int))]⟩=Value.tuple h2Z4)∧True)∧((errA (h2Z1 l) (0:Int) !=(0:Int))=false→Ob ([AObj.ro (h2Z0 l)]=[AObj.ro (h2Z0 l)]∧l.length=l.length∧c=c∧(0:Int)=(0:Int))∧(∃ (y:Nat),Ob (y≤1)∧(Ob (AObj.ro (h2Z0 l)=AObj.ro (List.map (nmap1 fun (b:Nat)↦b) (h2Z0 l))∧AObj.sc 2 (AObj.ro (h2Z0 l))=true)∧Ob h2Z5∧True)∧Ob h2Z2∧Ob ((0:Int)=(y:Int))∧True)∧∀ (x:Nat),Ob (x≤1)→(decide ((x:Int)<(↑(1:Nat):Int))=true→Ob ((0:Int)≤(x:Int)∧(x:Int)<(↑(1:Nat):Int)∧true=true)∧Ob (IntAt IntKind.i64 [vi (0:Int)] (h2Z6 x))∧(decide (getI [vi (0:Int)] (h2Z6 x)<(0:Int))=true→Ob ((0:Int)≤(x:Int)∧(x:Int)<(↑(1:Nat):Int)∧true=true)∧Ob (0+(x:Int).toNat * 1+1≤1)∧∃ (y:Nat),Ob (y≤1)∧Ob (1-y<1-x)∧(Ob (AObj.ro (h2Z0 l)=AObj.ro (List.map (nmap1 fun (b:Nat)↦b) (h2Z0 l))∧AObj.sc 2 (AObj.ro (h2Z0 l))=true)∧Ob (AObj.rw (putL [vi (0:Int)] (h2Z6 x) [vi (1000:Int)]) none=AObj.rw [vi (0:Int)] none∧true=true)∧True)∧Ob h2Z2∧Ob (IntKind.i64.wrap ((x:Int)+(1:Int))=(y:Int))∧True)∧(decide (getI [vi (0:Int)] (h2Z6 x)<(0:Int))=false→∃ (y:Nat),Ob (y≤1)∧Ob (1-y<1-x)∧(Ob (AObj.ro (h2Z0 l)=AObj.ro (List.map (nmap1 fun (b:Nat)↦b) (h2Z0 l))∧AObj.sc 2 (AObj.ro (h2Z0 l))=true)∧Ob h2Z5∧True)∧Ob h2Z2∧Ob (IntKind.i64.wrap ((x:Int)+(1:Int))=(y:Int))∧True))∧(decide ((x:Int)<(↑(1:Nat):Int))=false→(Ob (AObj.ro (h2Z0 l)=AObj.ro (List.map (nmap1 fun (b:Nat)↦b) (h2Z0 l))∧AObj.sc 2 (AObj.ro (h2Z0 l))=true)∧Ob h2Z5∧True)∧Ob (Value.tuple h2Z4=Value.tuple h2Z4)∧True))
noncomputable def h2N0  : Array Value := { toList := [Value.slice none (0 : Nat) (0 : Nat),vi (6 : Int)] }
noncomputable def h2N :=
fun (a:Int)↦Ob True∧(true=true→Ob True∧True∧Ob (Value.tuple h2N0=Value.tuple h2N0))∧(true=false→False)
theorem h2N_eq : h2N = fun (a : Int) => vc Try.prog h2E 0 33 true (fun _ => none) h2B [] (argFr 0 [.slice none 0 0,vi a]) [] (retK Try.prog Try.f32 (fun v H => v = .tuple #[.slice none 0 0,vi 6])) := by kernel_rfl
noncomputable def h2H0  : Array Value := { toList := [Value.slice none (0 : Nat) (0 : Nat),vi (6 : Int)] }
noncomputable def h2H :=
fun (s:Option Nat) (c:Nat) (a:Int)↦Ob True∧(true=true→Ob True∧True∧Ob (Value.tuple h2H0=Value.tuple h2H0))∧(true=false→False)
theorem h2H_eq : h2H = fun (s : Option Nat) (c : Nat) (a : Int) => vc Try.prog h2E 1 33 true (fun _ => none) h2B [] (argFr 0 [.slice (some ⟨0,0,s⟩) 0 c,vi a]) [.gone] (retK Try.prog Try.f32 (fun v H => v = .tuple #[.slice none 0 0,vi 6])) := by kernel_rfl
def qaS (r : List Arg) : Prop × Value := match r with
 | [.ints _ l,.plain (.int .i64 a)] => (l.length≤1000000∧errA l a ≠ 0,.tuple #[.slice none 0 0,vi (errA l a)])
 | [_,.plain (.int .i64 _)] => (True,.tuple #[.slice none 0 0,vi 6])
 | _ => (False,undef)
def hoS : List Arg3→Option Born
 | [.one (.view cs n r),.one (.plain (.int .i64 a))] => some ⟨okW a (.view cs n r),fun b => .tuple #[.slice (some ⟨b,0,none⟩) (a.toNat + 1) (a.toNat + 1),vi 0],[.rw ((hL (intsOf cs) a.toNat).map (.int .i64)) none]⟩
 | _ => none
def h2S (r : List Arg) : Option (Prop × Back) := match r with
 | [.ints _ l,.plain (.int .i64 a)] => some (Coins l∧1≤a∧a≤300,.both (hL l a.toNat) [vi 0])
 | _ => none
def hzS : List Arg3→Option Born
 | [.one (.view cs n r),.one (.plain (.int .i64 a))] => some ⟨okW a (.view cs n r)∧a = 0,fun b => .tuple #[.slice (some ⟨b,0,none⟩) 1 1,vi 0],[.rw (([0] : List Int).map (.int .i64)) none]⟩
 | _ => none
noncomputable def fhT : Ct := (((Ct.none.add 19 (pureG [] worksS)).add 30 (pureG [.ints .i64,.ints .i64] lsS)).add 33 (pureG [.ints .i64,.ints .i64] hrS)).add 34 (pureG [.ints .i64,.ints .i64] hrS)
noncomputable def feE : VEnv := { ct := (fhT.add 31 (pureG [.ints .i64,.int .i64] qaS)).add 32 (pureG [.ints .i64,.int .i64] qaS),cc := ccIn Try.prog {} [⟨18,Try.f18,fun _ _ _ => none⟩] }
noncomputable def faE : VEnv := { ct := (fhT.add 31 (born3 [.one (.rows [.i .i64] false),.one (.int .i64)] hoS)).add 32 (newG [.ints .i64,.int .i64] h2S),cc := ccIn Try.prog {} [⟨18,Try.f18,fun _ _ _ => none⟩] }
noncomputable def fzE : VEnv := { ct := (fhT.add 31 (born3 [.one (.rows [.i .i64] false),.one (.int .i64)] hoS)).add 32 (born3 [.one (.rows [.i .i64] false),.one (.int .i64)] hzS),cc := ccIn Try.prog {} [⟨18,Try.f18,fun _ _ _ => none⟩] }
noncomputable def fhB : Code := Try.f5.body.getD .skip
noncomputable def fhK : KD := retK Try.prog Try.f5 isTrue
noncomputable def feNN :=
fun (a:Int)↦(false=false→(false=true→Ob True∧True∧Ob (isTrue (Value.bool true) []))∧(false=false→Ob True∧Ob True∧Ob True∧Ob True∧(true=true→Ob True∧(true=true→(true=true→Ob True∧True∧Ob (isTrue (Value.bool true) []))∧(true=false→True∧Ob (isTrue (Value.bool false) [])))∧(true=false→True∧Ob (isTrue (Value.bool false) [])))∧(true=false→True∧Ob (isTrue (Value.bool false) []))))∧(false=true→Ob True∧True∧Ob (isTrue (Value.bool true) []))
theorem feNN_eq : feNN = fun (a : Int) => vc Try.prog feE 0 51 true (fun _ => none) fhB [] (argFr 0 [.slice none 0 0,vi a,.slice none 0 0]) [] fhK := by kernel_rfl
noncomputable def feNH0  := (isTrue (Value.bool false) [AObj.gone])
noncomputable def feNH1  := (isTrue (Value.bool true) [AObj.gone])
noncomputable def feNH :=
fun (a : Int) (u : Option Nat) (d : Nat)↦(false = false→(false = true→Ob True∧True∧Ob feNH1)∧(false = false→Ob True∧Ob True∧Ob True∧Ob True∧(true = true→Ob True∧(true = true→(true = true→Ob True∧True∧Ob feNH1)∧(true = false→True∧Ob feNH0))∧(true = false→True∧Ob feNH0))∧(true = false→True∧Ob feNH0)))∧(false = true→Ob True∧True∧Ob feNH1)
theorem feNH_eq : feNH = fun (a : Int) (u : Option Nat) (d : Nat) => vc Try.prog feE 1 51 true (fun _ => none) fhB [] (argFr 0 [.slice none 0 0,vi a,.slice (some ⟨0,0,u⟩) 0 d]) [.gone] fhK := by kernel_rfl
noncomputable def feNV0 (m:List Int) := (List.map (Value.int IntKind.i64) m)
noncomputable def feNV1 (m:List Int):Prop := ((List.take m.length (List.drop 0 (feNV0 m))=List.map (Value.int IntKind.i64) (List.take m.length (List.drop 0 (intsOf (feNV0 m))))∧0+m.length≤(feNV0 m).length∧true=true)∧True)
noncomputable def feNV2 (m:List Int) := (isTrue (Value.bool false) [AObj.ro (feNV0 m)])
noncomputable def feNV3 (m:List Int) := (isTrue (Value.bool true) [AObj.ro (feNV0 m)])
noncomputable def feNV :=
fun (a:Int) (m:List Int) (d:Nat)↦(false=false→(decide ((320:Int)<(m.length:Int))=true→Ob True∧True∧Ob (feNV3 m))∧(decide ((320:Int)<(m.length:Int))=false→Ob True∧Ob True∧Ob (feNV1 m)∧Ob (feNV1 m)∧(true=true→Ob True∧(true=true→(true=true→Ob True∧True∧Ob (feNV3 m))∧(true=false→True∧Ob (feNV2 m)))∧(true=false→True∧Ob (feNV2 m)))∧(true=false→True∧Ob (feNV2 m))))∧(false=true→Ob True∧True∧Ob (feNV3 m))
theorem feNV_eq : feNV = fun (a : Int) (m : List Int) (d : Nat) => vc Try.prog feE 1 51 true (fun _ => none) fhB [] (argFr 0 [.slice none 0 0,vi a,.slice (some ⟨0,0,none⟩) m.length d]) [ros m] fhK := by kernel_rfl
noncomputable def feHN0  := (isTrue (Value.bool false) [AObj.gone])
noncomputable def feHN1  := (isTrue (Value.bool true) [AObj.gone])
noncomputable def feHN :=
fun (s : Option Nat) (c : Nat) (a : Int)↦(false = false→(false = true→Ob True∧True∧Ob feHN1)∧(false = false→Ob True∧Ob True∧Ob True∧Ob True∧(true = true→Ob True∧(true = true→(true = true→Ob True∧True∧Ob feHN1)∧(true = false→True∧Ob feHN0))∧(true = false→True∧Ob feHN0))∧(true = false→True∧Ob feHN0)))∧(false = true→Ob True∧True∧Ob feHN1)
theorem feHN_eq : feHN = fun (s : Option Nat) (c : Nat) (a : Int) => vc Try.prog feE 1 51 true (fun _ => none) fhB [] (argFr 0 [.slice (some ⟨0,0,s⟩) 0 c,vi a,.slice none 0 0]) [.gone] fhK := by kernel_rfl
noncomputable def feHH0  := (isTrue (Value.bool false) [AObj.gone,AObj.gone])
noncomputable def feHH1  := (isTrue (Value.bool true) [AObj.gone,AObj.gone])
noncomputable def feHH :=
fun (s : Option Nat) (c : Nat) (a : Int) (u : Option Nat) (d : Nat)↦(false = false→(false = true→Ob True∧True∧Ob feHH1)∧(false = false→Ob True∧Ob True∧Ob True∧Ob True∧(true = true→Ob True∧(true = true→(true = true→Ob True∧True∧Ob feHH1)∧(true = false→True∧Ob feHH0))∧(true = false→True∧Ob feHH0))∧(true = false→True∧Ob feHH0)))∧(false = true→Ob True∧True∧Ob feHH1)
theorem feHH_eq : feHH = fun (s : Option Nat) (c : Nat) (a : Int) (u : Option Nat) (d : Nat) => vc Try.prog feE 2 51 true (fun _ => none) fhB [] (argFr 0 [.slice (some ⟨0,0,s⟩) 0 c,vi a,.slice (some ⟨1,0,u⟩) 0 d]) [.gone,.gone] fhK := by kernel_rfl
noncomputable def feHV0 (m:List Int) := (List.map (Value.int IntKind.i64) m)
noncomputable def feHV1 (m:List Int):Prop := ((List.take m.length (List.drop 0 (feHV0 m))=List.map (Value.int IntKind.i64) (List.take m.length (List.drop 0 (intsOf (feHV0 m))))∧0+m.length≤(feHV0 m).length∧true=true)∧True)
noncomputable def feHV2 (m:List Int):List AObj := [AObj.gone,AObj.ro (feHV0 m)]
noncomputable def feHV :=
fun (s:Option Nat) (c:Nat) (a:Int) (m:List Int) (d:Nat)↦(false=false→(decide ((320:Int)<(m.length:Int))=true→Ob True∧True∧Ob (isTrue (Value.bool true) (feHV2 m)))∧(decide ((320:Int)<(m.length:Int))=false→Ob True∧Ob True∧Ob (feHV1 m)∧Ob (feHV1 m)∧(true=true→Ob True∧(true=true→(true=true→Ob True∧True∧Ob (isTrue (Value.bool true) (feHV2 m)))∧(true=false→True∧Ob (isTrue (Value.bool false) (feHV2 m))))∧(true=false→True∧Ob (isTrue (Value.bool false) (feHV2 m))))∧(true=false→True∧Ob (isTrue (Value.bool false) (feHV2 m)))))∧(false=true→Ob True∧True∧Ob (isTrue (Value.bool true) (feHV2 m)))
theorem feHV_eq : feHV = fun (s : Option Nat) (c : Nat) (a : Int) (m : List Int) (d : Nat) => vc Try.prog feE 2 51 true (fun _ => none) fhB [] (argFr 0 [.slice (some ⟨0,0,s⟩) 0 c,vi a,.slice (some ⟨1,0,none⟩) m.length d]) [.gone,ros m] fhK := by kernel_rfl
noncomputable def feVN0 (l:List Int) := (List.take l.length (List.drop 0 (intsOf (List.map (Value.int IntKind.i64) l))))
noncomputable def feVN1 (l:List Int):Prop := (List.take l.length (List.drop 0 (List.map (Value.int IntKind.i64) l))=List.map (Value.int IntKind.i64) (feVN0 l)∧0+l.length≤(List.map (Value.int IntKind.i64) l).length∧true=true)
noncomputable def feVN2 (l:List Int):List AObj := [AObj.ro (List.map (Value.int IntKind.i64) l)]
noncomputable def feVN :=
fun (l:List Int) (c:Nat) (a:Int)↦(decide ((10:Int)<(l.length:Int))=false→(false=true→Ob True∧True∧Ob (isTrue (Value.bool true) (feVN2 l)))∧(false=false→Ob ((feVN1 l)∧(feVN0 l).length≤1000000∧errA (feVN0 l) a≠(0:Int))∧Ob ((feVN1 l)∧(feVN0 l).length≤1000000∧errA (feVN0 l) a≠(0:Int))∧Ob ((feVN1 l)∧(feVN0 l).length≤1000000)∧Ob ((feVN1 l)∧(feVN0 l).length≤1000000)∧((heE (feVN0 l) []==heE (feVN0 l) [])=true→Ob True∧(true=true→((errA (feVN0 l) a==errA (feVN0 l) a)=true→Ob True∧True∧Ob (isTrue (Value.bool true) (feVN2 l)))∧((errA (feVN0 l) a==errA (feVN0 l) a)=false→True∧Ob (isTrue (Value.bool false) (feVN2 l))))∧(true=false→True∧Ob (isTrue (Value.bool false) (feVN2 l))))∧((heE (feVN0 l) []==heE (feVN0 l) [])=false→True∧Ob (isTrue (Value.bool false) (feVN2 l)))))∧(decide ((10:Int)<(l.length:Int))=true→Ob True∧True∧Ob (isTrue (Value.bool true) (feVN2 l)))
theorem feVN_eq : feVN = fun (l : List Int) (c : Nat) (a : Int) => vc Try.prog feE 1 51 true (fun _ => none) fhB [] (argFr 0 [.slice (some ⟨0,0,none⟩) l.length c,vi a,.slice none 0 0]) [ros l] fhK := by kernel_rfl
noncomputable def faVN0 (l:List Int) := (List.take l.length (List.drop 0 (intsOf (List.map (Value.int IntKind.i64) l))))
noncomputable def faVN1 (l:List Int) (a:Int) := (List.map (Value.int IntKind.i64) (hL (intsOf (List.map (Value.int IntKind.i64) l)) a.toNat))
noncomputable def faVN2 (l:List Int) (a:Int):List AObj := [AObj.ro (List.map (Value.int IntKind.i64) l),AObj.rw (faVN1 l a) none,AObj.rw (List.map (Value.int IntKind.i64) (hL (faVN0 l) a.toNat)) (some 1)]
noncomputable def faVN3 (l:List Int):Prop := (List.take l.length (List.drop 0 (List.map (Value.int IntKind.i64) l))=List.map (Value.int IntKind.i64) (faVN0 l)∧0+l.length≤(List.map (Value.int IntKind.i64) l).length∧true=true)
noncomputable def faVN4 (l:List Int) (a:Int):Bool := (List.take (a.toNat+1) (List.drop 0 (intsOf (faVN1 l a)))==List.take (hL (faVN0 l) a.toNat).length (List.drop 0 (intsOf (List.map (Value.int IntKind.i64) (hL (faVN0 l) a.toNat)))))
noncomputable def faVN5  := (Value.int IntKind.i64)
noncomputable def faVN :=
fun (l:List Int) (c:Nat) (a:Int)↦(decide ((10:Int)<(l.length:Int))=false→(false=true→Ob True∧True∧Ob (isTrue (Value.bool true) [AObj.ro (List.map faVN5 l)]))∧(false=false→Ob ((true=true∧Flat (List.map faVN5 l))∧okW a (Leaf.view (List.map faVN5 l) l.length false))∧Ob ((faVN3 l)∧Coins (faVN0 l)∧(1:Int)≤a∧a≤(300:Int))∧Ob ((faVN3 l)∧(faVN0 l).length≤1000000)∧Ob ((faVN3 l)∧(faVN0 l).length≤1000000)∧((heE (faVN0 l) []==heE (faVN0 l) [])=true→Ob (((List.take (a.toNat+1) (List.drop 0 (faVN1 l a))=List.map faVN5 (List.take (a.toNat+1) (List.drop 0 (intsOf (faVN1 l a))))∧0+(a.toNat+1)≤(faVN1 l a).length∧true=true)∧List.take (hL (faVN0 l) a.toNat).length (List.drop 0 (List.map faVN5 (hL (faVN0 l) a.toNat)))=List.map faVN5 (List.take (hL (faVN0 l) a.toNat).length (List.drop 0 (intsOf (List.map faVN5 (hL (faVN0 l) a.toNat)))))∧0+(hL (faVN0 l) a.toNat).length≤(List.map faVN5 (hL (faVN0 l) a.toNat)).length∧true=true)∧(List.take (a.toNat+1) (List.drop 0 (intsOf (faVN1 l a)))).length≤1000)∧((faVN4 l a)=true→(true=true→Ob True∧True∧Ob (isTrue (Value.bool true) (faVN2 l a)))∧(true=false→True∧Ob (isTrue (Value.bool false) (faVN2 l a))))∧((faVN4 l a)=false→True∧Ob (isTrue (Value.bool false) (faVN2 l a))))∧((heE (faVN0 l) []==heE (faVN0 l) [])=false→True∧Ob (isTrue (Value.bool false) (faVN2 l a)))))∧(decide ((10:Int)<(l.length:Int))=true→Ob True∧True∧Ob (isTrue (Value.bool true) [AObj.ro (List.map faVN5 l)]))
theorem faVN_eq : faVN = fun (l : List Int) (c : Nat) (a : Int) => vc Try.prog faE 1 51 true (fun _ => none) fhB [] (argFr 0 [.slice (some ⟨0,0,none⟩) l.length c,vi a,.slice none 0 0]) [ros l] fhK := by kernel_rfl
noncomputable def fzVN0 (l:List Int) := (List.map (Value.int IntKind.i64) l)
noncomputable def fzVN1 (l:List Int) (a:Int) := (List.map (Value.int IntKind.i64) (hL (intsOf (fzVN0 l)) a.toNat))
noncomputable def fzVN2 (l:List Int) := (List.take l.length (List.drop 0 (intsOf (fzVN0 l))))
noncomputable def fzVN3 (l:List Int):Prop := ((List.take l.length (List.drop 0 (fzVN0 l))=List.map (Value.int IntKind.i64) (fzVN2 l)∧0+l.length≤(fzVN0 l).length∧true=true)∧(fzVN2 l).length≤1000000)
noncomputable def fzVN4 (l:List Int) (a:Int):List AObj := [AObj.ro (fzVN0 l),AObj.rw (fzVN1 l a) none,AObj.rw [vi (0:Int)] none]
noncomputable def fzVN5 (l:List Int) (a:Int) := (List.drop 0 (intsOf (fzVN1 l a)))
noncomputable def fzVN :=
fun (l:List Int) (c:Nat) (a:Int)↦(decide ((10:Int)<(l.length:Int))=false→(false=true→Ob True∧True∧Ob (isTrue (Value.bool true) [AObj.ro (fzVN0 l)]))∧(false=false→Ob ((true=true∧Flat (fzVN0 l))∧okW a (Leaf.view (fzVN0 l) l.length false))∧Ob ((true=true∧Flat (fzVN0 l))∧okW a (Leaf.view (fzVN0 l) l.length false)∧a=(0:Int))∧Ob (fzVN3 l)∧Ob (fzVN3 l)∧((heE (fzVN2 l) []==heE (fzVN2 l) [])=true→Ob (((List.take (a.toNat+1) (List.drop 0 (fzVN1 l a))=List.map (Value.int IntKind.i64) (List.take (a.toNat+1) (fzVN5 l a))∧0+(a.toNat+1)≤(fzVN1 l a).length∧true=true)∧[vi (0:Int)]=[vi (intOf (vi (0:Int)))]∧0+1≤1∧true=true)∧(List.take (a.toNat+1) (fzVN5 l a)).length≤1000)∧((List.take (a.toNat+1) (fzVN5 l a)==[intOf (vi (0:Int))])=true→(true=true→Ob True∧True∧Ob (isTrue (Value.bool true) (fzVN4 l a)))∧(true=false→True∧Ob (isTrue (Value.bool false) (fzVN4 l a))))∧((List.take (a.toNat+1) (fzVN5 l a)==[intOf (vi (0:Int))])=false→True∧Ob (isTrue (Value.bool false) (fzVN4 l a))))∧((heE (fzVN2 l) []==heE (fzVN2 l) [])=false→True∧Ob (isTrue (Value.bool false) (fzVN4 l a)))))∧(decide ((10:Int)<(l.length:Int))=true→Ob True∧True∧Ob (isTrue (Value.bool true) [AObj.ro (fzVN0 l)]))
theorem fzVN_eq : fzVN = fun (l : List Int) (c : Nat) (a : Int) => vc Try.prog fzE 1 51 true (fun _ => none) fhB [] (argFr 0 [.slice (some ⟨0,0,none⟩) l.length c,vi a,.slice none 0 0]) [ros l] fhK := by kernel_rfl
noncomputable def feVH0 (l:List Int) := (List.take l.length (List.drop 0 (intsOf (List.map (Value.int IntKind.i64) l))))
noncomputable def feVH1 (l:List Int):Prop := (List.take l.length (List.drop 0 (List.map (Value.int IntKind.i64) l))=List.map (Value.int IntKind.i64) (feVH0 l)∧0+l.length≤(List.map (Value.int IntKind.i64) l).length∧true=true)
noncomputable def feVH2 (l:List Int):List AObj := [AObj.ro (List.map (Value.int IntKind.i64) l),AObj.gone]
noncomputable def feVH :=
fun (l:List Int) (c:Nat) (a:Int) (u:Option Nat) (d:Nat)↦(decide ((10:Int)<(l.length:Int))=false→(false=true→Ob True∧True∧Ob (isTrue (Value.bool true) (feVH2 l)))∧(false=false→Ob ((feVH1 l)∧(feVH0 l).length≤1000000∧errA (feVH0 l) a≠(0:Int))∧Ob ((feVH1 l)∧(feVH0 l).length≤1000000∧errA (feVH0 l) a≠(0:Int))∧Ob ((feVH1 l)∧(feVH0 l).length≤1000000)∧Ob ((feVH1 l)∧(feVH0 l).length≤1000000)∧((heE (feVH0 l) []==heE (feVH0 l) [])=true→Ob True∧(true=true→((errA (feVH0 l) a==errA (feVH0 l) a)=true→Ob True∧True∧Ob (isTrue (Value.bool true) (feVH2 l)))∧((errA (feVH0 l) a==errA (feVH0 l) a)=false→True∧Ob (isTrue (Value.bool false) (feVH2 l))))∧(true=false→True∧Ob (isTrue (Value.bool false) (feVH2 l))))∧((heE (feVH0 l) []==heE (feVH0 l) [])=false→True∧Ob (isTrue (Value.bool false) (feVH2 l)))))∧(decide ((10:Int)<(l.length:Int))=true→Ob True∧True∧Ob (isTrue (Value.bool true) (feVH2 l)))
theorem feVH_eq : feVH = fun (l : List Int) (c : Nat) (a : Int) (u : Option Nat) (d : Nat) => vc Try.prog feE 2 51 true (fun _ => none) fhB [] (argFr 0 [.slice (some ⟨0,0,none⟩) l.length c,vi a,.slice (some ⟨1,0,u⟩) 0 d]) [ros l,.gone] fhK := by kernel_rfl
noncomputable def faVH0 (l:List Int) := (List.take l.length (List.drop 0 (intsOf (List.map (Value.int IntKind.i64) l))))
noncomputable def faVH1 (l:List Int) (a:Int) := (List.map (Value.int IntKind.i64) (hL (intsOf (List.map (Value.int IntKind.i64) l)) a.toNat))
noncomputable def faVH2 (l:List Int) (a:Int):List AObj := [AObj.ro (List.map (Value.int IntKind.i64) l),AObj.gone,AObj.rw (faVH1 l a) none,AObj.rw (List.map (Value.int IntKind.i64) (hL (faVH0 l) a.toNat)) (some 1)]
noncomputable def faVH3 (l:List Int):Prop := (List.take l.length (List.drop 0 (List.map (Value.int IntKind.i64) l))=List.map (Value.int IntKind.i64) (faVH0 l)∧0+l.length≤(List.map (Value.int IntKind.i64) l).length∧true=true)
noncomputable def faVH4 (l:List Int) (a:Int):Bool := (List.take (a.toNat+1) (List.drop 0 (intsOf (faVH1 l a)))==List.take (hL (faVH0 l) a.toNat).length (List.drop 0 (intsOf (List.map (Value.int IntKind.i64) (hL (faVH0 l) a.toNat)))))
noncomputable def faVH5  := (Value.int IntKind.i64)
noncomputable def faVH :=
fun (l:List Int) (c:Nat) (a:Int) (u:Option Nat) (d:Nat)↦(decide ((10:Int)<(l.length:Int))=false→(false=true→Ob True∧True∧Ob (isTrue (Value.bool true) [AObj.ro (List.map faVH5 l),AObj.gone]))∧(false=false→Ob ((true=true∧Flat (List.map faVH5 l))∧okW a (Leaf.view (List.map faVH5 l) l.length false))∧Ob ((faVH3 l)∧Coins (faVH0 l)∧(1:Int)≤a∧a≤(300:Int))∧Ob ((faVH3 l)∧(faVH0 l).length≤1000000)∧Ob ((faVH3 l)∧(faVH0 l).length≤1000000)∧((heE (faVH0 l) []==heE (faVH0 l) [])=true→Ob (((List.take (a.toNat+1) (List.drop 0 (faVH1 l a))=List.map faVH5 (List.take (a.toNat+1) (List.drop 0 (intsOf (faVH1 l a))))∧0+(a.toNat+1)≤(faVH1 l a).length∧true=true)∧List.take (hL (faVH0 l) a.toNat).length (List.drop 0 (List.map faVH5 (hL (faVH0 l) a.toNat)))=List.map faVH5 (List.take (hL (faVH0 l) a.toNat).length (List.drop 0 (intsOf (List.map faVH5 (hL (faVH0 l) a.toNat)))))∧0+(hL (faVH0 l) a.toNat).length≤(List.map faVH5 (hL (faVH0 l) a.toNat)).length∧true=true)∧(List.take (a.toNat+1) (List.drop 0 (intsOf (faVH1 l a)))).length≤1000)∧((faVH4 l a)=true→(true=true→Ob True∧True∧Ob (isTrue (Value.bool true) (faVH2 l a)))∧(true=false→True∧Ob (isTrue (Value.bool false) (faVH2 l a))))∧((faVH4 l a)=false→True∧Ob (isTrue (Value.bool false) (faVH2 l a))))∧((heE (faVH0 l) []==heE (faVH0 l) [])=false→True∧Ob (isTrue (Value.bool false) (faVH2 l a)))))∧(decide ((10:Int)<(l.length:Int))=true→Ob True∧True∧Ob (isTrue (Value.bool true) [AObj.ro (List.map faVH5 l),AObj.gone]))
theorem faVH_eq : faVH = fun (l : List Int) (c : Nat) (a : Int) (u : Option Nat) (d : Nat) => vc Try.prog faE 2 51 true (fun _ => none) fhB [] (argFr 0 [.slice (some ⟨0,0,none⟩) l.length c,vi a,.slice (some ⟨1,0,u⟩) 0 d]) [ros l,.gone] fhK := by kernel_rfl
noncomputable def fzVH0 (l:List Int) := (List.map (Value.int IntKind.i64) l)
noncomputable def fzVH1 (l:List Int) (a:Int) := (List.map (Value.int IntKind.i64) (hL (intsOf (fzVH0 l)) a.toNat))
noncomputable def fzVH2 (l:List Int) := (List.take l.length (List.drop 0 (intsOf (fzVH0 l))))
noncomputable def fzVH3 (l:List Int) (a:Int):List AObj := [AObj.ro (fzVH0 l),AObj.gone,AObj.rw (fzVH1 l a) none,AObj.rw [vi (0:Int)] none]
noncomputable def fzVH4 (l:List Int):Prop := ((List.take l.length (List.drop 0 (fzVH0 l))=List.map (Value.int IntKind.i64) (fzVH2 l)∧0+l.length≤(fzVH0 l).length∧true=true)∧(fzVH2 l).length≤1000000)
noncomputable def fzVH5 (l:List Int) (a:Int) := (List.drop 0 (intsOf (fzVH1 l a)))
noncomputable def fzVH :=
fun (l:List Int) (c:Nat) (a:Int) (u:Option Nat) (d:Nat)↦(decide ((10:Int)<(l.length:Int))=false→(false=true→Ob True∧True∧Ob (isTrue (Value.bool true) [AObj.ro (fzVH0 l),AObj.gone]))∧(false=false→Ob ((true=true∧Flat (fzVH0 l))∧okW a (Leaf.view (fzVH0 l) l.length false))∧Ob ((true=true∧Flat (fzVH0 l))∧okW a (Leaf.view (fzVH0 l) l.length false)∧a=(0:Int))∧Ob (fzVH4 l)∧Ob (fzVH4 l)∧((heE (fzVH2 l) []==heE (fzVH2 l) [])=true→Ob (((List.take (a.toNat+1) (List.drop 0 (fzVH1 l a))=List.map (Value.int IntKind.i64) (List.take (a.toNat+1) (fzVH5 l a))∧0+(a.toNat+1)≤(fzVH1 l a).length∧true=true)∧[vi (0:Int)]=[vi (intOf (vi (0:Int)))]∧0+1≤1∧true=true)∧(List.take (a.toNat+1) (fzVH5 l a)).length≤1000)∧((List.take (a.toNat+1) (fzVH5 l a)==[intOf (vi (0:Int))])=true→(true=true→Ob True∧True∧Ob (isTrue (Value.bool true) (fzVH3 l a)))∧(true=false→True∧Ob (isTrue (Value.bool false) (fzVH3 l a))))∧((List.take (a.toNat+1) (fzVH5 l a)==[intOf (vi (0:Int))])=false→True∧Ob (isTrue (Value.bool false) (fzVH3 l a))))∧((heE (fzVH2 l) []==heE (fzVH2 l) [])=false→True∧Ob (isTrue (Value.bool false) (fzVH3 l a)))))∧(decide ((10:Int)<(l.length:Int))=true→Ob True∧True∧Ob (isTrue (Value.bool true) [AObj.ro (fzVH0 l),AObj.gone]))
theorem fzVH_eq : fzVH = fun (l : List Int) (c : Nat) (a : Int) (u : Option Nat) (d : Nat) => vc Try.prog fzE 2 51 true (fun _ => none) fhB [] (argFr 0 [.slice (some ⟨0,0,none⟩) l.length c,vi a,.slice (some ⟨1,0,u⟩) 0 d]) [ros l,.gone] fhK := by kernel_rfl
noncomputable def feVV0 (l:List Int) := (List.take l.length (List.drop 0 (intsOf (List.map (Value.int IntKind.i64) l))))
noncomputable def feVV1 (l:List Int):Prop := (List.take l.length (List.drop 0 (List.map (Value.int IntKind.i64) l))=List.map (Value.int IntKind.i64) (feVV0 l)∧0+l.length≤(List.map (Value.int IntKind.i64) l).length∧true=true)
noncomputable def feVV2 (m:List Int) := (List.map (Value.int IntKind.i64) m)
noncomputable def feVV3 (m:List Int) := (List.take m.length (List.drop 0 (intsOf (feVV2 m))))
noncomputable def feVV4 (l:List Int) (m:List Int):List AObj := [AObj.ro (List.map (Value.int IntKind.i64) l),AObj.ro (feVV2 m)]
noncomputable def feVV5 (l:List Int) (m:List Int):Prop := (((feVV1 l)∧List.take m.length (List.drop 0 (feVV2 m))=List.map (Value.int IntKind.i64) (feVV3 m)∧0+m.length≤(feVV2 m).length∧true=true)∧(feVV0 l).length≤1000000)
noncomputable def feVV :=
fun (l:List Int) (c:Nat) (a:Int) (m:List Int) (d:Nat)↦(decide ((10:Int)<(l.length:Int))=false→(decide ((320:Int)<(m.length:Int))=true→Ob True∧True∧Ob (isTrue (Value.bool true) (feVV4 l m)))∧(decide ((320:Int)<(m.length:Int))=false→Ob ((feVV1 l)∧(feVV0 l).length≤1000000∧errA (feVV0 l) a≠(0:Int))∧Ob ((feVV1 l)∧(feVV0 l).length≤1000000∧errA (feVV0 l) a≠(0:Int))∧Ob (feVV5 l m)∧Ob (feVV5 l m)∧((heE (feVV0 l) (feVV3 m)==heE (feVV0 l) (feVV3 m))=true→Ob True∧(true=true→((errA (feVV0 l) a==errA (feVV0 l) a)=true→Ob True∧True∧Ob (isTrue (Value.bool true) (feVV4 l m)))∧((errA (feVV0 l) a==errA (feVV0 l) a)=false→True∧Ob (isTrue (Value.bool false) (feVV4 l m))))∧(true=false→True∧Ob (isTrue (Value.bool false) (feVV4 l m))))∧((heE (feVV0 l) (feVV3 m)==heE (feVV0 l) (feVV3 m))=false→True∧Ob (isTrue (Value.bool false) (feVV4 l m)))))∧(decide ((10:Int)<(l.length:Int))=true→Ob True∧True∧Ob (isTrue (Value.bool true) (feVV4 l m)))
theorem feVV_eq : feVV = fun (l : List Int) (c : Nat) (a : Int) (m : List Int) (d : Nat) => vc Try.prog feE 2 51 true (fun _ => none) fhB [] (argFr 0 [.slice (some ⟨0,0,none⟩) l.length c,vi a,.slice (some ⟨1,0,none⟩) m.length d]) [ros l,ros m] fhK := by kernel_rfl
noncomputable def faVV0 (l:List Int) := (List.take l.length (List.drop 0 (intsOf (List.map (Value.int IntKind.i64) l))))
noncomputable def faVV1  := (Value.int IntKind.i64)
noncomputable def faVV2 (l:List Int) (a:Int) (m:List Int):List AObj := [AObj.ro (List.map faVV1 l),AObj.ro (List.map faVV1 m),AObj.rw (List.map faVV1 (hL (intsOf (List.map faVV1 l)) a.toNat)) none,AObj.rw (List.map faVV1 (hL (faVV0 l) a.toNat)) (some 1)]
noncomputable def faVV3 (l:List Int) (m:List Int):Prop := (((List.take l.length (List.drop 0 (List.map faVV1 l))=List.map faVV1 (faVV0 l)∧0+l.length≤(List.map faVV1 l).length∧true=true)∧List.take m.length (List.drop 0 (List.map faVV1 m))=List.map faVV1 (List.take m.length (List.drop 0 (intsOf (List.map faVV1 m))))∧0+m.length≤(List.map faVV1 m).length∧true=true)∧(faVV0 l).length≤1000000)
noncomputable def faVV4 (l:List Int) (a:Int) := (List.map faVV1 (hL (intsOf (List.map faVV1 l)) a.toNat))
noncomputable def faVV5 (m:List Int) := (List.take m.length (List.drop 0 (intsOf (List.map faVV1 m))))
noncomputable def faVV6 (l:List Int) (a:Int):Bool := (List.take (a.toNat+1) (List.drop 0 (intsOf (faVV4 l a)))==List.take (hL (faVV0 l) a.toNat).length (List.drop 0 (intsOf (List.map faVV1 (hL (faVV0 l) a.toNat)))))
noncomputable def faVV :=
fun (l:List Int) (c:Nat) (a:Int) (m:List Int) (d:Nat)↦(decide ((10:Int)<(l.length:Int))=false→(decide ((320:Int)<(m.length:Int))=true→Ob True∧True∧Ob (isTrue (Value.bool true) [AObj.ro (List.map faVV1 l),AObj.ro (List.map faVV1 m)]))∧(decide ((320:Int)<(m.length:Int))=false→Ob ((true=true∧Flat (List.map faVV1 l))∧okW a (Leaf.view (List.map faVV1 l) l.length false))∧Ob ((List.take l.length (List.drop 0 (List.map faVV1 l))=List.map faVV1 (faVV0 l)∧0+l.length≤(List.map faVV1 l).length∧true=true)∧Coins (faVV0 l)∧(1:Int)≤a∧a≤(300:Int))∧Ob (faVV3 l m)∧Ob (faVV3 l m)∧((heE (faVV0 l) (faVV5 m)==heE (faVV0 l) (faVV5 m))=true→Ob (((List.take (a.toNat+1) (List.drop 0 (faVV4 l a))=List.map faVV1 (List.take (a.toNat+1) (List.drop 0 (intsOf (faVV4 l a))))∧0+(a.toNat+1)≤(faVV4 l a).length∧true=true)∧List.take (hL (faVV0 l) a.toNat).length (List.drop 0 (List.map faVV1 (hL (faVV0 l) a.toNat)))=List.map faVV1 (List.take (hL (faVV0 l) a.toNat).length (List.drop 0 (intsOf (List.map faVV1 (hL (faVV0 l) a.toNat)))))∧0+(hL (faVV0 l) a.toNat).length≤(List.map faVV1 (hL (faVV0 l) a.toNat)).length∧true=true)∧(List.take (a.toNat+1) (List.drop 0 (intsOf (faVV4 l a)))).length≤1000)∧((faVV6 l a)=true→(true=true→Ob True∧True∧Ob (isTrue (Value.bool true) (faVV2 l a m)))∧(true=false→True∧Ob (isTrue (Value.bool false) (faVV2 l a m))))∧((faVV6 l a)=false→True∧Ob (isTrue (Value.bool false) (faVV2 l a m))))∧((heE (faVV0 l) (faVV5 m)==heE (faVV0 l) (faVV5 m))=false→True∧Ob (isTrue (Value.bool false) (faVV2 l a m)))))∧(decide ((10:Int)<(l.length:Int))=true→Ob True∧True∧Ob (isTrue (Value.bool true) [AObj.ro (List.map faVV1 l),AObj.ro (List.map faVV1 m)]))
theorem faVV_eq : faVV = fun (l : List Int) (c : Nat) (a : Int) (m : List Int) (d : Nat) => vc Try.prog faE 2 51 true (fun _ => none) fhB [] (argFr 0 [.slice (some ⟨0,0,none⟩) l.length c,vi a,.slice (some ⟨1,0,none⟩) m.length d]) [ros l,ros m] fhK := by kernel_rfl
noncomputable def fzVV0  := (Value.int IntKind.i64)
noncomputable def fzVV1 (l:List Int) (m:List Int):Prop := (((List.take l.length (List.drop 0 (List.map fzVV0 l))=List.map fzVV0 (List.take l.length (List.drop 0 (intsOf (List.map fzVV0 l))))∧0+l.length≤(List.map fzVV0 l).length∧true=true)∧List.take m.length (List.drop 0 (List.map fzVV0 m))=List.map fzVV0 (List.take m.length (List.drop 0 (intsOf (List.map fzVV0 m))))∧0+m.length≤(List.map fzVV0 m).length∧true=true)∧(List.take l.length (List.drop 0 (intsOf (List.map fzVV0 l)))).length≤1000000)
noncomputable def fzVV2 (l:List Int) (a:Int) := (List.map fzVV0 (hL (intsOf (List.map fzVV0 l)) a.toNat))
noncomputable def fzVV3 (l:List Int) (a:Int) (m:List Int):List AObj := [AObj.ro (List.map fzVV0 l),AObj.ro (List.map fzVV0 m),AObj.rw (fzVV2 l a) none,AObj.rw [vi (0:Int)] none]
noncomputable def fzVV4 (l:List Int) (m:List Int):Bool := (heE (List.take l.length (List.drop 0 (intsOf (List.map fzVV0 l)))) (List.take m.length (List.drop 0 (intsOf (List.map fzVV0 m))))==heE (List.take l.length (List.drop 0 (intsOf (List.map fzVV0 l)))) (List.take m.length (List.drop 0 (intsOf (List.map fzVV0 m)))))
noncomputable def fzVV5 (l:List Int) (a:Int) := (List.drop 0 (intsOf (fzVV2 l a)))
noncomputable def fzVV :=
fun (l:List Int) (c:Nat) (a:Int) (m:List Int) (d:Nat)↦(decide ((10:Int)<(l.length:Int))=false→(decide ((320:Int)<(m.length:Int))=true→Ob True∧True∧Ob (isTrue (Value.bool true) [AObj.ro (List.map fzVV0 l),AObj.ro (List.map fzVV0 m)]))∧(decide ((320:Int)<(m.length:Int))=false→Ob ((true=true∧Flat (List.map fzVV0 l))∧okW a (Leaf.view (List.map fzVV0 l) l.length false))∧Ob ((true=true∧Flat (List.map fzVV0 l))∧okW a (Leaf.view (List.map fzVV0 l) l.length false)∧a=(0:Int))∧Ob (fzVV1 l m)∧Ob (fzVV1 l m)∧((fzVV4 l m)=true→Ob (((List.take (a.toNat+1) (List.drop 0 (fzVV2 l a))=List.map fzVV0 (List.take (a.toNat+1) (fzVV5 l a))∧0+(a.toNat+1)≤(fzVV2 l a).length∧true=true)∧[vi (0:Int)]=[vi (intOf (vi (0:Int)))]∧0+1≤1∧true=true)∧(List.take (a.toNat+1) (fzVV5 l a)).length≤1000)∧((List.take (a.toNat+1) (fzVV5 l a)==[intOf (vi (0:Int))])=true→(true=true→Ob True∧True∧Ob (isTrue (Value.bool true) (fzVV3 l a m)))∧(true=false→True∧Ob (isTrue (Value.bool false) (fzVV3 l a m))))∧((List.take (a.toNat+1) (fzVV5 l a)==[intOf (vi (0:Int))])=false→True∧Ob (isTrue (Value.bool false) (fzVV3 l a m))))∧((fzVV4 l m)=false→True∧Ob (isTrue (Value.bool false) (fzVV3 l a m)))))∧(decide ((10:Int)<(l.length:Int))=true→Ob True∧True∧Ob (isTrue (Value.bool true) [AObj.ro (List.map fzVV0 l),AObj.ro (List.map fzVV0 m)]))
theorem fzVV_eq : fzVV = fun (l : List Int) (c : Nat) (a : Int) (m : List Int) (d : Nat) => vc Try.prog fzE 2 51 true (fun _ => none) fhB [] (argFr 0 [.slice (some ⟨0,0,none⟩) l.length c,vi a,.slice (some ⟨1,0,none⟩) m.length d]) [ros l,ros m] fhK := by kernel_rfl
theorem hgCt_ok {l : List Int} {c : Nat} : ∀ args H φ v H' k,hgCt l c args H = some (φ,v,H',k)→Asks φ→Call Try.prog 76 args H (fun v' H2 => v' = v∧H2 = H')∧Kept H H' k := fun args H φ v H' k h hφ => by
 unfold hgCt at h
 split at h <;> cases h
 rename_i a
 obtain ⟨⟨zl,hA⟩,hc,ha0,ha1⟩ := hφ
 obtain ⟨A,rfl⟩ := Int.eq_ofNat_of_zero_le ha0
 refine ⟨?_,Kept.append _ _ _⟩
 have hH : 1 < H.length := (List.getElem?_eq_some_iff.1 hA.2).1
 have e0 : nameL [0,1] 2 H.length 0 = 0 := by simp [nameL]
 have e1 : nameL [0,1] 2 H.length 1 = 1 := by simp [nameL]
 have e2 : nameL [0,1] 2 H.length 2 = H.length := by simp [nameL]
 have := Call.frameG (P := Try.prog) (f := 76) (Et := [ros l,tillO l.length c zl]) (Ft := [ros l,tillO l.length c zl]) (N := [.rw ((hL l A).map (.int .i64)) none]) (H := H) (L := [0,1]) (args := [ptr0 1,vi (A : Int)]) (vs := [ptr0 1,vi (A : Int)]) (v := .slice (some ⟨2,0,none⟩) (A + 1) (A + 1)) rfl rfl (by simp) (fun x hx => by simp at hx; omega)
   (fun c' o h => ?_) (fun o ho => ?_) rfl rfl (hg_call l c zl A hc (by omega)) (fun o ho => ?_) (fun o ho => by rw [List.mem_singleton.1 ho]; rfl) (by simp [nm,nm2,nm1,nm0]) (fun o ho => ?_) (by simp [nmap,nmap2,nmap1,nmap0,am,e2,sc,sc2,sc1,sc0])
 · obtain ⟨t1,_⟩ := this
   have hv : nmap (nameL [0,1] ([ros l,tillO l.length c zl] : Heap).length H.length) (.slice (some ⟨2,0,none⟩) (A + 1) (A + 1)) = .slice (some ⟨H.length,0,none⟩) (A + 1) (A + 1) := by
     show nmap (nameL [0,1] 2 H.length) _ = _
     simp [nmap,nmap2,nmap1,nmap0,am,e2]
   have hs : setG H [ros l,tillO l.length c zl] [0,1] (([ros l,tillO l.length c zl] : Heap).map (omap (nameL [0,1] ([ros l,tillO l.length c zl] : Heap).length H.length))) = H := by
     show H.set 1 (omap (nameL [0,1] 2 H.length) (tillO l.length c zl)) = H
     rw [til_omap e0]
     obtain ⟨k1,k2⟩ := List.getElem?_eq_some_iff.1 hA.2
     rw [← k2]
     exact List.set_getElem_self k1
   rw [hv,hs,List.map_cons,List.map_nil,rw_omap] at t1
   exact t1
 · rcases c' with _ | _ | c'
   · cases h; exact .inr (by rw [ros_omap]; exact hA.1)
   · cases h; exact .inr (by rw [til_omap rfl]; exact hA.2)
   · simp at h
 · rcases List.mem_cons.1 ho with rfl | ho
   · exact ros_sc
   · rw [List.mem_singleton.1 ho]; exact til_sc
 · simp only [List.mem_append,List.mem_cons,List.not_mem_nil,or_false] at ho
   rcases ho with (rfl | rfl) | rfl
   · exact ros_nm
   · exact til_nm rfl
   · exact nm_ints
 · simp only [List.mem_append,List.mem_cons,List.not_mem_nil,or_false] at ho
   rcases ho with (rfl | rfl) | rfl
   · rw [ros_omap]; exact ros_sc
   · show (omap (nameL [0,1] 2 H.length) _).sc _ = true
     rw [til_omap e0]; exact til_sc
   · rw [rw_omap]; exact sc_ints
theorem okWh_of {l : List Int} {a : Int} (h0 : errA l a = 0) {r : Bool} : okW a (Leaf.view (List.map (Value.int .i64) l) l.length r) := by
 obtain ⟨he,hr⟩ := errA_0.1 h0
 exact ⟨by rw [intsOf_map],by simp,by rw [intsOf_map]; exact errC_ok.1 he,hr⟩
theorem hnil_eq {x y : Int} (h : x = y) : ({ toList := [Value.slice none 0 0,vi x] } : Array Value) = { toList := [Value.slice none 0 0,vi y] } := by rw [h]
theorem hoV_ok (l : List Int) (c : Nat) (a : Int) (hl : l.length≤1000000) : hoV l c a := by
 unfold hoV hoV6 hoV5 hoV4 hoV3 hoV2 hoV1 hoV0
 simp only [SS,reduceCtorEq,Arg.list,Arg.num,Arg.flag,intOf,andP,Nat.reduceLeDiff,Nat.reduceAdd,Nat.reduceMul,Nat.reduceLT,til_sc,nm_sl]
 refine ⟨hl,fun he => ⟨fun h => absurd h he,fun _ => ⟨fun _ _ => hnil_eq (errA_c he).symm,fun h => he h⟩⟩,fun he zl hz => ⟨fun h _ => hnil_eq (errA_3 he ((wi_300 h).2 rfl)).symm,fun h => ?_⟩⟩
 have hr := (wi_300 h).1 rfl
 exact ⟨⟨at_z,errC_ok.1 he,by omega,by omega⟩,fun k => absurd (errA_0.2 ⟨he,hr⟩) k⟩
theorem hoO_ok (l : List Int) (c : Nat) (a : Int) (h0 : errA l a = 0) : hoO l c a := by
 unfold hoO hoO7 hoO6 hoO5 hoO4 hoO3 hoO2 hoO1 hoO0
 simp only [SS,reduceCtorEq,Arg.list,Arg.num,Arg.flag,intOf,andP,Nat.reduceLeDiff,Nat.reduceAdd,Nat.reduceMul,Nat.reduceLT,til_sc,nm_sl]
 obtain ⟨he,hr⟩ := errA_0.1 h0
 have hc := errC_ok.1 he
 have := hc.few
 exact ⟨by omega,fun h => absurd he h,fun _ zl hz => ⟨fun h => (wi_300 h).2 rfl hr,fun h => ⟨at_z,hc,by omega,by omega⟩⟩⟩
theorem hoN_ok (a : Int) : hoN a := by
 unfold hoN hoN1 hoN0
 simp only [SS,reduceCtorEq,Arg.list,Arg.num,Arg.flag,intOf,andP,Nat.reduceLeDiff,Nat.reduceAdd,Nat.reduceMul,Nat.reduceLT]
theorem hoH_ok (s : Option Nat) (c : Nat) (a : Int) : hoH s c a := by
 unfold hoH hoH1 hoH0
 simp only [SS,reduceCtorEq,Arg.list,Arg.num,Arg.flag,intOf,andP,Nat.reduceLeDiff,Nat.reduceAdd,Nat.reduceMul,Nat.reduceLT]
theorem hL_z {l : List Int} (hc : Coins l) : hL l 0 = [0] := by
 have h := fR_get hc 0 (by omega) 0 (by omega)
 have h00 : canB l 0 = true := rfl
 rw [fvA,if_pos h00] at h
 rw [hL,hvF,if_pos h00,← h]
 rfl
theorem hv_of {l : List Int} {j : Nat} : (fvA l j < 0→Coins l→j≤300→hvF l j = 1000)∧(¬ fvA l j < 0→hvF l j = fvA l j) := by
 unfold fvA hvF
 by_cases h : canB l j = true
 · rw [if_pos h,if_pos h]
   exact ⟨fun k hc hj => by have := m5_pos hc (b := j) (by omega) h; omega,fun _ => rfl⟩
 · rw [if_neg h,if_neg h]
   exact ⟨fun _ _ _ => rfl,fun k => absurd (by decide) k⟩
theorem h2V_ok (l : List Int) (c : Nat) (a : Int) (hl : l.length≤1000000) (h : errA l a ≠ 0) : h2V l c a := by
 unfold h2V h2V1 h2V0
 simp only [SS,reduceCtorEq,Arg.list,Arg.num,Arg.flag,intOf,andP,Nat.reduceLeDiff,Nat.reduceAdd,Nat.reduceMul,Nat.reduceLT]
 exact ⟨hl,fun _ => hl,fun k => h k⟩
theorem h2N_ok (a : Int) : h2N a := by
 unfold h2N h2N0
 simp only [SS,reduceCtorEq,Arg.list,Arg.num,Arg.flag,intOf,andP,Nat.reduceLeDiff,Nat.reduceAdd,Nat.reduceMul,Nat.reduceLT]
theorem h2H_ok (s : Option Nat) (c : Nat) (a : Int) : h2H s c a := by
 unfold h2H h2H0
 simp only [SS,reduceCtorEq,Arg.list,Arg.num,Arg.flag,intOf,andP,Nat.reduceLeDiff,Nat.reduceAdd,Nat.reduceMul,Nat.reduceLT]
theorem h2O_ok (l : List Int) (c am : Nat) (hc : Coins l) (h1 : 1≤am) (h2 : am≤300) : h2O l c am := by
 unfold h2O h2O8 h2O7 h2O6 h2O5 h2O4 h2O3 h2O2 h2O1 h2O0
 simp only [SS,reduceCtorEq,Arg.list,Arg.num,Arg.flag,intOf,andP,Nat.reduceLeDiff,Nat.reduceAdd,Nat.reduceMul,Nat.reduceLT,putL_int,fR_len]
 have := hc.few
 refine ⟨by omega,fun h => absurd (errA_0.2 ⟨errC_ok.2 hc,by omega⟩) h,fun _ => ⟨⟨hc,by omega,by omega⟩,?_⟩⟩
 refine ⟨⟨(0,fR l am),⟨by omega,⟨fR_len am,fun j hj => ?_⟩⟩,rfl,rfl⟩,fun x ⟨hx,hp⟩ => ⟨fun h3 => ?_,fun h3 => ?_⟩⟩
 · rw [if_neg (by simp)]
   exact fR_get hc am (by omega) j (by omega)
 · have hln := hp.len
   have hv := hp.val x.1 (by omega)
   rw [if_neg (by omega)] at hv
   refine ⟨⟨by omega,by omega⟩,by omega,fun h4 => ⟨⟨by omega,by omega⟩,by omega,(x.1 + 1,x.2.set x.1 1000),⟨by show x.1 + 1≤am + 1; omega,⟨by show (x.2.set x.1 1000).length = am + 1; rw [List.length_set]; exact hln,fun j hj => ?_⟩⟩,by show am + 1 - (x.1 + 1) < am + 1 - x.1; omega,rfl,wrap_succ (n := 1000) (by omega) (by omega)⟩,fun h4 => ⟨(x.1 + 1,x.2),⟨by show x.1 + 1≤am + 1; omega,⟨hln,fun j hj => ?_⟩⟩,by show am + 1 - (x.1 + 1) < am + 1 - x.1; omega,rfl,wrap_succ (n := 1000) (by omega) (by omega)⟩⟩
   · show (x.2.set x.1 1000).getD j 0 = if j < x.1 + 1 then hvF l j else fvA l j
     rw [getD_at (by omega)]
     by_cases e : j = x.1
     · rw [if_pos e,if_pos (by omega),e]
       exact (hv_of.1 (by omega) hc (by omega)).symm
     · rw [if_neg e,hp.val j hj]
       by_cases e2 : j < x.1
       · rw [if_pos e2,if_pos (by omega)]
       · rw [if_neg e2,if_neg (by omega)]
   · show x.2.getD j 0 = if j < x.1 + 1 then hvF l j else fvA l j
     rw [hp.val j hj]
     by_cases e : j = x.1
     · rw [if_neg (by omega),if_pos (by omega),e]
       exact (hv_of.2 (by omega)).symm
     · by_cases e2 : j < x.1
       · rw [if_pos e2,if_pos (by omega)]
       · rw [if_neg e2,if_neg (by omega)]
 · have hx1 : x.1 = am + 1 := by omega
   have e : x.2 = hL l am := List.ext_getElem (by rw [hp.len,hL_len]) fun j k1 k2 => by
     have hj : j≤am := by have := hp.len; omega
     have g1 : x.2.getD j 0 = x.2[j] := by rw [List.getD_eq_getElem?_getD,List.getElem?_eq_getElem k1]; rfl
     have g2 : (hL l am).getD j 0 = (hL l am)[j] := by rw [List.getD_eq_getElem?_getD,List.getElem?_eq_getElem k2]; rfl
     have h5 := hp.val j hj
     rw [if_pos (by omega)] at h5
     rw [← g1,← g2,h5,hL_get am j hj]
   rw [e]
theorem h2Z_ok (l : List Int) (c : Nat) (hc : Coins l) : h2Z l c := by
 unfold h2Z h2Z6 h2Z5 h2Z4 h2Z3 h2Z2 h2Z1 h2Z0
 simp only [SS,reduceCtorEq,Arg.list,Arg.num,Arg.flag,intOf,andP,Nat.reduceLeDiff,Nat.reduceAdd,Nat.reduceMul,Nat.reduceLT,putL_int]
 have := hc.few
 refine ⟨by omega,fun h => h (errA_0.2 ⟨errC_ok.2 hc,by omega⟩),fun _ => ⟨⟨0,by omega,rfl⟩,fun x hx h => ?_⟩⟩
 obtain rfl : x = 0 := by omega
 exact ⟨by omega,rfl,fun h => absurd (show (0 : Int) < 0 from h) (by decide),fun _ => ⟨1,by omega,by omega,rfl⟩⟩
theorem hoE_ok {l : List Int} {c : Nat} : VOk Try.prog (hoE l c) := ⟨CtOk.none.add hgCt_ok,ccIn_ok tiE_ok mixed (inl_one Try.func66),E0_ok.yc,E0_ok.orc⟩
theorem h2E_ok : VOk Try.prog h2E := VOk.ofCt ((CtOk.none.add raG_ok).add foG_ok)
theorem h2ZE_ok {l : List Int} {c : Nat} : VOk Try.prog (h2ZE l c) := VOk.ofCt ((CtOk.none.add raG_ok).add fzCt_ok)
theorem qaG_ok : ∀ args H φ v H' l,pureG [.ints .i64,.int .i64] qaS args H = some (φ,v,H',l)→Asks φ→Call Try.prog 31 args H (fun v' H2 => v' = v∧H2 = H')∧Kept H H' l :=
 pureG_ok fun r hk hs => match r,hk with
   | [_,_],⟨hl,⟨a,ha⟩,_⟩ => by
     subst ha
     rcases hl with rfl | ⟨s,rfl⟩ | ⟨l,rfl⟩
     · exact ⟨by simp [qaS,sc,sc2,sc1,sc0],fun caps => Call.ofVc fnE_ok mixed (c := hoB) (inv := fun _ => none) Try.func31 (by kernel_rfl) (cast (congrFun hoN_eq a) (hoN_ok a))⟩
     · exact ⟨by simp [qaS,sc,sc2,sc1,sc0],fun caps => Call.ofVc fnE_ok mixed (c := hoB) (inv := fun _ => none) Try.func31 (by kernel_rfl) (cast (congrFun (congrFun (congrFun hoH_eq s) (caps 0)) a) (hoH_ok s _ a))⟩
     · refine ⟨by simp [qaS,sc,sc2,sc1,sc0],fun caps => ?_⟩
       have h := Call.ofVc (E := hoE l (caps 0)) (H := [ros l]) (args := [.slice (some ⟨0,0,none⟩) l.length (caps 0),vi a]) (R := fun v _ => errA l a ≠ 0→v = .tuple #[.slice none 0 0,vi (errA l a)]) hoE_ok mixed (c := hoB) (inv := fun _ => none) Try.func31 (by kernel_rfl) (cast (congrFun (congrFun (congrFun hoV_eq l) (caps 0)) a) (hoV_ok l _ a hs.1))
       exact h.mono fun v H h => h hs.2
theorem qbG_ok : ∀ args H φ v H' l,pureG [.ints .i64,.int .i64] qaS args H = some (φ,v,H',l)→Asks φ→Call Try.prog 32 args H (fun v' H2 => v' = v∧H2 = H')∧Kept H H' l :=
 pureG_ok fun r hk hs => match r,hk with
   | [_,_],⟨hl,⟨a,ha⟩,_⟩ => by
     subst ha
     rcases hl with rfl | ⟨s,rfl⟩ | ⟨l,rfl⟩
     · exact ⟨by simp [qaS,sc,sc2,sc1,sc0],fun caps => Call.ofVc h2E_ok mixed (c := h2B) (inv := fun _ => none) Try.func32 (by kernel_rfl) (cast (congrFun h2N_eq a) (h2N_ok a))⟩
     · exact ⟨by simp [qaS,sc,sc2,sc1,sc0],fun caps => Call.ofVc h2E_ok mixed (c := h2B) (inv := fun _ => none) Try.func32 (by kernel_rfl) (cast (congrFun (congrFun (congrFun h2H_eq s) (caps 0)) a) (h2H_ok s _ a))⟩
     · exact ⟨by simp [qaS,sc,sc2,sc1,sc0],fun caps => Call.ofVc h2E_ok mixed (c := h2B) (inv := fun _ => none) Try.func32 (by kernel_rfl) (cast (congrFun (congrFun (congrFun h2V_eq l) (caps 0)) a) (h2V_ok l _ a hs.1 hs.2))⟩
theorem ho_call (l : List Int) (c : Nat) (a : Int) (h0 : errA l a = 0) : Call Try.prog 31 [.slice (some ⟨0,0,none⟩) l.length c,vi a] [ros l] fun v H' => v = .tuple #[.slice (some ⟨1,0,none⟩) (a.toNat + 1) (a.toNat + 1),vi 0]∧H' = [ros l] ++ [.rw ((hL l a.toNat).map (.int .i64)) none] :=
 Call.ofVcR (E := hoE l c) (H := [ros l]) (args := [.slice (some ⟨0,0,none⟩) l.length c,vi a]) (σ := nsub 1 3) (v2 := .tuple #[.slice (some ⟨1,0,none⟩) (a.toNat + 1) (a.toNat + 1),vi 0]) (H2 := [ros l,.rw ((hL l a.toNat).map (.int .i64)) none]) hoE_ok mixed (c := hoB) (inv := fun _ => none) Try.func31 (by kernel_rfl) (cast (by kernel_rfl) (hoO_ok l c a h0))
theorem hz_call (l : List Int) (c : Nat) (hc : Coins l) : Call Try.prog 32 [.slice (some ⟨0,0,none⟩) l.length c,vi 0] [ros l] fun v H' => v = .tuple #[.slice (some ⟨1,0,none⟩) 1 1,vi 0]∧H' = [ros l] ++ [.rw [vi 0] none] :=
 Call.ofVcR (E := h2ZE l c) (H := [ros l]) (args := [.slice (some ⟨0,0,none⟩) l.length c,vi 0]) (σ := fun b => b) (v2 := .tuple #[.slice (some ⟨1,0,none⟩) 1 1,vi 0]) (H2 := [ros l,.rw [vi 0] none]) h2ZE_ok mixed (c := h2B) (inv := h2J l) Try.func32 (by kernel_rfl) (cast (by kernel_rfl) (h2Z_ok l c hc))
theorem hoG_ok : ∀ args H φ v H' l,born3 [.one (.rows [.i .i64] false),.one (.int .i64)] hoS args H = some (φ,v,H',l)→Asks φ→Call Try.prog 31 args H (fun v' H2 => v' = v∧H2 = H')∧Kept H H' l :=
 born3_ok fun r s hk hs hψ => match r,hk with
   | [.one x,.one y],⟨hx,⟨a,hy⟩,_⟩ => by
     subst hy
     rcases hx with rfl | ⟨s,rfl⟩ | ⟨cs,n,rfl⟩
     · cases hs
     · cases hs
     · cases hs
       obtain ⟨k1,k2,k3,k4⟩ := hψ
       have kl : (intsOf cs).length = n := by rw [intsOf,List.length_map]; exact k2
       have ke : AObj.ro cs = ros (intsOf cs) := by show AObj.ro cs = .ro ((intsOf cs).map (.int .i64)); rw [← k1]
       refine ⟨⟨plainNew_ints,fun ρ b ρ' c h => ?_,fun n => ?_⟩,fun caps hcaps => ?_⟩
       · obtain ⟨h1,h2,h3⟩ := h 0 (by simp)
         simp only [Nat.add_zero] at h1 h2 h3
         simp [ren,ren2,ren1,ren0,Ren.addr,Ren.adr,Ren.cap,h1,h2,h3]
       · simp [sc,sc2,sc1,sc0]
       · have h := ho_call (intsOf cs) (caps 0) a (errA_0.2 ⟨errC_ok.2 k3,k4⟩)
         rw [kl] at h
         have e : canonH3 [Arg3.one (Leaf.view cs n false),Arg3.one (Leaf.plain (vi a))] = [ros (intsOf cs)] := by
           show [AObj.ro cs] = _
           rw [ke]
         rw [e]
         exact h
theorem hzG_ok : ∀ args H φ v H' l,born3 [.one (.rows [.i .i64] false),.one (.int .i64)] hzS args H = some (φ,v,H',l)→Asks φ→Call Try.prog 32 args H (fun v' H2 => v' = v∧H2 = H')∧Kept H H' l :=
 born3_ok fun r s hk hs hψ => match r,hk with
   | [.one x,.one y],⟨hx,⟨a,hy⟩,_⟩ => by
     subst hy
     rcases hx with rfl | ⟨s,rfl⟩ | ⟨cs,n,rfl⟩
     · cases hs
     · cases hs
     · cases hs
       obtain ⟨⟨k1,k2,k3,k4⟩,rfl⟩ := hψ
       have kl : (intsOf cs).length = n := by rw [intsOf,List.length_map]; exact k2
       have ke : AObj.ro cs = ros (intsOf cs) := by show AObj.ro cs = .ro ((intsOf cs).map (.int .i64)); rw [← k1]
       refine ⟨⟨plainNew_ints,fun ρ b ρ' c h => ?_,fun n => ?_⟩,fun caps hcaps => ?_⟩
       · obtain ⟨h1,h2,h3⟩ := h 0 (by simp)
         simp only [Nat.add_zero] at h1 h2 h3
         simp [ren,ren2,ren1,ren0,Ren.addr,Ren.adr,Ren.cap,h1,h2,h3]
       · simp [sc,sc2,sc1,sc0]
       · have h := hz_call (intsOf cs) (caps 0) k3
         rw [kl] at h
         have e : canonH3 [Arg3.one (Leaf.view cs n false),Arg3.one (Leaf.plain (vi 0))] = [ros (intsOf cs)] := by
           show [AObj.ro cs] = _
           rw [ke]
         rw [e]
         exact h
theorem h2G_ok : ∀ args H φ v H' l,newG [.ints .i64,.int .i64] h2S args H = some (φ,v,H',l)→Asks φ→Call Try.prog 32 args H (fun v' H2 => v' = v∧H2 = H')∧Kept H H' l :=
 newG_ok fun r ψ b hk hs hψ => match r,hk with
   | [_,_],⟨hl,⟨a,ha⟩,_⟩ => by
     subst ha
     rcases hl with rfl | ⟨s,rfl⟩ | ⟨l,rfl⟩
     · cases hs
     · cases hs
     · cases hs
       obtain ⟨hc,h1,h2⟩ := hψ
       obtain ⟨A,rfl⟩ := Int.eq_ofNat_of_zero_le (show 0≤a by omega)
       refine ⟨rfl,fun caps => ?_⟩
       have h := Call.ofVcR (E := h2E) (H := [ros l]) (args := [.slice (some ⟨0,0,none⟩) l.length (caps 0),vi (A : Int)]) (σ := fun b => b) (v2 := .tuple #[newSlice 1 (A + 1),vi 0]) (H2 := [ros l,.rw ((hL l A).map (.int .i64)) (some 1)]) h2E_ok mixed (c := h2B) (inv := h2I l A) Try.func32 (by kernel_rfl) (cast (by kernel_rfl) (h2O_ok l (caps 0) A hc (by omega) (by omega)))
       have h' : Call Try.prog 32 [.slice (some ⟨0,0,none⟩) l.length (caps 0),vi (A : Int)] [ros l] fun v H' => v = .tuple #[newSlice 1 (hL l A).length,vi 0]∧H' = [ros l] ++ [.rw ((hL l A).map (.int .i64)) (some 1)] := by
         rw [hL_len]
         exact h
       exact h'
theorem feNN_ok (a : Int) : feNN a := by
 unfold feNN
 simp only [SS,reduceCtorEq,Arg.list,Arg.num,Arg.flag,intOf,andP,Nat.reduceLeDiff,Nat.reduceAdd,Nat.reduceMul,Nat.reduceLT,isTrue]
theorem feNH_ok (a : Int) (u : Option Nat) (d : Nat) : feNH a u d := by
 unfold feNH feNH1 feNH0
 simp only [SS,reduceCtorEq,Arg.list,Arg.num,Arg.flag,intOf,andP,Nat.reduceLeDiff,Nat.reduceAdd,Nat.reduceMul,Nat.reduceLT,isTrue]
theorem feNV_ok (a : Int) (m : List Int) (d : Nat) : feNV a m d := by
 unfold feNV feNV3 feNV2 feNV1 feNV0
 simp only [SS,reduceCtorEq,Arg.list,Arg.num,Arg.flag,intOf,andP,Nat.reduceLeDiff,Nat.reduceAdd,Nat.reduceMul,Nat.reduceLT,isTrue]
theorem feHN_ok (s : Option Nat) (c : Nat) (a : Int) : feHN s c a := by
 unfold feHN feHN1 feHN0
 simp only [SS,reduceCtorEq,Arg.list,Arg.num,Arg.flag,intOf,andP,Nat.reduceLeDiff,Nat.reduceAdd,Nat.reduceMul,Nat.reduceLT,isTrue]
theorem feHH_ok (s : Option Nat) (c : Nat) (a : Int) (u : Option Nat) (d : Nat) : feHH s c a u d := by
 unfold feHH feHH1 feHH0
 simp only [SS,reduceCtorEq,Arg.list,Arg.num,Arg.flag,intOf,andP,Nat.reduceLeDiff,Nat.reduceAdd,Nat.reduceMul,Nat.reduceLT,isTrue]
theorem feHV_ok (s : Option Nat) (c : Nat) (a : Int) (m : List Int) (d : Nat) : feHV s c a m d := by
 unfold feHV feHV2 feHV1 feHV0
 simp only [SS,reduceCtorEq,Arg.list,Arg.num,Arg.flag,intOf,andP,Nat.reduceLeDiff,Nat.reduceAdd,Nat.reduceMul,Nat.reduceLT,isTrue]
theorem feVN_ok (l : List Int) (c : Nat) (a : Int) (h : errA l a ≠ 0) : feVN l c a := by
 unfold feVN feVN2 feVN1 feVN0
 simp only [SS,reduceCtorEq,Arg.list,Arg.num,Arg.flag,intOf,andP,Nat.reduceLeDiff,Nat.reduceAdd,Nat.reduceMul,Nat.reduceLT,isTrue]
 exact fun _ => ⟨⟨by omega,h⟩,⟨by omega,h⟩,by omega,by omega⟩
theorem faVN_ok (l : List Int) (c : Nat) (a : Int) (h : errA l a = 0) (h1 : 1≤a) : faVN l c a := by
 unfold faVN faVN5 faVN4 faVN3 faVN2 faVN1 faVN0
 simp only [SS,reduceCtorEq,Arg.list,Arg.num,Arg.flag,intOf,andP,Nat.reduceLeDiff,Nat.reduceAdd,Nat.reduceMul,Nat.reduceLT,isTrue]
 obtain ⟨he,hr⟩ := errA_0.1 h
 have hT : List.take (a.toNat + 1) (hL l a.toNat) = hL l a.toNat := List.take_of_length_le (by rw [hL_len]; exact Nat.le_refl _)
 exact fun _ => ⟨⟨all_sc_int,okWh_of h⟩,⟨errC_ok.1 he,by omega,by omega⟩,by omega,by omega,⟨⟨by rw [List.map_take],by rw [hL_len]; omega⟩,by rw [hT,hL_len]; omega⟩,fun k => k hT⟩
theorem fzVN_ok (l : List Int) (c : Nat) (a : Int) (h : errA l a = 0) (h0 : a = 0) : fzVN l c a := by
 subst h0
 unfold fzVN fzVN5 fzVN4 fzVN3 fzVN2 fzVN1 fzVN0
 simp only [SS,reduceCtorEq,Arg.list,Arg.num,Arg.flag,intOf,andP,Nat.reduceLeDiff,Nat.reduceAdd,Nat.reduceMul,Nat.reduceLT,isTrue]
 have hz : hL l (Int.toNat 0) = [0] := hL_z (errC_ok.1 (errA_0.1 h).1)
 rw [hz]
 exact fun _ => ⟨⟨all_sc_int,okWh_of h⟩,⟨all_sc_int,okWh_of h⟩,by omega,by omega,⟨⟨rfl,by decide⟩,by decide⟩,fun k => k rfl⟩
theorem feVH_ok (l : List Int) (c : Nat) (a : Int) (u : Option Nat) (d : Nat) (h : errA l a ≠ 0) : feVH l c a u d := by
 unfold feVH feVH2 feVH1 feVH0
 simp only [SS,reduceCtorEq,Arg.list,Arg.num,Arg.flag,intOf,andP,Nat.reduceLeDiff,Nat.reduceAdd,Nat.reduceMul,Nat.reduceLT,isTrue]
 exact fun _ => ⟨⟨by omega,h⟩,⟨by omega,h⟩,by omega,by omega⟩
theorem faVH_ok (l : List Int) (c : Nat) (a : Int) (u : Option Nat) (d : Nat) (h : errA l a = 0) (h1 : 1≤a) : faVH l c a u d := by
 unfold faVH faVH5 faVH4 faVH3 faVH2 faVH1 faVH0
 simp only [SS,reduceCtorEq,Arg.list,Arg.num,Arg.flag,intOf,andP,Nat.reduceLeDiff,Nat.reduceAdd,Nat.reduceMul,Nat.reduceLT,isTrue]
 obtain ⟨he,hr⟩ := errA_0.1 h
 have hT : List.take (a.toNat + 1) (hL l a.toNat) = hL l a.toNat := List.take_of_length_le (by rw [hL_len]; exact Nat.le_refl _)
 exact fun _ => ⟨⟨all_sc_int,okWh_of h⟩,⟨errC_ok.1 he,by omega,by omega⟩,by omega,by omega,⟨⟨by rw [List.map_take],by rw [hL_len]; omega⟩,by rw [hT,hL_len]; omega⟩,fun k => k hT⟩
theorem fzVH_ok (l : List Int) (c : Nat) (a : Int) (u : Option Nat) (d : Nat) (h : errA l a = 0) (h0 : a = 0) : fzVH l c a u d := by
 subst h0
 unfold fzVH fzVH5 fzVH4 fzVH3 fzVH2 fzVH1 fzVH0
 simp only [SS,reduceCtorEq,Arg.list,Arg.num,Arg.flag,intOf,andP,Nat.reduceLeDiff,Nat.reduceAdd,Nat.reduceMul,Nat.reduceLT,isTrue]
 have hz : hL l (Int.toNat 0) = [0] := hL_z (errC_ok.1 (errA_0.1 h).1)
 rw [hz]
 exact fun _ => ⟨⟨all_sc_int,okWh_of h⟩,⟨all_sc_int,okWh_of h⟩,by omega,by omega,⟨⟨rfl,by decide⟩,by decide⟩,fun k => k rfl⟩
theorem feVV_ok (l : List Int) (c : Nat) (a : Int) (m : List Int) (d : Nat) (h : errA l a ≠ 0) : feVV l c a m d := by
 unfold feVV feVV5 feVV4 feVV3 feVV2 feVV1 feVV0
 simp only [SS,reduceCtorEq,Arg.list,Arg.num,Arg.flag,intOf,andP,Nat.reduceLeDiff,Nat.reduceAdd,Nat.reduceMul,Nat.reduceLT,isTrue]
 exact fun _ _ => ⟨⟨by omega,h⟩,⟨by omega,h⟩,by omega,by omega⟩
theorem faVV_ok (l : List Int) (c : Nat) (a : Int) (m : List Int) (d : Nat) (h : errA l a = 0) (h1 : 1≤a) : faVV l c a m d := by
 unfold faVV faVV6 faVV5 faVV4 faVV3 faVV2 faVV1 faVV0
 simp only [SS,reduceCtorEq,Arg.list,Arg.num,Arg.flag,intOf,andP,Nat.reduceLeDiff,Nat.reduceAdd,Nat.reduceMul,Nat.reduceLT,isTrue]
 obtain ⟨he,hr⟩ := errA_0.1 h
 have hT : List.take (a.toNat + 1) (hL l a.toNat) = hL l a.toNat := List.take_of_length_le (by rw [hL_len]; exact Nat.le_refl _)
 exact fun _ _ => ⟨⟨all_sc_int,okWh_of h⟩,⟨errC_ok.1 he,by omega,by omega⟩,by omega,by omega,⟨⟨by rw [List.map_take],by rw [hL_len]; omega⟩,by rw [hT,hL_len]; omega⟩,fun k => k hT⟩
theorem fzVV_ok (l : List Int) (c : Nat) (a : Int) (m : List Int) (d : Nat) (h : errA l a = 0) (h0 : a = 0) : fzVV l c a m d := by
 subst h0
 unfold fzVV fzVV5 fzVV4 fzVV3 fzVV2 fzVV1 fzVV0
 simp only [SS,reduceCtorEq,Arg.list,Arg.num,Arg.flag,intOf,andP,Nat.reduceLeDiff,Nat.reduceAdd,Nat.reduceMul,Nat.reduceLT,isTrue]
 have hz : hL l (Int.toNat 0) = [0] := hL_z (errC_ok.1 (errA_0.1 h).1)
 rw [hz]
 exact fun _ _ => ⟨⟨all_sc_int,okWh_of h⟩,⟨all_sc_int,okWh_of h⟩,by omega,by omega,⟨⟨rfl,by decide⟩,by decide⟩,fun k => k rfl⟩
theorem fhT_ok : CtOk Try.prog fhT := (((CtOk.none.add worksG_ok).add lsG_ok).add hpG_ok).add hrG_ok
theorem feE_ok : VOk Try.prog feE := ⟨(fhT_ok.add qaG_ok).add qbG_ok,ccIn_ok E0_ok mixed (inl_one Try.func18),E0_ok.yc,E0_ok.orc⟩
theorem faE_ok : VOk Try.prog faE := ⟨(fhT_ok.add hoG_ok).add h2G_ok,ccIn_ok E0_ok mixed (inl_one Try.func18),E0_ok.yc,E0_ok.orc⟩
theorem fzE_ok : VOk Try.prog fzE := ⟨(fhT_ok.add hoG_ok).add hzG_ok,ccIn_ok E0_ok mixed (inl_one Try.func18),E0_ok.yc,E0_ok.orc⟩
theorem fith_int {k : IntKind} {a : Arg} (h : (PK.int k).fits a) : ∃ n,a = .plain (.int k n) := by
 obtain ⟨n,h,_⟩ := h
 exact ⟨n,h⟩
theorem fith_ints {k : IntKind} {a : Arg} (h : (PK.ints k).fits a) : a = .plain (.slice none 0 0)∨(∃ s,a = .hole s)∨∃ l,a = .ints k l∧0 < l.length := by
 rcases h with h | h | ⟨l,h,h0,_⟩
 · exact .inl h
 · exact .inr (.inl h)
 · exact .inr (.inr ⟨l,h,h0⟩)
theorem fith_three {p q o : PK} {r : List Arg} (h : fitsAll [p,q,o] r) : ∃ a b c,r = [a,b,c]∧p.fits a∧q.fits b∧o.fits c := match r,h with
 | [a,b,c],⟨h1,h2,h3,_⟩ => ⟨a,b,c,rfl,h1,h2,h3⟩
theorem heights_small (r : List Arg) (hr : fitsAll [.ints .i64,.int .i64,.ints .i64] r) (caps : Nat→Nat) : Call Try.prog 5 (canonA caps 0 r) (canonH r) isTrue := by
   obtain ⟨x,y,z,rfl,hx,hy,hz⟩ := fith_three hr
   obtain ⟨a,rfl⟩ := fith_int hy
   rcases fith_ints hx with rfl | ⟨s,rfl⟩ | ⟨l,rfl,_⟩ <;> rcases fith_ints hz with rfl | ⟨u,rfl⟩ | ⟨m,rfl,_⟩
   · show Call Try.prog 5 [.slice none 0 0,vi a,.slice none 0 0] [] isTrue
     have h := feNN_ok a
     rw [feNN_eq] at h
     exact Call.ofVc feE_ok mixed (c := fhB) (inv := fun _ => none) Try.func5 (by kernel_rfl) h
   · show Call Try.prog 5 [.slice none 0 0,vi a,.slice (some ⟨0,0,u⟩) 0 (caps 0)] [.gone] isTrue
     have h := feNH_ok a u (caps 0)
     rw [feNH_eq] at h
     exact Call.ofVc feE_ok mixed (c := fhB) (inv := fun _ => none) Try.func5 (by kernel_rfl) h
   · show Call Try.prog 5 [.slice none 0 0,vi a,.slice (some ⟨0,0,none⟩) m.length (caps 0)] [ros m] isTrue
     have h := feNV_ok a m (caps 0)
     rw [feNV_eq] at h
     exact Call.ofVc feE_ok mixed (c := fhB) (inv := fun _ => none) Try.func5 (by kernel_rfl) h
   · show Call Try.prog 5 [.slice (some ⟨0,0,s⟩) 0 (caps 0),vi a,.slice none 0 0] [.gone] isTrue
     have h := feHN_ok s (caps 0) a
     rw [feHN_eq] at h
     exact Call.ofVc feE_ok mixed (c := fhB) (inv := fun _ => none) Try.func5 (by kernel_rfl) h
   · show Call Try.prog 5 [.slice (some ⟨0,0,s⟩) 0 (caps 0),vi a,.slice (some ⟨1,0,u⟩) 0 (caps 1)] [.gone,.gone] isTrue
     have h := feHH_ok s (caps 0) a u (caps 1)
     rw [feHH_eq] at h
     exact Call.ofVc feE_ok mixed (c := fhB) (inv := fun _ => none) Try.func5 (by kernel_rfl) h
   · show Call Try.prog 5 [.slice (some ⟨0,0,s⟩) 0 (caps 0),vi a,.slice (some ⟨1,0,none⟩) m.length (caps 1)] [.gone,ros m] isTrue
     have h := feHV_ok s (caps 0) a m (caps 1)
     rw [feHV_eq] at h
     exact Call.ofVc feE_ok mixed (c := fhB) (inv := fun _ => none) Try.func5 (by kernel_rfl) h
   · show Call Try.prog 5 [.slice (some ⟨0,0,none⟩) l.length (caps 0),vi a,.slice none 0 0] [ros l] isTrue
     by_cases e : errA l a = 0
     · by_cases e0 : a = 0
       · have h := fzVN_ok l (caps 0) a e e0
         rw [fzVN_eq] at h
         exact Call.ofVc fzE_ok mixed (c := fhB) (inv := fun _ => none) Try.func5 (by kernel_rfl) h
       · have h := faVN_ok l (caps 0) a e (by have := (errA_0.1 e).2; omega)
         rw [faVN_eq] at h
         exact Call.ofVc faE_ok mixed (c := fhB) (inv := fun _ => none) Try.func5 (by kernel_rfl) h
     · have h := feVN_ok l (caps 0) a e
       rw [feVN_eq] at h
       exact Call.ofVc feE_ok mixed (c := fhB) (inv := fun _ => none) Try.func5 (by kernel_rfl) h
   · show Call Try.prog 5 [.slice (some ⟨0,0,none⟩) l.length (caps 0),vi a,.slice (some ⟨1,0,u⟩) 0 (caps 1)] [ros l,.gone] isTrue
     by_cases e : errA l a = 0
     · by_cases e0 : a = 0
       · have h := fzVH_ok l (caps 0) a u (caps 1) e e0
         rw [fzVH_eq] at h
         exact Call.ofVc fzE_ok mixed (c := fhB) (inv := fun _ => none) Try.func5 (by kernel_rfl) h
       · have h := faVH_ok l (caps 0) a u (caps 1) e (by have := (errA_0.1 e).2; omega)
         rw [faVH_eq] at h
         exact Call.ofVc faE_ok mixed (c := fhB) (inv := fun _ => none) Try.func5 (by kernel_rfl) h
     · have h := feVH_ok l (caps 0) a u (caps 1) e
       rw [feVH_eq] at h
       exact Call.ofVc feE_ok mixed (c := fhB) (inv := fun _ => none) Try.func5 (by kernel_rfl) h
   · show Call Try.prog 5 [.slice (some ⟨0,0,none⟩) l.length (caps 0),vi a,.slice (some ⟨1,0,none⟩) m.length (caps 1)] [ros l,ros m] isTrue
     by_cases e : errA l a = 0
     · by_cases e0 : a = 0
       · have h := fzVV_ok l (caps 0) a m (caps 1) e e0
         rw [fzVV_eq] at h
         exact Call.ofVc fzE_ok mixed (c := fhB) (inv := fun _ => none) Try.func5 (by kernel_rfl) h
       · have h := faVV_ok l (caps 0) a m (caps 1) e (by have := (errA_0.1 e).2; omega)
         rw [faVV_eq] at h
         exact Call.ofVc faE_ok mixed (c := fhB) (inv := fun _ => none) Try.func5 (by kernel_rfl) h
     · have h := feVV_ok l (caps 0) a m (caps 1) e
       rw [feVV_eq] at h
       exact Call.ofVc feE_ok mixed (c := fhB) (inv := fun _ => none) Try.func5 (by kernel_rfl) h
theorem heights_law {K : Type} : ∀ (H : Heap) (avs : List Value) (ds : List (DataW K)),Still H→ReadsAll Try.prog H Try.f5.params.toList avs ds→Call Try.prog 5 avs H fun v _ => v = .bool true :=
 law_of (ps := [.ints .i64,.int .i64,.ints .i64]) (by kernel_rfl) heights_small
end Go.Pier.Fl
