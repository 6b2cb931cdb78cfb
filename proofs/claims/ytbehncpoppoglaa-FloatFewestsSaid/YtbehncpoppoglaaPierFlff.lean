import Derived.Test.YtbehncpoppoglaaPierKF6
import Derived.Test.YtbehncpoppoglaaPierKF7
import Derived.KernelRfl
set_option linter.unusedSimpArgs false
set_option linter.unusedVariables false
set_option maxRecDepth 100000
namespace Go.Pier.Fl
open Go Go.Pier Go.Proofs
noncomputable def gaV0 (l:List Int) (a:Int):Array Value := ⟨[Value.slice none 0 0,vi (0:Int),vi (errA l a)]⟩
noncomputable def gaV1 (a:Int) := (!wiF (Arg.plain (vi (0:Int))).num (Arg.plain (vi (300:Int))).num [intOf (vi a)])
noncomputable def gaV2 (l:List Int) := (List.map (Value.int IntKind.i64) l)
noncomputable def gaV3 (l:List Int) (a:Int):Prop := (errA l a≠(0:Int)→Value.tuple ⟨[Value.slice none 0 0,vi (0:Int),vi (3:Int)]⟩=Value.tuple (gaV0 l a))
noncomputable def gaV4 (l:List Int) (a:Int):Prop := (errA l a≠(0:Int)→Value.tuple ⟨[Value.slice none 0 0,vi (0:Int),vi (0:Int)]⟩=Value.tuple (gaV0 l a))
noncomputable def gaV5 (l:List Int) (a:Int):Prop := (errA l a≠(0:Int)→Value.tuple ⟨[Value.slice none 0 0,vi (0:Int),vi (errC l)]⟩=Value.tuple (gaV0 l a))
noncomputable def gaV6 (a:Int):Prop := (([vi a]=[vi (intOf (vi a))]∧0+1≤1∧true=true)∧1≤1000000)
noncomputable def gaV :=
fun (l:List Int) (c:Nat) (a:Int)↦Ob (some (AObj.ro (gaV2 l))=some (AObj.ro (gaV2 l))∧l.length=l.length∧c=c∧l.length≤1000000)∧(Ob (errC l≠(0:Int))→((errC l==(0:Int))=true→Ob (gaV6 a)∧((gaV1 a)=true→(true=true→True∧Ob (gaV3 l a))∧(true=false→False))∧((gaV1 a)=false→((errC l !=(0:Int))=true→True∧Ob (gaV5 l a))∧((errC l !=(0:Int))=false→False)))∧((errC l==(0:Int))=false→((errC l !=(0:Int))=true→True∧Ob (gaV5 l a))∧((errC l !=(0:Int))=false→False)))∧(Ob (errC l=(0:Int))→∀ (zl:List Int),Ob (isZ zl)→(true=true→Ob (gaV6 a)∧((gaV1 a)=true→(true=true→True∧Ob (gaV3 l a))∧(true=false→False))∧((gaV1 a)=false→(false=true→True∧Ob (gaV4 l a))∧(false=false→Ob (AtZ l c [AObj.ro (gaV2 l),AObj.rw (Value.slice (some (ad0 0)) l.length c::List.map (Value.int IntKind.i64) zl) none,AObj.rw [vi a] none]∧Coins l∧(0:Int)≤a∧a≤(100000:Int))∧Ob (0+5≤5)∧Ob ((true=true∧Flat (gaV2 l))∧okC (Leaf.view (gaV2 l) l.length false))∧True∧Ob (errA l a≠(0:Int)→Value.tuple ⟨[Value.slice (some ⟨4,0,some 0⟩) l.length 0,vi (grF l a l.length).snd,vi (0:Int)]⟩=Value.tuple (gaV0 l a)))))∧(true=false→(false=true→True∧Ob (gaV4 l a))∧(false=false→Ob (AtZ l c [AObj.ro (gaV2 l),AObj.rw (Value.slice (some (ad0 0)) l.length c::List.map (Value.int IntKind.i64) zl) none]∧Coins l∧(0:Int)≤a∧a≤(100000:Int))∧Ob (0+5≤5)∧Ob ((true=true∧Flat (gaV2 l))∧okC (Leaf.view (gaV2 l) l.length false))∧True∧Ob (errA l a≠(0:Int)→Value.tuple ⟨[Value.slice (some ⟨3,0,some 0⟩) l.length 0,vi (grF l a l.length).snd,vi (0:Int)]⟩=Value.tuple (gaV0 l a)))))
theorem gaV_eq : gaV = fun (l : List Int) (c : Nat) (a : Int) => vc Try.prog (gdE l c) 1 33 true (fun _ => none) gdB [] (argFr 0 [.slice (some ⟨0,0,none⟩) l.length c,vi a]) [ros l] (retK Try.prog Try.f28 (fun v H => errA l a ≠ 0→v = .tuple #[.slice none 0 0,vi 0,vi (errA l a)])) := by kernel_rfl
noncomputable def gaN0  : Array Value := { toList := [Value.slice none (0 : Nat) (0 : Nat),vi (0 : Int),vi (6 : Int)] }
noncomputable def gaN1 (a:Int) := (!wiF (Arg.plain (vi (0:Int))).num (Arg.plain (vi (300:Int))).num [intOf (vi a)])
noncomputable def gaN :=
fun (a:Int)↦Ob True∧(false=true→Ob (([vi a]=[vi (intOf (vi a))]∧1≤1∧true=true)∧1≤1000000)∧((gaN1 a)=true→(true=true→True∧Ob (Value.tuple ⟨[Value.slice none 0 0,vi (0:Int),vi (3:Int)]⟩=Value.tuple gaN0))∧(true=false→False))∧((gaN1 a)=false→(true=true→True∧Ob (Value.tuple gaN0=Value.tuple gaN0))∧(true=false→False)))∧(false=false→(true=true→True∧Ob (Value.tuple gaN0=Value.tuple gaN0))∧(true=false→False))
theorem gaN_eq : gaN = fun (a : Int) => vc Try.prog fnE 0 33 true (fun _ => none) gdB [] (argFr 0 [.slice none 0 0,vi a]) [] (retK Try.prog Try.f28 (fun v H => v = .tuple #[.slice none 0 0,vi 0,vi 6])) := by kernel_rfl
noncomputable def gaH0  : Array Value := { toList := [Value.slice none (0 : Nat) (0 : Nat),vi (0 : Int),vi (6 : Int)] }
noncomputable def gaH1 (a:Int) := (!wiF (Arg.plain (vi (0:Int))).num (Arg.plain (vi (300:Int))).num [intOf (vi a)])
noncomputable def gaH :=
fun (s:Option Nat) (c:Nat) (a:Int)↦Ob True∧(false=true→Ob (([vi a]=[vi (intOf (vi a))]∧1≤1∧true=true)∧1≤1000000)∧((gaH1 a)=true→(true=true→True∧Ob (Value.tuple ⟨[Value.slice none 0 0,vi (0:Int),vi (3:Int)]⟩=Value.tuple gaH0))∧(true=false→False))∧((gaH1 a)=false→(true=true→True∧Ob (Value.tuple gaH0=Value.tuple gaH0))∧(true=false→False)))∧(false=false→(true=true→True∧Ob (Value.tuple gaH0=Value.tuple gaH0))∧(true=false→False))
theorem gaH_eq : gaH = fun (s : Option Nat) (c : Nat) (a : Int) => vc Try.prog fnE 1 33 true (fun _ => none) gdB [] (argFr 0 [.slice (some ⟨0,0,s⟩) 0 c,vi a]) [.gone] (retK Try.prog Try.f28 (fun v H => v = .tuple #[.slice none 0 0,vi 0,vi 6])) := by kernel_rfl
noncomputable def geE : VEnv := { ct := (Ct.none.add 69 (pureG [.ints .i64,.int .i64] raS)).add 75 (born3 [.one (.rows [.i .i64] false),.one (.int .i64)] rgS) }
noncomputable def geB : Code := Try.f29.body.getD .skip
noncomputable def geV0 (l:List Int) := (List.take l.length (List.drop 0 (intsOf (List.map (Value.int IntKind.i64) l))))
noncomputable def geV1 (l:List Int):Prop := ((List.take l.length (List.drop 0 (List.map (Value.int IntKind.i64) l))=List.map (Value.int IntKind.i64) (geV0 l)∧0+l.length≤(List.map (Value.int IntKind.i64) l).length∧true=true)∧(geV0 l).length≤1000000)
noncomputable def geV :=
fun (l:List Int) (c:Nat) (a:Int)↦Ob (geV1 l)∧((errA (geV0 l) a !=(0:Int))=true→Ob (geV1 l)∧True∧Ob (errA l a≠(0:Int)→Value.tuple ⟨[Value.slice none 0 0,vi (0:Int),vi (errA (geV0 l) a)]⟩=Value.tuple ⟨[Value.slice none 0 0,vi (0:Int),vi (errA l a)]⟩))∧((errA (geV0 l) a !=(0:Int))=false→Ob ((true=true∧Flat (List.map (Value.int IntKind.i64) l))∧okW a (Leaf.view (List.map (Value.int IntKind.i64) l) l.length false))∧True∧Ob (errA l a≠(0:Int)→Value.tuple ⟨[Value.slice (some (ad0 1)) l.length l.length,vi (grF (intsOf (List.map (Value.int IntKind.i64) l)) a l.length).snd,vi (0:Int)]⟩=Value.tuple ⟨[Value.slice none 0 0,vi (0:Int),vi (errA l a)]⟩))
theorem geV_eq : geV = fun (l : List Int) (c : Nat) (a : Int) => vc Try.prog geE 1 24 true (fun _ => none) geB [] (argFr 0 [.slice (some ⟨0,0,none⟩) l.length c,vi a]) [ros l] (retK Try.prog Try.f29 (fun v H => errA l a ≠ 0→v = .tuple #[.slice none 0 0,vi 0,vi (errA l a)])) := by kernel_rfl
noncomputable def geO0 (l:List Int) := (List.map (Value.int IntKind.i64) l)
noncomputable def geO1 (l:List Int) := (List.take l.length (List.drop 0 (intsOf (geO0 l))))
noncomputable def geO2 (l:List Int):Prop := ((List.take l.length (List.drop 0 (geO0 l))=List.map (Value.int IntKind.i64) (geO1 l)∧0+l.length≤(geO0 l).length∧true=true)∧(geO1 l).length≤1000000)
noncomputable def geO3 (l:List Int) (a:Int):Array Value := ⟨[Value.slice (some (ad0 1)) l.length l.length,vi (grF l a l.length).snd,vi (0:Int)]⟩
noncomputable def geO :=
fun (l:List Int) (c:Nat) (a:Int)↦Ob (geO2 l)∧((errA (geO1 l) a !=(0:Int))=true→Ob (geO2 l)∧(Ob (AObj.ro (geO0 l)=AObj.ro (List.map (nmap1 fun (b:Nat)↦b) (geO0 l))∧AObj.sc 2 (AObj.ro (geO0 l))=true)∧False)∧Ob (Value.tuple ⟨[Value.slice none 0 0,vi (0:Int),vi (errA (geO1 l) a)]⟩=Value.tuple (geO3 l a))∧True)∧((errA (geO1 l) a !=(0:Int))=false→Ob ((true=true∧Flat (geO0 l))∧okW a (Leaf.view (geO0 l) l.length false))∧(Ob (AObj.ro (geO0 l)=AObj.ro (List.map (nmap1 fun (b:Nat)↦b) (geO0 l))∧AObj.sc 2 (AObj.ro (geO0 l))=true)∧Ob (AObj.rw (List.map (Value.int IntKind.i64) (greL (intsOf (geO0 l)) a)) none=AObj.rw (List.map (nmap1 fun (b:Nat)↦b) (List.map (Value.int IntKind.i64) (greL l a))) none∧AObj.sc 2 (AObj.rw (List.map (Value.int IntKind.i64) (greL l a)) none)=true)∧True)∧Ob (Value.tuple ⟨[Value.slice (some (ad0 1)) l.length l.length,vi (grF (intsOf (geO0 l)) a l.length).snd,vi (0:Int)]⟩=Value.tuple (geO3 l a))∧True)
noncomputable def geN0  : Array Value := { toList := [Value.slice none (0 : Nat) (0 : Nat),vi (0 : Int),vi (6 : Int)] }
noncomputable def geN :=
fun (a:Int)↦Ob True∧(true=true→Ob True∧True∧Ob (Value.tuple geN0=Value.tuple geN0))∧(true=false→False)
theorem geN_eq : geN = fun (a : Int) => vc Try.prog geE 0 24 true (fun _ => none) geB [] (argFr 0 [.slice none 0 0,vi a]) [] (retK Try.prog Try.f29 (fun v H => v = .tuple #[.slice none 0 0,vi 0,vi 6])) := by kernel_rfl
noncomputable def geH0  : Array Value := { toList := [Value.slice none (0 : Nat) (0 : Nat),vi (0 : Int),vi (6 : Int)] }
noncomputable def geH :=
fun (s:Option Nat) (c:Nat) (a:Int)↦Ob True∧(true=true→Ob True∧True∧Ob (Value.tuple geH0=Value.tuple geH0))∧(true=false→False)
theorem geH_eq : geH = fun (s : Option Nat) (c : Nat) (a : Int) => vc Try.prog geE 1 24 true (fun _ => none) geB [] (argFr 0 [.slice (some ⟨0,0,s⟩) 0 c,vi a]) [.gone] (retK Try.prog Try.f29 (fun v H => v = .tuple #[.slice none 0 0,vi 0,vi 6])) := by kernel_rfl
def geS (r : List Arg) : Prop × Value := match r with
 | [.ints _ l,.plain (.int .i64 a)] => (l.length≤1000000∧errA l a ≠ 0,.tuple #[.slice none 0 0,vi 0,vi (errA l a)])
 | [_,.plain (.int .i64 _)] => (True,.tuple #[.slice none 0 0,vi 0,vi 6])
 | _ => (False,undef)
def goS : List Arg3→Option Born
 | [.one (.view cs n r),.one (.plain (.int .i64 a))] => some ⟨okW a (.view cs n r),fun b => .tuple #[.slice (some ⟨b,0,none⟩) n n,vi (grF (intsOf cs) a n).2,vi 0],[.rw ((greL (intsOf cs) a).map (.int .i64)) none]⟩
 | _ => none
noncomputable def ffT : Ct := ((((Ct.none.add 19 (pureG [] worksS)).add 24 (pureG [.ints .i64,.int .i64] fwS)).add 25 (pureG [.ints .i64,.int .i64] fwS)).add 30 (pureG [.ints .i64,.ints .i64] lsS))
noncomputable def f1E : VEnv := { ct := (((ffT.add 26 (pureG [.ints .i64,.int .i64] xgES)).add 27 (pureG [.ints .i64,.int .i64] xgES)).add 28 (pureG [.ints .i64,.int .i64] geS)).add 29 (pureG [.ints .i64,.int .i64] geS),cc := ccIn Try.prog {} [⟨18,Try.f18,fun _ _ _ => none⟩] }
noncomputable def f2E : VEnv := { ct := (((ffT.add 26 (pureG [.ints .i64,.int .i64] xgES)).add 27 (pureG [.ints .i64,.int .i64] xgES)).add 28 (newG [.ints .i64,.int .i64] gdOS)).add 29 (born3 [.one (.rows [.i .i64] false),.one (.int .i64)] goS),cc := ccIn Try.prog {} [⟨18,Try.f18,fun _ _ _ => none⟩] }
noncomputable def f3E : VEnv := { ct := (((ffT.add 26 (newG [.ints .i64,.int .i64] xgOS)).add 27 (freshC [.ints .i64,.int .i64] rfOS)).add 28 (newG [.ints .i64,.int .i64] gdOS)).add 29 (born3 [.one (.rows [.i .i64] false),.one (.int .i64)] goS),cc := ccIn Try.prog {} [⟨18,Try.f18,fun _ _ _ => none⟩] }
noncomputable def ffB : Code := Try.f4.body.getD .skip
noncomputable def ffK : KD := retK Try.prog Try.f4 isTrue
noncomputable def f1V0 (l:List Int) := (List.take l.length (List.drop 0 (intsOf (List.map (Value.int IntKind.i64) l))))
noncomputable def f1V1 (l:List Int):Prop := (List.take l.length (List.drop 0 (List.map (Value.int IntKind.i64) l))=List.map (Value.int IntKind.i64) (f1V0 l)∧0+l.length≤(List.map (Value.int IntKind.i64) l).length∧true=true)
noncomputable def f1V2 (l:List Int) := (isTrue (Value.bool false) [AObj.ro (List.map (Value.int IntKind.i64) l)])
noncomputable def f1V3 (l:List Int) (a:Int):Bool := (errN (f1V0 l) a==errN (f1V0 l) a)
noncomputable def f1V :=
fun (l:List Int) (c:Nat) (a:Int)↦(decide ((10:Int)<(l.length:Int))=true→Ob True∧True∧Ob (isTrue (Value.bool true) [AObj.ro (List.map (Value.int IntKind.i64) l)]))∧(decide ((10:Int)<(l.length:Int))=false→Ob ((f1V1 l)∧(f1V0 l).length≤1000000)∧Ob ((f1V1 l)∧(f1V0 l).length≤1000000)∧Ob ((f1V1 l)∧(f1V0 l).length≤1000000∧errN (f1V0 l) a≠(0:Int))∧Ob ((f1V1 l)∧(f1V0 l).length≤1000000∧errN (f1V0 l) a≠(0:Int))∧Ob ((f1V1 l)∧(f1V0 l).length≤1000000∧errA (f1V0 l) a≠(0:Int))∧Ob ((f1V1 l)∧(f1V0 l).length≤1000000∧errA (f1V0 l) a≠(0:Int))∧((fewF (f1V0 l) a==fewF (f1V0 l) a)=true→((f1V3 l a)=true→Ob True∧(true=true→((f1V3 l a)=true→Ob True∧(true=true→(true=true→((errA (f1V0 l) a==errA (f1V0 l) a)=true→Ob True∧True∧Ob (isTrue (Value.bool true) [AObj.ro (List.map (Value.int IntKind.i64) l)]))∧((errA (f1V0 l) a==errA (f1V0 l) a)=false→True∧Ob (f1V2 l)))∧(true=false→True∧Ob (f1V2 l)))∧(true=false→True∧Ob (f1V2 l)))∧((f1V3 l a)=false→True∧Ob (f1V2 l)))∧(true=false→True∧Ob (f1V2 l)))∧((f1V3 l a)=false→True∧Ob (f1V2 l)))∧((fewF (f1V0 l) a==fewF (f1V0 l) a)=false→True∧Ob (f1V2 l)))
theorem f1V_eq : f1V = fun (l : List Int) (c : Nat) (a : Int) => vc Try.prog f1E 1 96 true (fun _ => none) ffB [] (argFr 0 [.slice (some ⟨0,0,none⟩) l.length c,vi a]) [ros l] ffK := by kernel_rfl
noncomputable def f2V0 (l:List Int) := (List.take l.length (List.drop 0 (intsOf (List.map (Value.int IntKind.i64) l))))
noncomputable def f2V1 (l:List Int) (a:Int):List AObj := [AObj.ro (List.map (Value.int IntKind.i64) l),AObj.rw (List.map (Value.int IntKind.i64) (greL (f2V0 l) a)) (some 1),AObj.rw (List.map (Value.int IntKind.i64) (greL (intsOf (List.map (Value.int IntKind.i64) l)) a)) none]
noncomputable def f2V2 (l:List Int):Prop := (List.take l.length (List.drop 0 (List.map (Value.int IntKind.i64) l))=List.map (Value.int IntKind.i64) (f2V0 l)∧0+l.length≤(List.map (Value.int IntKind.i64) l).length∧true=true)
noncomputable def f2V3  := (Value.int IntKind.i64)
noncomputable def f2V4 (l:List Int) (a:Int):Bool := (List.take (greL (f2V0 l) a).length (List.drop 0 (intsOf (List.map f2V3 (greL (f2V0 l) a))))==List.take l.length (List.drop 0 (intsOf (List.map f2V3 (greL (intsOf (List.map f2V3 l)) a)))))
noncomputable def f2V5 (l:List Int) (a:Int) := (isTrue (Value.bool false) (f2V1 l a))
noncomputable def f2V6 (l:List Int) (a:Int) := (List.take (greL (f2V0 l) a).length (List.drop 0 (intsOf (List.map f2V3 (greL (f2V0 l) a)))))
noncomputable def f2V7 (l:List Int) (a:Int) := (List.map f2V3 (greL (intsOf (List.map f2V3 l)) a))
noncomputable def f2V8 (l:List Int) (a:Int):Bool := (errN (f2V0 l) a==errN (f2V0 l) a)
noncomputable def f2V9 (l:List Int) (a:Int):Bool := ((grF (f2V0 l) a (f2V0 l).length).snd==(grF (intsOf (List.map f2V3 l)) a l.length).snd)
noncomputable def f2V :=
fun (l:List Int) (c:Nat) (a:Int)↦(decide ((10:Int)<(l.length:Int))=true→Ob True∧True∧Ob (isTrue (Value.bool true) [AObj.ro (List.map f2V3 l)]))∧(decide ((10:Int)<(l.length:Int))=false→Ob ((f2V2 l)∧(f2V0 l).length≤1000000)∧Ob ((f2V2 l)∧(f2V0 l).length≤1000000)∧Ob ((f2V2 l)∧(f2V0 l).length≤1000000∧errN (f2V0 l) a≠(0:Int))∧Ob ((f2V2 l)∧(f2V0 l).length≤1000000∧errN (f2V0 l) a≠(0:Int))∧Ob ((f2V2 l)∧errA (f2V0 l) a=(0:Int))∧Ob ((true=true∧Flat (List.map f2V3 l))∧okW a (Leaf.view (List.map f2V3 l) l.length false))∧((fewF (f2V0 l) a==fewF (f2V0 l) a)=true→((f2V8 l a)=true→Ob True∧(true=true→((f2V8 l a)=true→Ob (((List.take (greL (f2V0 l) a).length (List.drop 0 (List.map f2V3 (greL (f2V0 l) a)))=List.map f2V3 (f2V6 l a)∧0+(greL (f2V0 l) a).length≤(List.map f2V3 (greL (f2V0 l) a)).length∧true=true)∧List.take l.length (List.drop 0 (f2V7 l a))=List.map f2V3 (List.take l.length (List.drop 0 (intsOf (f2V7 l a))))∧0+l.length≤(f2V7 l a).length∧true=true)∧(f2V6 l a).length≤1000)∧((f2V4 l a)=true→((f2V9 l a)=true→(true=true→Ob True∧True∧Ob (isTrue (Value.bool true) (f2V1 l a)))∧(true=false→True∧Ob (f2V5 l a)))∧((f2V9 l a)=false→True∧Ob (f2V5 l a)))∧((f2V4 l a)=false→True∧Ob (f2V5 l a)))∧((f2V8 l a)=false→True∧Ob (f2V5 l a)))∧(true=false→True∧Ob (f2V5 l a)))∧((f2V8 l a)=false→True∧Ob (f2V5 l a)))∧((fewF (f2V0 l) a==fewF (f2V0 l) a)=false→True∧Ob (f2V5 l a)))
theorem f2V_eq : f2V = fun (l : List Int) (c : Nat) (a : Int) => vc Try.prog f2E 1 96 true (fun _ => none) ffB [] (argFr 0 [.slice (some ⟨0,0,none⟩) l.length c,vi a]) [ros l] ffK := by kernel_rfl
noncomputable def f3V0 (l:List Int) := (List.take l.length (List.drop 0 (intsOf (List.map (Value.int IntKind.i64) l))))
noncomputable def f3V1 (l:List Int) (a:Int):List AObj := [AObj.ro (List.map (Value.int IntKind.i64) l),AObj.rw (List.map (Value.int IntKind.i64) (bestL (f3V0 l) a)) (some 1),AObj.rw (List.map (Value.int IntKind.i64) (bestL (f3V0 l) a)) (some 1),AObj.rw (List.map (Value.int IntKind.i64) (greL (f3V0 l) a)) (some 1),AObj.rw (List.map (Value.int IntKind.i64) (greL (intsOf (List.map (Value.int IntKind.i64) l)) a)) none]
noncomputable def f3V2 (l:List Int):Prop := (List.take l.length (List.drop 0 (List.map (Value.int IntKind.i64) l))=List.map (Value.int IntKind.i64) (f3V0 l)∧0+l.length≤(List.map (Value.int IntKind.i64) l).length∧true=true)
noncomputable def f3V3  := (Value.int IntKind.i64)
noncomputable def f3V4 (l:List Int) (a:Int) := (List.drop 0 (intsOf (List.map f3V3 (bestL (f3V0 l) a))))
noncomputable def f3V5 (l:List Int) (a:Int):Bool := (List.take (greL (f3V0 l) a).length (List.drop 0 (intsOf (List.map f3V3 (greL (f3V0 l) a))))==List.take l.length (List.drop 0 (intsOf (List.map f3V3 (greL (intsOf (List.map f3V3 l)) a)))))
noncomputable def f3V6 (l:List Int) (a:Int) := (isTrue (Value.bool false) (f3V1 l a))
noncomputable def f3V7 (l:List Int) (a:Int) := (List.take (greL (f3V0 l) a).length (List.drop 0 (intsOf (List.map f3V3 (greL (f3V0 l) a)))))
noncomputable def f3V8 (l:List Int) (a:Int) := (List.map f3V3 (greL (intsOf (List.map f3V3 l)) a))
noncomputable def f3V9 (l:List Int) (a:Int):Bool := (List.take (bestL (f3V0 l) a).length (f3V4 l a)==List.take (f3V0 l).length (f3V4 l a))
noncomputable def f3V10 (l:List Int) (a:Int):Bool := ((grF (f3V0 l) a (f3V0 l).length).snd==(grF (intsOf (List.map f3V3 l)) a l.length).snd)
noncomputable def f3V :=
fun (l:List Int) (c:Nat) (a:Int)↦(decide ((10:Int)<(l.length:Int))=true→Ob True∧True∧Ob (isTrue (Value.bool true) [AObj.ro (List.map f3V3 l)]))∧(decide ((10:Int)<(l.length:Int))=false→Ob ((f3V2 l)∧(f3V0 l).length≤1000000)∧Ob ((f3V2 l)∧(f3V0 l).length≤1000000)∧Ob ((f3V2 l)∧errN (f3V0 l) a=(0:Int))∧Ob ((f3V2 l)∧l.length≤c∧errN (f3V0 l) a=(0:Int))∧Ob ((f3V2 l)∧errA (f3V0 l) a=(0:Int))∧Ob ((true=true∧Flat (List.map f3V3 l))∧okW a (Leaf.view (List.map f3V3 l) l.length false))∧((fewF (f3V0 l) a==fewF (f3V0 l) a)=true→((errN (f3V0 l) a==errN (f3V0 l) a)=true→Ob (((List.take (bestL (f3V0 l) a).length (List.drop 0 (List.map f3V3 (bestL (f3V0 l) a)))=List.map f3V3 (List.take (bestL (f3V0 l) a).length (f3V4 l a))∧0+(bestL (f3V0 l) a).length≤(List.map f3V3 (bestL (f3V0 l) a)).length∧true=true)∧List.take (f3V0 l).length (List.drop 0 (List.map f3V3 (bestL (f3V0 l) a)))=List.map f3V3 (List.take (f3V0 l).length (f3V4 l a))∧0+(f3V0 l).length≤(List.map f3V3 (bestL (f3V0 l) a)).length∧true=true)∧(List.take (bestL (f3V0 l) a).length (f3V4 l a)).length≤1000)∧((f3V9 l a)=true→(true=true→Ob (((List.take (greL (f3V0 l) a).length (List.drop 0 (List.map f3V3 (greL (f3V0 l) a)))=List.map f3V3 (f3V7 l a)∧0+(greL (f3V0 l) a).length≤(List.map f3V3 (greL (f3V0 l) a)).length∧true=true)∧List.take l.length (List.drop 0 (f3V8 l a))=List.map f3V3 (List.take l.length (List.drop 0 (intsOf (f3V8 l a))))∧0+l.length≤(f3V8 l a).length∧true=true)∧(f3V7 l a).length≤1000)∧((f3V5 l a)=true→((f3V10 l a)=true→(true=true→Ob True∧True∧Ob (isTrue (Value.bool true) (f3V1 l a)))∧(true=false→True∧Ob (f3V6 l a)))∧((f3V10 l a)=false→True∧Ob (f3V6 l a)))∧((f3V5 l a)=false→True∧Ob (f3V6 l a)))∧(true=false→True∧Ob (f3V6 l a)))∧((f3V9 l a)=false→True∧Ob (f3V6 l a)))∧((errN (f3V0 l) a==errN (f3V0 l) a)=false→True∧Ob (f3V6 l a)))∧((fewF (f3V0 l) a==fewF (f3V0 l) a)=false→True∧Ob (f3V6 l a)))
theorem f3V_eq : f3V = fun (l : List Int) (c : Nat) (a : Int) => vc Try.prog f3E 1 96 true (fun _ => none) ffB [] (argFr 0 [.slice (some ⟨0,0,none⟩) l.length c,vi a]) [ros l] ffK := by kernel_rfl
noncomputable def f1N0  := (isTrue (Value.bool false) [])
noncomputable def f1N :=
fun (a:Int)↦(false=true→Ob True∧True∧Ob (isTrue (Value.bool true) []))∧(false=false→Ob True∧Ob True∧Ob True∧Ob True∧Ob True∧Ob True∧(true=true→(true=true→Ob True∧(true=true→(true=true→Ob True∧(true=true→(true=true→(true=true→Ob True∧True∧Ob (isTrue (Value.bool true) []))∧(true=false→True∧Ob f1N0))∧(true=false→True∧Ob f1N0))∧(true=false→True∧Ob f1N0))∧(true=false→True∧Ob f1N0))∧(true=false→True∧Ob f1N0))∧(true=false→True∧Ob f1N0))∧(true=false→True∧Ob f1N0))
theorem f1N_eq : f1N = fun (a : Int) => vc Try.prog f1E 0 96 true (fun _ => none) ffB [] (argFr 0 [.slice none 0 0,vi a]) [] ffK := by kernel_rfl
noncomputable def f1H0  := (isTrue (Value.bool false) [AObj.gone])
noncomputable def f1H :=
fun (s:Option Nat) (c:Nat) (a:Int)↦(false=true→Ob True∧True∧Ob (isTrue (Value.bool true) [AObj.gone]))∧(false=false→Ob True∧Ob True∧Ob True∧Ob True∧Ob True∧Ob True∧(true=true→(true=true→Ob True∧(true=true→(true=true→Ob True∧(true=true→(true=true→(true=true→Ob True∧True∧Ob (isTrue (Value.bool true) [AObj.gone]))∧(true=false→True∧Ob f1H0))∧(true=false→True∧Ob f1H0))∧(true=false→True∧Ob f1H0))∧(true=false→True∧Ob f1H0))∧(true=false→True∧Ob f1H0))∧(true=false→True∧Ob f1H0))∧(true=false→True∧Ob f1H0))
theorem f1H_eq : f1H = fun (s : Option Nat) (c : Nat) (a : Int) => vc Try.prog f1E 1 96 true (fun _ => none) ffB [] (argFr 0 [.slice (some ⟨0,0,s⟩) 0 c,vi a]) [.gone] ffK := by kernel_rfl
theorem tri_eq {x y : Int} (h : x = y) : ({ toList := [Value.slice none 0 0,vi 0,vi x] } : Array Value) = { toList := [Value.slice none 0 0,vi 0,vi y] } := by rw [h]
theorem okW_of {l : List Int} {a : Int} (h0 : errA l a = 0) {r : Bool} : okW a (Leaf.view (List.map (Value.int .i64) l) l.length r) := by
 obtain ⟨he,hr⟩ := errA_0.1 h0
 exact ⟨by rw [intsOf_map],by simp,by rw [intsOf_map]; exact errC_ok.1 he,hr⟩
theorem gaV_ok (l : List Int) (c : Nat) (a : Int) (hl : l.length≤1000000) : gaV l c a := by
 unfold gaV gaV6 gaV5 gaV4 gaV3 gaV2 gaV1 gaV0
 simp only [SS,reduceCtorEq,Arg.list,Arg.num,Arg.flag,intOf,andP,Nat.reduceLeDiff,Nat.reduceAdd,Nat.reduceMul,Nat.reduceLT,til_sc,nm_sl]
 refine ⟨hl,fun he => ⟨fun h => absurd h he,fun _ => ⟨fun _ _ => tri_eq (errA_c he).symm,fun h => he h⟩⟩,fun he zl hz => ⟨fun h _ => tri_eq (errA_3 he ((wi_300 h).2 rfl)).symm,fun h => ?_⟩⟩
 have hr := (wi_300 h).1 rfl
 have hc := errC_ok.1 he
 exact ⟨⟨at_z,hc,by omega,by omega⟩,⟨all_sc_int,okC_of hc⟩,fun k => absurd (errA_0.2 ⟨he,hr⟩) k⟩
theorem gaN_ok (a : Int) : gaN a := by
 unfold gaN gaN1 gaN0
 simp only [SS,reduceCtorEq,Arg.list,Arg.num,Arg.flag,intOf,andP,Nat.reduceLeDiff,Nat.reduceAdd,Nat.reduceMul,Nat.reduceLT]
theorem gaH_ok (s : Option Nat) (c : Nat) (a : Int) : gaH s c a := by
 unfold gaH gaH1 gaH0
 simp only [SS,reduceCtorEq,Arg.list,Arg.num,Arg.flag,intOf,andP,Nat.reduceLeDiff,Nat.reduceAdd,Nat.reduceMul,Nat.reduceLT]
theorem geV_ok (l : List Int) (c : Nat) (a : Int) (hl : l.length≤1000000) : geV l c a := by
 unfold geV geV1 geV0
 simp only [SS,reduceCtorEq,Arg.list,Arg.num,Arg.flag,intOf,andP,Nat.reduceLeDiff,Nat.reduceAdd,Nat.reduceMul,Nat.reduceLT]
 exact ⟨hl,fun _ => hl,fun h => ⟨⟨all_sc_int,okW_of h⟩,fun k => absurd h k⟩⟩
theorem geO_ok (l : List Int) (c : Nat) (a : Int) (h0 : errA l a = 0) : geO l c a := by
 unfold geO geO3 geO2 geO1 geO0
 simp only [SS,reduceCtorEq,Arg.list,Arg.num,Arg.flag,intOf,andP,Nat.reduceLeDiff,Nat.reduceAdd,Nat.reduceMul,Nat.reduceLT]
 have := (errC_ok.1 (errA_0.1 h0).1).few
 exact ⟨by omega,fun h => h h0,fun h => ⟨all_sc_int,okW_of h⟩⟩
theorem geN_ok (a : Int) : geN a := by
 unfold geN geN0
 simp only [SS,reduceCtorEq,Arg.list,Arg.num,Arg.flag,intOf,andP,Nat.reduceLeDiff,Nat.reduceAdd,Nat.reduceMul,Nat.reduceLT]
theorem geH_ok (s : Option Nat) (c : Nat) (a : Int) : geH s c a := by
 unfold geH geH0
 simp only [SS,reduceCtorEq,Arg.list,Arg.num,Arg.flag,intOf,andP,Nat.reduceLeDiff,Nat.reduceAdd,Nat.reduceMul,Nat.reduceLT]
theorem gaG_ok : ∀ args H φ v H' l,pureG [.ints .i64,.int .i64] geS args H = some (φ,v,H',l)→Asks φ→Call Try.prog 28 args H (fun v' H2 => v' = v∧H2 = H')∧Kept H H' l :=
 pureG_ok fun r hk hs => match r,hk with
   | [_,_],⟨hl,⟨a,ha⟩,_⟩ => by
     subst ha
     rcases hl with rfl | ⟨s,rfl⟩ | ⟨l,rfl⟩
     · exact ⟨by simp [geS,sc,sc2,sc1,sc0],fun caps => Call.ofVc fnE_ok mixed (c := gdB) (inv := fun _ => none) Try.func28 (by kernel_rfl) (cast (congrFun gaN_eq a) (gaN_ok a))⟩
     · exact ⟨by simp [geS,sc,sc2,sc1,sc0],fun caps => Call.ofVc fnE_ok mixed (c := gdB) (inv := fun _ => none) Try.func28 (by kernel_rfl) (cast (congrFun (congrFun (congrFun gaH_eq s) (caps 0)) a) (gaH_ok s _ a))⟩
     · refine ⟨by simp [geS,sc,sc2,sc1,sc0],fun caps => ?_⟩
       have h := Call.ofVc (E := gdE l (caps 0)) (H := [ros l]) (args := [.slice (some ⟨0,0,none⟩) l.length (caps 0),vi a]) (R := fun v _ => errA l a ≠ 0→v = .tuple #[.slice none 0 0,vi 0,vi (errA l a)]) gdE_ok mixed (c := gdB) (inv := fun _ => none) Try.func28 (by kernel_rfl) (cast (congrFun (congrFun (congrFun gaV_eq l) (caps 0)) a) (gaV_ok l _ a hs.1))
       exact h.mono fun v H h => h hs.2
theorem geE_ok : VOk Try.prog geE := VOk.ofCt ((CtOk.none.add raG_ok).add rgG_ok)
theorem geG_ok : ∀ args H φ v H' l,pureG [.ints .i64,.int .i64] geS args H = some (φ,v,H',l)→Asks φ→Call Try.prog 29 args H (fun v' H2 => v' = v∧H2 = H')∧Kept H H' l :=
 pureG_ok fun r hk hs => match r,hk with
   | [_,_],⟨hl,⟨a,ha⟩,_⟩ => by
     subst ha
     rcases hl with rfl | ⟨s,rfl⟩ | ⟨l,rfl⟩
     · exact ⟨by simp [geS,sc,sc2,sc1,sc0],fun caps => Call.ofVc geE_ok mixed (c := geB) (inv := fun _ => none) Try.func29 (by kernel_rfl) (cast (congrFun geN_eq a) (geN_ok a))⟩
     · exact ⟨by simp [geS,sc,sc2,sc1,sc0],fun caps => Call.ofVc geE_ok mixed (c := geB) (inv := fun _ => none) Try.func29 (by kernel_rfl) (cast (congrFun (congrFun (congrFun geH_eq s) (caps 0)) a) (geH_ok s _ a))⟩
     · refine ⟨by simp [geS,sc,sc2,sc1,sc0],fun caps => ?_⟩
       have h := Call.ofVc (E := geE) (H := [ros l]) (args := [.slice (some ⟨0,0,none⟩) l.length (caps 0),vi a]) (R := fun v _ => errA l a ≠ 0→v = .tuple #[.slice none 0 0,vi 0,vi (errA l a)]) geE_ok mixed (c := geB) (inv := fun _ => none) Try.func29 (by kernel_rfl) (cast (congrFun (congrFun (congrFun geV_eq l) (caps 0)) a) (geV_ok l _ a hs.1))
       exact h.mono fun v H h => h hs.2
theorem go_call (l : List Int) (c : Nat) (a : Int) (h0 : errA l a = 0) : Call Try.prog 29 [.slice (some ⟨0,0,none⟩) l.length c,vi a] [ros l] fun v H' => v = .tuple #[.slice (some ⟨1,0,none⟩) l.length l.length,vi (grF l a l.length).2,vi 0]∧H' = [ros l] ++ [.rw ((greL l a).map (.int .i64)) none] :=
 Call.ofVcR (E := geE) (H := [ros l]) (args := [.slice (some ⟨0,0,none⟩) l.length c,vi a]) (σ := fun b => b) (v2 := .tuple #[.slice (some ⟨1,0,none⟩) l.length l.length,vi (grF l a l.length).2,vi 0]) (H2 := [ros l,.rw ((greL l a).map (.int .i64)) none]) geE_ok mixed (c := geB) (inv := fun _ => none) Try.func29 (by kernel_rfl) (cast (by kernel_rfl) (geO_ok l c a h0))
theorem goG_ok : ∀ args H φ v H' l,born3 [.one (.rows [.i .i64] false),.one (.int .i64)] goS args H = some (φ,v,H',l)→Asks φ→Call Try.prog 29 args H (fun v' H2 => v' = v∧H2 = H')∧Kept H H' l :=
 born3_ok fun r s hk hs hψ => match r,hk with
   | [.one x,.one y],⟨hx,⟨a,hy⟩,_⟩ => by
     subst hy
     rcases hx with rfl | ⟨s,rfl⟩ | ⟨cs,n,rfl⟩
     · cases hs
     · cases hs
     · cases hs
       obtain ⟨k1,k2,k3,k4⟩ := hψ
       have kl : (intsOf cs).length = n := by rw [intsOf,List.length_map]; exact k2
       have ke : AObj.ro cs = ros (intsOf cs) := by show AObj.ro cs = .ro ((intsOf cs).map (.int .i64)); rw [← k1]
       refine ⟨⟨plainNew_ints,fun ρ b ρ' c h => ?_,fun n => ?_⟩,fun caps hcaps => ?_⟩
       · obtain ⟨h1,h2,h3⟩ := h 0 (by simp)
         simp only [Nat.add_zero] at h1 h2 h3
         simp [ren,ren2,ren1,ren0,Ren.addr,Ren.adr,Ren.cap,h1,h2,h3]
       · simp [sc,sc2,sc1,sc0]
       · have h := go_call (intsOf cs) (caps 0) a (errA_0.2 ⟨errC_ok.2 k3,k4⟩)
         rw [kl] at h
         have e : canonH3 [Arg3.one (Leaf.view cs n false),Arg3.one (Leaf.plain (vi a))] = [ros (intsOf cs)] := by
           show [AObj.ro cs] = _
           rw [ke]
         rw [e]
         exact h
theorem f1V_ok (l : List Int) (c : Nat) (a : Int) (h : errA l a ≠ 0) : f1V l c a := by
 unfold f1V f1V3 f1V2 f1V1 f1V0
 simp only [SS,reduceCtorEq,Arg.list,Arg.num,Arg.flag,intOf,andP,Nat.reduceLeDiff,Nat.reduceAdd,Nat.reduceMul,Nat.reduceLT,isTrue]
 have hN : ¬ errN l a = 0 := by rw [errN_a h]; exact h
 exact fun _ => ⟨by omega,by omega,⟨by omega,hN⟩,⟨by omega,hN⟩,⟨by omega,h⟩,by omega,h⟩
theorem f2V_ok (l : List Int) (c : Nat) (a : Int) (h : errA l a = 0) (h2 : errN l a ≠ 0) : f2V l c a := by
 unfold f2V f2V9 f2V8 f2V7 f2V6 f2V5 f2V4 f2V3 f2V2 f2V1 f2V0
 simp only [SS,reduceCtorEq,Arg.list,Arg.num,Arg.flag,intOf,andP,Nat.reduceLeDiff,Nat.reduceAdd,Nat.reduceMul,Nat.reduceLT,isTrue]
 have gl := gre_len (a := a) (errC_ok.1 (errA_0.1 h).1).few
 have hT : List.take l.length (greL l a) = greL l a := List.take_of_length_le (by omega)
 exact fun _ => ⟨by omega,by omega,⟨by omega,h2⟩,⟨by omega,h2⟩,h,⟨all_sc_int,okW_of h⟩,⟨⟨by rw [List.map_take],by omega⟩,by omega⟩,fun k => k hT.symm⟩
theorem f3V_ok (l : List Int) (c : Nat) (a : Int) (hcap : l.length≤c) (h2 : errN l a = 0) : f3V l c a := by
 unfold f3V f3V10 f3V9 f3V8 f3V7 f3V6 f3V5 f3V4 f3V3 f3V2 f3V1 f3V0
 simp only [SS,reduceCtorEq,Arg.list,Arg.num,Arg.flag,intOf,andP,Nat.reduceLeDiff,Nat.reduceAdd,Nat.reduceMul,Nat.reduceLT,isTrue]
 have h : errA l a = 0 := by
   by_cases h : errA l a = 0
   · exact h
   · rw [errN_a h] at h2; exact absurd h2 h
 have hf := (errC_ok.1 (errA_0.1 h).1).few
 have gl := gre_len (a := a) hf
 have bl := best_len (a := a) hf
 have hT : List.take l.length (greL l a) = greL l a := List.take_of_length_le (by omega)
 have hB : List.take l.length (bestL l a) = bestL l a := List.take_of_length_le (by omega)
 exact fun _ => ⟨by omega,by omega,h2,⟨hcap,h2⟩,h,⟨all_sc_int,okW_of h⟩,⟨⟨by rw [List.map_take],by omega⟩,by omega⟩,fun _ => ⟨⟨⟨by rw [List.map_take],by omega⟩,by omega⟩,fun k => k hT.symm⟩,fun k => k hB.symm⟩
theorem f1N_ok (a : Int) : f1N a := by
 unfold f1N f1N0
 simp only [SS,reduceCtorEq,Arg.list,Arg.num,Arg.flag,intOf,andP,Nat.reduceLeDiff,Nat.reduceAdd,Nat.reduceMul,Nat.reduceLT,isTrue]
theorem f1H_ok (s : Option Nat) (c : Nat) (a : Int) : f1H s c a := by
 unfold f1H f1H0
 simp only [SS,reduceCtorEq,Arg.list,Arg.num,Arg.flag,intOf,andP,Nat.reduceLeDiff,Nat.reduceAdd,Nat.reduceMul,Nat.reduceLT,isTrue]
theorem ffT_ok : CtOk Try.prog ffT := (((CtOk.none.add worksG_ok).add fwG_ok).add rwG_ok).add lsG_ok
theorem f1E_ok : VOk Try.prog f1E := ⟨(((ffT_ok.add xgEG_ok).add rfEG_ok).add gaG_ok).add geG_ok,ccIn_ok E0_ok mixed (inl_one Try.func18),E0_ok.yc,E0_ok.orc⟩
theorem f2E_ok : VOk Try.prog f2E := ⟨(((ffT_ok.add xgEG_ok).add rfEG_ok).add gdOG_ok).add goG_ok,ccIn_ok E0_ok mixed (inl_one Try.func18),E0_ok.yc,E0_ok.orc⟩
theorem f3E_ok : VOk Try.prog f3E := ⟨(((ffT_ok.add xgOG_ok).add rfOG_ok).add gdOG_ok).add goG_ok,ccIn_ok E0_ok mixed (inl_one Try.func18),E0_ok.yc,E0_ok.orc⟩
theorem fitf_int {k : IntKind} {a : Arg} (h : (PK.int k).fits a) : ∃ n,a = .plain (.int k n) := by
 obtain ⟨n,h,_⟩ := h
 exact ⟨n,h⟩
theorem fitf_ints {k : IntKind} {a : Arg} (h : (PK.ints k).fits a) : a = .plain (.slice none 0 0)∨(∃ s,a = .hole s)∨∃ l,a = .ints k l∧0 < l.length := by
 rcases h with h | h | ⟨l,h,h0,_⟩
 · exact .inl h
 · exact .inr (.inl h)
 · exact .inr (.inr ⟨l,h,h0⟩)
theorem fitf_two {p q : PK} {r : List Arg} (h : fitsAll [p,q] r) : ∃ a b,r = [a,b]∧p.fits a∧q.fits b := match r,h with
 | [a,b],⟨h1,h2,_⟩ => ⟨a,b,rfl,h1,h2⟩
theorem fewests_small (r : List Arg) (hr : fitsAll [.ints .i64,.int .i64] r) (caps : Nat→Nat) (hcp : capsOk caps 0 (r.map Arg.two)) : Call Try.prog 4 (canonA caps 0 r) (canonH r) isTrue := by
   obtain ⟨x,y,rfl,hx,hy⟩ := fitf_two hr
   obtain ⟨a,rfl⟩ := fitf_int hy
   rcases fitf_ints hx with rfl | ⟨s,rfl⟩ | ⟨l,rfl,_⟩
   · show Call Try.prog 4 [.slice none 0 0,vi a] [] isTrue
     have h := f1N_ok a
     rw [f1N_eq] at h
     exact Call.ofVc f1E_ok mixed (c := ffB) (inv := fun _ => none) Try.func4 (by kernel_rfl) h
   · show Call Try.prog 4 [.slice (some ⟨0,0,s⟩) 0 (caps 0),vi a] [.gone] isTrue
     have h := f1H_ok s (caps 0) a
     rw [f1H_eq] at h
     exact Call.ofVc f1E_ok mixed (c := ffB) (inv := fun _ => none) Try.func4 (by kernel_rfl) h
   · show Call Try.prog 4 [.slice (some ⟨0,0,none⟩) l.length (caps 0),vi a] [ros l] isTrue
     by_cases e1 : errA l a = 0
     · by_cases e2 : errN l a = 0
       · have h := f3V_ok l (caps 0) a hcp.1 e2
         rw [f3V_eq] at h
         exact Call.ofVc f3E_ok mixed (c := ffB) (inv := fun _ => none) Try.func4 (by kernel_rfl) h
       · have h := f2V_ok l (caps 0) a e1 e2
         rw [f2V_eq] at h
         exact Call.ofVc f2E_ok mixed (c := ffB) (inv := fun _ => none) Try.func4 (by kernel_rfl) h
     · have h := f1V_ok l (caps 0) a e1
       rw [f1V_eq] at h
       exact Call.ofVc f1E_ok mixed (c := ffB) (inv := fun _ => none) Try.func4 (by kernel_rfl) h
theorem fewests_law {K : Type} : ∀ (H : Heap) (avs : List Value) (ds : List (DataW K)),Still H→ReadsAll Try.prog H Try.f4.params.toList avs ds→Call Try.prog 4 avs H fun v _ => v = .bool true :=
 law_ofC (ps := [.ints .i64,.int .i64]) (by kernel_rfl) fewests_small
end Go.Pier.Fl
