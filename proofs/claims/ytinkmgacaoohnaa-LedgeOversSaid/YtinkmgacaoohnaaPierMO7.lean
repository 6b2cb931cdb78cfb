import Derived.Test.YtinkmgacaoohnaaPierMO6
import Derived.KernelRfl
import Derived.Test.YtinkmgacaoohnaaPierMO4
import Derived.Test.YtinkmgacaoohnaaPierMO2
set_option linter.unusedSimpArgs false
set_option linter.unusedVariables false
set_option maxRecDepth 100000
set_option linter.unusedVariables false
set_option linter.unusedSimpArgs false
namespace Go.Pier.Lg
open Go Go.Pier Go.Proofs
noncomputable def ma2B : Code := Try.f31.body.getD .skip
noncomputable def ma2E : VEnv := { ct := (Ct.none.add 33 (pureG psA arowS)).add 53 (newG psA fullRS) }
noncomputable def ma2Z : VEnv := { ct := (Ct.none.add 33 (pureG psA arowS)).add 53 (newG psA fullRS),orc := orcAp0 Try.prog }
def ma2I (n : Nat) (l : List Int) (a : Value) (k : Nat) (H : Heap) (ys zs : List (Nat → Nat)) : Nat → Option LInv := invOf 0 (.mk [
     ⟨Nat,fun i => i≤n∧whL (mayG n l) i = [],fun i => [(0,vi n),(1,a),(4,nilS),(5,vi 0),(6,nilS),(7,vi i)],fun _ => H,fun i => n - i,fun _ _ => none⟩,
     ⟨Nat,fun i => i≤n∧whL (mayG n l) i ≠ [],fun i => [(0,vi n),(1,a),(4,nilS),(5,vi 0),(6,newS k (whL (mayG n l) i).length),(7,vi i)],fun i => H ++ [rws (whL (mayG n l) i)],fun i => n - i,fun _ _ => none⟩]
   (fun _ b => b) (fun i j => match i,j with | 0,0 => [fun b => b] | 0,_ => ys | _,_ => zs))
noncomputable def ma2V0 (n:Nat) (l:List Int) (c:Nat) (x:Nat) := (List.take (0+l.length+1) (List.drop 0 (intsOf ([]++List.take (l.length * 1) (List.drop 0 (List.map (Value.int IntKind.i64) l))++[vi (x:Int)]))))
noncomputable def ma2V1 (n:Nat) (l:List Int) (c:Nat) := (List.map (Value.int IntKind.i64) l)
noncomputable def ma2V2 (n:Nat) (l:List Int) (c:Nat):Prop := (Value.slice none 0 0=Value.slice none 0 0)
noncomputable def ma2V3 (n:Nat) (l:List Int) (c:Nat):Prop := (Value.slice (some (ad0 0)) l.length c=Value.slice (some (ad0 0)) l.length c)
noncomputable def ma2V4 (n:Nat) (l:List Int) (c:Nat) (x:Nat):Bool := ((↑(ma2V0 n l c x).length:Int)-(↑(fullTo (Arg.plain (vi (n:Int))).num (ma2V0 n l c x) (Arg.plain (vi (n:Int))).num.toNat).length:Int)==(0:Int))
noncomputable def ma2V5 (n:Nat) (l:List Int) (c:Nat):Prop := ((List.take l.length (List.drop 0 (ma2V1 n l c))=List.map (Value.int IntKind.i64) (List.take l.length (List.drop 0 (intsOf (ma2V1 n l c))))∧0+l.length≤(ma2V1 n l c).length∧true=true)∧errD (Arg.plain (vi (n:Int))).num (List.take l.length (List.drop 0 (intsOf (ma2V1 n l c))))=(0:Int)∧0<(List.take l.length (List.drop 0 (intsOf (ma2V1 n l c)))).length)
noncomputable def ma2V6 (n:Nat) (l:List Int) (c:Nat) (x:Nat) (y:Nat):Prop := (IntKind.i64.wrap ((x:Int)+(1:Int))=(y:Int))
noncomputable def ma2V7 (n:Nat) (l:List Int) (c:Nat) (x:Nat) := ([]++List.take (l.length * 1) (List.drop 0 (ma2V1 n l c))++[vi (x:Int)])
noncomputable def ma2V8 (n:Nat) (l:List Int) (c:Nat) := (andP (some (0+l.length * 1≤(ma2V1 n l c).length∧true=true)) (0+l.length≤1099511627776∧(2 * (0+l.length)+256) * 8≤281474976710656∧(List.take (l.length * 1) (List.drop 0 (ma2V1 n l c))).length=l.length * 1∧0<0+l.length∧0+0≤0))
noncomputable def ma2V9 (n:Nat) (l:List Int) (c:Nat) := (andP (some (0+1≤1∧true=true)) (0+l.length+1≤1099511627776∧(2 * (0+l.length+1)+256) * 8≤281474976710656∧1=1∧([]++List.take (l.length * 1) (List.drop 0 (ma2V1 n l c))).length=(0+l.length) * 1))
noncomputable def ma2V10 (n:Nat) (l:List Int) (c:Nat):Array Value := ⟨[Value.slice (some ⟨1,0,some 0⟩) (whL (mayG n l) n).length 0,vi (0:Int)]⟩
noncomputable def ma2V11 (n:Nat) (l:List Int) (c:Nat) (y:Nat) := (List.map (Value.int IntKind.i64) (whL (mayG n l) y))
noncomputable def ma2V12 (n:Nat) (l:List Int) (c:Nat) (x:Nat):Prop := (List.take (0+l.length+1) (List.drop 0 (ma2V7 n l c x))=List.map (Value.int IntKind.i64) (ma2V0 n l c x)∧0+(0+l.length+1)≤(ma2V7 n l c x).length∧true=true)
noncomputable def ma2V13 (n:Nat) (l:List Int) (c:Nat) (x:Nat):Prop := (Value.slice (some ⟨8,0,some 0⟩) ((whL (mayG n l) x).length+1) 0=Value.slice none 0 0)
noncomputable def ma2V14 (n:Nat) (l:List Int) (c:Nat) (x:Nat):Prop := (Value.slice (some ⟨1,0,some 0⟩) (whL (mayG n l) x).length 0=Value.slice none 0 0)
noncomputable def ma2V15 (n:Nat) (l:List Int) (c:Nat):Prop := (AObj.ro (ma2V1 n l c)=AObj.ro (List.map (nmap1 (nsub 1 7)) (ma2V1 n l c))∧AObj.sc 2 (AObj.ro (ma2V1 n l c))=true)
noncomputable def ma2V16 (n:Nat) (l:List Int) (c:Nat):Prop := (AObj.ro (ma2V1 n l c)=AObj.ro (List.map (nmap1 (nsub 1 8)) (ma2V1 n l c))∧AObj.sc 1 (AObj.ro (ma2V1 n l c))=true)
noncomputable def ma2V17 (n:Nat) (l:List Int) (c:Nat):Prop := (AObj.ro (ma2V1 n l c)=AObj.ro (List.map (nmap1 (nsub 1 8)) (ma2V1 n l c))∧AObj.sc 2 (AObj.ro (ma2V1 n l c))=true)
noncomputable def ma2V18 (n:Nat) (l:List Int) (c:Nat):Bool := (ledC (Arg.plain (vi (n:Int))).num.toNat (List.take l.length (List.drop 0 (intsOf (ma2V1 n l c)))) !=(0:Int))
noncomputable def ma2V :=
fun (n:Nat) (l:List Int) (c:Nat)↦Ob (ma2V5 n l c)∧((ma2V18 n l c)=true→Ob (ma2V5 n l c)∧(Ob (AObj.ro (ma2V1 n l c)=AObj.ro (List.map (nmap1 fun (b:Nat)↦b) (ma2V1 n l c))∧AObj.sc 2 (AObj.ro (ma2V1 n l c))=true)∧False)∧Ob (Value.tuple ⟨[Value.slice none 0 0,vi (ledC (Arg.plain (vi (n:Int))).num.toNat (List.take l.length (List.drop 0 (intsOf (ma2V1 n l c)))))]⟩=Value.tuple (ma2V10 n l c))∧True)∧((ma2V18 n l c)=false→((∃ (y:Nat),Ob (y≤n∧whL (mayG n l) y=[])∧(Ob (AObj.ro (ma2V1 n l c)=AObj.ro (List.map (nmap1 fun (b:Nat)↦b) (ma2V1 n l c))∧AObj.sc 1 (AObj.ro (ma2V1 n l c))=true)∧True)∧Ob ((n:Int)=(n:Int))∧Ob (ma2V3 n l c)∧Ob (ma2V2 n l c)∧Ob ((0:Int)=(0:Int))∧Ob (ma2V2 n l c)∧Ob ((0:Int)=(y:Int))∧True)∨∃ (y:Nat),Ob (y≤n∧whL (mayG n l) y≠[])∧(Ob (AObj.ro (ma2V1 n l c)=AObj.ro (List.map (nmap1 fun (b:Nat)↦b) (ma2V1 n l c))∧AObj.sc 2 (AObj.ro (ma2V1 n l c))=true)∧False)∧Ob ((n:Int)=(n:Int))∧Ob (ma2V3 n l c)∧Ob (ma2V2 n l c)∧Ob ((0:Int)=(0:Int))∧Ob (Value.slice none 0 0=Value.slice (some ⟨1,0,some 0⟩) (whL (mayG n l) y).length 0)∧Ob ((0:Int)=(y:Int))∧True)∧(∀ (x:Nat),Ob (x≤n∧whL (mayG n l) x=[])→(decide ((x:Int)<(n:Int))=true→Ob (ma2V8 n l c)∧Ob (ma2V9 n l c)∧Ob ((ma2V12 n l c x)∧((0:Int)<(Arg.plain (vi (n:Int))).num∧(Arg.plain (vi (n:Int))).num≤(8:Int))∧0<(ma2V0 n l c x).length∧(∀ (x_1:Int),x_1∈List.take (0+l.length+1) (List.drop 0 (intsOf (ma2V7 n l c x)))→(0:Int)≤x_1∧x_1<(Arg.plain (vi (n:Int))).num)∧(ma2V0 n l c x).length≤13)∧((ma2V4 n l c x)=true→Ob (andP (some (0+1≤1∧true=true)) (1≤1099511627776∧2064≤281474976710656∧1=1∧0=0∧0<1))∧((∃ (y:Nat),Ob (y≤n∧whL (mayG n l) y=[])∧Ob (n-y<n-x)∧(Ob (AObj.ro (ma2V1 n l c)=AObj.ro (List.map (nmap1 fun (b:Nat)↦b) (ma2V1 n l c))∧AObj.sc 1 (AObj.ro (ma2V1 n l c))=true)∧True)∧Ob ((n:Int)=(n:Int))∧Ob (ma2V3 n l c)∧Ob (ma2V2 n l c)∧Ob ((0:Int)=(0:Int))∧Ob (Value.slice (some ⟨7,0,some 0⟩) 1 0=Value.slice none 0 0)∧Ob (ma2V6 n l c x y)∧True)∨∃ (y:Nat),Ob (y≤n∧whL (mayG n l) y≠[])∧Ob (n-y<n-x)∧(Ob (ma2V15 n l c)∧Ob (AObj.rw [vi (x:Int)] (some 1)=AObj.rw (List.map (nmap1 (nsub 1 7)) (ma2V11 n l c y)) (some 1)∧AObj.sc 2 (AObj.rw (ma2V11 n l c y) (some 1))=true)∧True)∧Ob ((n:Int)=(n:Int))∧Ob (ma2V3 n l c)∧Ob (ma2V2 n l c)∧Ob ((0:Int)=(0:Int))∧Ob (Value.slice (some ⟨7,0,some 0⟩) 1 0=Value.slice (some ⟨7,0,some 0⟩) (whL (mayG n l) y).length 0)∧Ob (ma2V6 n l c x y)∧True))∧((ma2V4 n l c x)=false→(∃ (y:Nat),Ob (y≤n∧whL (mayG n l) y=[])∧Ob (n-y<n-x)∧(Ob (AObj.ro (ma2V1 n l c)=AObj.ro (List.map (nmap1 fun (b:Nat)↦b) (ma2V1 n l c))∧AObj.sc 1 (AObj.ro (ma2V1 n l c))=true)∧True)∧Ob ((n:Int)=(n:Int))∧Ob (ma2V3 n l c)∧Ob (ma2V2 n l c)∧Ob ((0:Int)=(0:Int))∧Ob (ma2V2 n l c)∧Ob (ma2V6 n l c x y)∧True)∨∃ (y:Nat),Ob (y≤n∧whL (mayG n l) y≠[])∧Ob (n-y<n-x)∧(Ob (ma2V15 n l c)∧False)∧Ob ((n:Int)=(n:Int))∧Ob (ma2V3 n l c)∧Ob (ma2V2 n l c)∧Ob ((0:Int)=(0:Int))∧Ob (Value.slice none 0 0=Value.slice (some ⟨7,0,some 0⟩) (whL (mayG n l) y).length 0)∧Ob (ma2V6 n l c x y)∧True))∧(decide ((x:Int)<(n:Int))=false→(Ob (AObj.ro (ma2V1 n l c)=AObj.ro (List.map (nmap1 fun (b:Nat)↦b) (ma2V1 n l c))∧AObj.sc 2 (AObj.ro (ma2V1 n l c))=true)∧False)∧Ob (Value.tuple ⟨[Value.slice none 0 0,vi (0:Int)]⟩=Value.tuple (ma2V10 n l c))∧True))∧∀ (x:Nat),Ob (x≤n∧whL (mayG n l) x≠[])→(decide ((x:Int)<(n:Int))=true→Ob (ma2V8 n l c)∧Ob (ma2V9 n l c)∧Ob ((ma2V12 n l c x)∧((0:Int)<(Arg.plain (vi (n:Int))).num∧(Arg.plain (vi (n:Int))).num≤(8:Int))∧0<(ma2V0 n l c x).length∧(∀ (x_1:Int),x_1∈List.take (0+l.length+1) (List.drop 0 (intsOf (ma2V7 n l c x)))→(0:Int)≤x_1∧x_1<(Arg.plain (vi (n:Int))).num)∧(ma2V0 n l c x).length≤13)∧((ma2V4 n l c x)=true→Ob (andP (some (0+1≤1∧true=true)) ((whL (mayG n l) x).length+1≤1099511627776∧(2 * ((whL (mayG n l) x).length+1)+256) * 8≤281474976710656∧1=1∧(List.map (Value.int IntKind.i64) (whL (mayG n l) x)).length=(whL (mayG n l) x).length * 1))∧(((∃ (y:Nat),Ob (y≤n∧whL (mayG n l) y=[])∧Ob (n-y<n-x)∧(Ob (AObj.ro (ma2V1 n l c)=AObj.ro (List.map (nmap1 fun (b:Nat)↦b) (ma2V1 n l c))∧AObj.sc 1 (AObj.ro (ma2V1 n l c))=true)∧True)∧Ob ((n:Int)=(n:Int))∧Ob (ma2V3 n l c)∧Ob (ma2V2 n l c)∧Ob ((0:Int)=(0:Int))∧Ob (ma2V13 n l c x)∧Ob (ma2V6 n l c x y)∧True)∨∃ (y:Nat),Ob (y≤n∧whL (mayG n l) y=[])∧Ob (n-y<n-x)∧(Ob (ma2V16 n l c)∧True)∧Ob ((n:Int)=(n:Int))∧Ob (ma2V3 n l c)∧Ob (ma2V2 n l c)∧Ob ((0:Int)=(0:Int))∧Ob (ma2V13 n l c x)∧Ob (ma2V6 n l c x y)∧True)∨(∃ (y:Nat),Ob (y≤n∧whL (mayG n l) y≠[])∧Ob (n-y<n-x)∧(Ob (AObj.ro (ma2V1 n l c)=AObj.ro (List.map (nmap1 fun (b:Nat)↦b) (ma2V1 n l c))∧AObj.sc 2 (AObj.ro (ma2V1 n l c))=true)∧Ob (AObj.gone=AObj.rw (List.map (nmap1 fun (b:Nat)↦b) (ma2V11 n l c y)) (some 1)∧AObj.sc 2 (AObj.rw (ma2V11 n l c y) (some 1))=true)∧True)∧Ob ((n:Int)=(n:Int))∧Ob (ma2V3 n l c)∧Ob (ma2V2 n l c)∧Ob ((0:Int)=(0:Int))∧Ob (Value.slice (some ⟨8,0,some 0⟩) ((whL (mayG n l) x).length+1) 0=Value.slice (some ⟨1,0,some 0⟩) (whL (mayG n l) y).length 0)∧Ob (ma2V6 n l c x y)∧True)∨∃ (y:Nat),Ob (y≤n∧whL (mayG n l) y≠[])∧Ob (n-y<n-x)∧(Ob (ma2V17 n l c)∧Ob (AObj.rw (List.map (Value.int IntKind.i64) (whL (mayG n l) x)++[vi (x:Int)]) (some 1)=AObj.rw (List.map (nmap1 (nsub 1 8)) (ma2V11 n l c y)) (some 1)∧AObj.sc 2 (AObj.rw (ma2V11 n l c y) (some 1))=true)∧True)∧Ob ((n:Int)=(n:Int))∧Ob (ma2V3 n l c)∧Ob (ma2V2 n l c)∧Ob ((0:Int)=(0:Int))∧Ob (Value.slice (some ⟨8,0,some 0⟩) ((whL (mayG n l) x).length+1) 0=Value.slice (some ⟨8,0,some 0⟩) (whL (mayG n l) y).length 0)∧Ob (ma2V6 n l c x y)∧True))∧((ma2V4 n l c x)=false→((∃ (y:Nat),Ob (y≤n∧whL (mayG n l) y=[])∧Ob (n-y<n-x)∧(Ob (AObj.ro (ma2V1 n l c)=AObj.ro (List.map (nmap1 fun (b:Nat)↦b) (ma2V1 n l c))∧AObj.sc 1 (AObj.ro (ma2V1 n l c))=true)∧True)∧Ob ((n:Int)=(n:Int))∧Ob (ma2V3 n l c)∧Ob (ma2V2 n l c)∧Ob ((0:Int)=(0:Int))∧Ob (ma2V14 n l c x)∧Ob (ma2V6 n l c x y)∧True)∨∃ (y:Nat),Ob (y≤n∧whL (mayG n l) y=[])∧Ob (n-y<n-x)∧(Ob (ma2V16 n l c)∧True)∧Ob ((n:Int)=(n:Int))∧Ob (ma2V3 n l c)∧Ob (ma2V2 n l c)∧Ob ((0:Int)=(0:Int))∧Ob (ma2V14 n l c x)∧Ob (ma2V6 n l c x y)∧True)∨(∃ (y:Nat),Ob (y≤n∧whL (mayG n l) y≠[])∧Ob (n-y<n-x)∧(Ob (AObj.ro (ma2V1 n l c)=AObj.ro (List.map (nmap1 fun (b:Nat)↦b) (ma2V1 n l c))∧AObj.sc 2 (AObj.ro (ma2V1 n l c))=true)∧Ob (AObj.rw (List.map (Value.int IntKind.i64) (whL (mayG n l) x)) (some 1)=AObj.rw (List.map (nmap1 fun (b:Nat)↦b) (ma2V11 n l c y)) (some 1)∧AObj.sc 2 (AObj.rw (ma2V11 n l c y) (some 1))=true)∧True)∧Ob ((n:Int)=(n:Int))∧Ob (ma2V3 n l c)∧Ob (ma2V2 n l c)∧Ob ((0:Int)=(0:Int))∧Ob (Value.slice (some ⟨1,0,some 0⟩) (whL (mayG n l) x).length 0=Value.slice (some ⟨1,0,some 0⟩) (whL (mayG n l) y).length 0)∧Ob (ma2V6 n l c x y)∧True)∨∃ (y:Nat),Ob (y≤n∧whL (mayG n l) y≠[])∧Ob (n-y<n-x)∧(Ob (ma2V17 n l c)∧False)∧Ob ((n:Int)=(n:Int))∧Ob (ma2V3 n l c)∧Ob (ma2V2 n l c)∧Ob ((0:Int)=(0:Int))∧Ob (Value.slice (some ⟨1,0,some 0⟩) (whL (mayG n l) x).length 0=Value.slice (some ⟨8,0,some 0⟩) (whL (mayG n l) y).length 0)∧Ob (ma2V6 n l c x y)∧True))∧(decide ((x:Int)<(n:Int))=false→(Ob (AObj.ro (ma2V1 n l c)=AObj.ro (List.map (nmap1 fun (b:Nat)↦b) (ma2V1 n l c))∧AObj.sc 2 (AObj.ro (ma2V1 n l c))=true)∧Ob (AObj.rw (List.map (Value.int IntKind.i64) (whL (mayG n l) x)) (some 1)=AObj.rw (List.map (nmap1 fun (b:Nat)↦b) (List.map (Value.int IntKind.i64) (whL (mayG n l) n))) (some 1)∧AObj.sc 2 (AObj.rw (List.map (Value.int IntKind.i64) (whL (mayG n l) n)) (some 1))=true)∧True)∧Ob (Value.tuple ⟨[Value.slice (some ⟨1,0,some 0⟩) (whL (mayG n l) x).length 0,vi (0:Int)]⟩=Value.tuple (ma2V10 n l c))∧True))
theorem ma2V_eq : ma2V = fun (n : Nat) (l : List Int) (c : Nat) => vc Try.prog ma2E 1 40 true (ma2I n l (.slice (some ⟨0,0,none⟩) l.length c) 1 [ros l] [nsub 1 7] [fun b => b,nsub 1 8]) ma2B [] (argFr 0 [vi n,.slice (some ⟨0,0,none⟩) l.length c]) [ros l] (retR Try.prog Try.f31 1 (fun b => b) (.tuple #[newS 1 (whL (mayG n l) n).length,vi 0]) [ros l,rws (whL (mayG n l) n)]) := by kernel_rfl
noncomputable def ma2E0_s0 (n:Nat) (l:List Int) (c:Nat) (x:Nat) := (List.take (0+l.length+1) (List.drop 0 (intsOf ([]++List.take (l.length * 1) (List.drop 0 (List.map (Value.int IntKind.i64) l))++[vi (x:Int)]))))
noncomputable def ma2E0_s1 (n:Nat) (l:List Int) (c:Nat) := (List.map (Value.int IntKind.i64) l)
noncomputable def ma2E0_s2 (n:Nat) (l:List Int) (c:Nat):Prop := (Value.slice none 0 0=Value.slice none 0 0)
noncomputable def ma2E0_s3 (n:Nat) (l:List Int) (c:Nat):Prop := (Value.slice (some (ad0 0)) l.length c=Value.slice (some (ad0 0)) l.length c)
noncomputable def ma2E0_s4 (n:Nat) (l:List Int) (c:Nat) (x:Nat):Bool := ((↑(ma2E0_s0 n l c x).length:Int)-(↑(fullTo (Arg.plain (vi (n:Int))).num (ma2E0_s0 n l c x) (Arg.plain (vi (n:Int))).num.toNat).length:Int)==(0:Int))
noncomputable def ma2E0_s5 (n:Nat) (l:List Int) (c:Nat):Prop := ((List.take l.length (List.drop 0 (ma2E0_s1 n l c))=List.map (Value.int IntKind.i64) (List.take l.length (List.drop 0 (intsOf (ma2E0_s1 n l c))))∧0+l.length≤(ma2E0_s1 n l c).length∧true=true)∧errD (Arg.plain (vi (n:Int))).num (List.take l.length (List.drop 0 (intsOf (ma2E0_s1 n l c))))=(0:Int)∧0<(List.take l.length (List.drop 0 (intsOf (ma2E0_s1 n l c)))).length)
noncomputable def ma2E0_s6 (n:Nat) (l:List Int) (c:Nat) (x:Nat) (y:Nat):Prop := (IntKind.i64.wrap ((x:Int)+(1:Int))=(y:Int))
noncomputable def ma2E0_s7 (n:Nat) (l:List Int) (c:Nat) (x:Nat) := ([]++List.take (l.length * 1) (List.drop 0 (ma2E0_s1 n l c))++[vi (x:Int)])
noncomputable def ma2E0_s8 (n:Nat) (l:List Int) (c:Nat) := (andP (some (0+l.length * 1≤(ma2E0_s1 n l c).length∧true=true)) (0+l.length≤1099511627776∧(2 * (0+l.length)+256) * 8≤281474976710656∧(List.take (l.length * 1) (List.drop 0 (ma2E0_s1 n l c))).length=l.length * 1∧0<0+l.length∧0+0≤0))
noncomputable def ma2E0_s9 (n:Nat) (l:List Int) (c:Nat) := (andP (some (0+1≤1∧true=true)) (0+l.length+1≤1099511627776∧(2 * (0+l.length+1)+256) * 8≤281474976710656∧1=1∧([]++List.take (l.length * 1) (List.drop 0 (ma2E0_s1 n l c))).length=(0+l.length) * 1))
noncomputable def ma2E0_s10 (n:Nat) (l:List Int) (c:Nat) (y:Nat) := (List.map (Value.int IntKind.i64) (whL (mayG n l) y))
noncomputable def ma2E0_s11 (n:Nat) (l:List Int) (c:Nat) (x:Nat):Prop := (List.take (0+l.length+1) (List.drop 0 (ma2E0_s7 n l c x))=List.map (Value.int IntKind.i64) (ma2E0_s0 n l c x)∧0+(0+l.length+1)≤(ma2E0_s7 n l c x).length∧true=true)
noncomputable def ma2E0_s12 (n:Nat) (l:List Int) (c:Nat) (x:Nat):Prop := (Value.slice (some ⟨8,0,some 0⟩) ((whL (mayG n l) x).length+1) 0=Value.slice none 0 0)
noncomputable def ma2E0_s13 (n:Nat) (l:List Int) (c:Nat):Array Value := ⟨[Value.slice none 0 0,vi (0:Int)]⟩
noncomputable def ma2E0_s14 (n:Nat) (l:List Int) (c:Nat) (x:Nat):Prop := (Value.slice (some ⟨1,0,some 0⟩) (whL (mayG n l) x).length 0=Value.slice none 0 0)
noncomputable def ma2E0_s15 (n:Nat) (l:List Int) (c:Nat):Prop := (AObj.ro (ma2E0_s1 n l c)=AObj.ro (List.map (nmap1 (nsub 1 7)) (ma2E0_s1 n l c))∧AObj.sc 2 (AObj.ro (ma2E0_s1 n l c))=true)
noncomputable def ma2E0_s16 (n:Nat) (l:List Int) (c:Nat):Prop := (AObj.ro (ma2E0_s1 n l c)=AObj.ro (List.map (nmap1 (nsub 1 8)) (ma2E0_s1 n l c))∧AObj.sc 1 (AObj.ro (ma2E0_s1 n l c))=true)
noncomputable def ma2E0_s17 (n:Nat) (l:List Int) (c:Nat):Prop := (AObj.ro (ma2E0_s1 n l c)=AObj.ro (List.map (nmap1 (nsub 1 8)) (ma2E0_s1 n l c))∧AObj.sc 2 (AObj.ro (ma2E0_s1 n l c))=true)
noncomputable def ma2E0_s18 (n:Nat) (l:List Int) (c:Nat):Bool := (ledC (Arg.plain (vi (n:Int))).num.toNat (List.take l.length (List.drop 0 (intsOf (ma2E0_s1 n l c)))) !=(0:Int))
noncomputable def ma2E0 :=
fun (n:Nat) (l:List Int) (c:Nat)↦Ob (ma2E0_s5 n l c)∧((ma2E0_s18 n l c)=true→Ob (ma2E0_s5 n l c)∧True∧Ob (Value.tuple ⟨[Value.slice none 0 0,vi (ledC (Arg.plain (vi (n:Int))).num.toNat (List.take l.length (List.drop 0 (intsOf (ma2E0_s1 n l c)))))]⟩=Value.tuple (ma2E0_s13 n l c)))∧((ma2E0_s18 n l c)=false→((∃ (y:Nat),Ob (y≤n∧whL (mayG n l) y=[])∧(Ob (AObj.ro (ma2E0_s1 n l c)=AObj.ro (List.map (nmap1 fun (b:Nat)↦b) (ma2E0_s1 n l c))∧AObj.sc 1 (AObj.ro (ma2E0_s1 n l c))=true)∧True)∧Ob ((n:Int)=(n:Int))∧Ob (ma2E0_s3 n l c)∧Ob (ma2E0_s2 n l c)∧Ob ((0:Int)=(0:Int))∧Ob (ma2E0_s2 n l c)∧Ob ((0:Int)=(y:Int))∧True)∨∃ (y:Nat),Ob (y≤n∧whL (mayG n l) y≠[])∧(Ob (AObj.ro (ma2E0_s1 n l c)=AObj.ro (List.map (nmap1 fun (b:Nat)↦b) (ma2E0_s1 n l c))∧AObj.sc 2 (AObj.ro (ma2E0_s1 n l c))=true)∧False)∧Ob ((n:Int)=(n:Int))∧Ob (ma2E0_s3 n l c)∧Ob (ma2E0_s2 n l c)∧Ob ((0:Int)=(0:Int))∧Ob (Value.slice none 0 0=Value.slice (some ⟨1,0,some 0⟩) (whL (mayG n l) y).length 0)∧Ob ((0:Int)=(y:Int))∧True)∧(∀ (x:Nat),Ob (x≤n∧whL (mayG n l) x=[])→(decide ((x:Int)<(n:Int))=true→Ob (ma2E0_s8 n l c)∧Ob (ma2E0_s9 n l c)∧Ob ((ma2E0_s11 n l c x)∧((0:Int)<(Arg.plain (vi (n:Int))).num∧(Arg.plain (vi (n:Int))).num≤(8:Int))∧0<(ma2E0_s0 n l c x).length∧(∀ (x_1:Int),x_1∈List.take (0+l.length+1) (List.drop 0 (intsOf (ma2E0_s7 n l c x)))→(0:Int)≤x_1∧x_1<(Arg.plain (vi (n:Int))).num)∧(ma2E0_s0 n l c x).length≤13)∧((ma2E0_s4 n l c x)=true→Ob (andP (some (0+1≤1∧true=true)) (1≤1099511627776∧2064≤281474976710656∧1=1∧0=0∧0<1))∧((∃ (y:Nat),Ob (y≤n∧whL (mayG n l) y=[])∧Ob (n-y<n-x)∧(Ob (AObj.ro (ma2E0_s1 n l c)=AObj.ro (List.map (nmap1 fun (b:Nat)↦b) (ma2E0_s1 n l c))∧AObj.sc 1 (AObj.ro (ma2E0_s1 n l c))=true)∧True)∧Ob ((n:Int)=(n:Int))∧Ob (ma2E0_s3 n l c)∧Ob (ma2E0_s2 n l c)∧Ob ((0:Int)=(0:Int))∧Ob (Value.slice (some ⟨7,0,some 0⟩) 1 0=Value.slice none 0 0)∧Ob (ma2E0_s6 n l c x y)∧True)∨∃ (y:Nat),Ob (y≤n∧whL (mayG n l) y≠[])∧Ob (n-y<n-x)∧(Ob (ma2E0_s15 n l c)∧Ob (AObj.rw [vi (x:Int)] (some 1)=AObj.rw (List.map (nmap1 (nsub 1 7)) (ma2E0_s10 n l c y)) (some 1)∧AObj.sc 2 (AObj.rw (ma2E0_s10 n l c y) (some 1))=true)∧True)∧Ob ((n:Int)=(n:Int))∧Ob (ma2E0_s3 n l c)∧Ob (ma2E0_s2 n l c)∧Ob ((0:Int)=(0:Int))∧Ob (Value.slice (some ⟨7,0,some 0⟩) 1 0=Value.slice (some ⟨7,0,some 0⟩) (whL (mayG n l) y).length 0)∧Ob (ma2E0_s6 n l c x y)∧True))∧((ma2E0_s4 n l c x)=false→(∃ (y:Nat),Ob (y≤n∧whL (mayG n l) y=[])∧Ob (n-y<n-x)∧(Ob (AObj.ro (ma2E0_s1 n l c)=AObj.ro (List.map (nmap1 fun (b:Nat)↦b) (ma2E0_s1 n l c))∧AObj.sc 1 (AObj.ro (ma2E0_s1 n l c))=true)∧True)∧Ob ((n:Int)=(n:Int))∧Ob (ma2E0_s3 n l c)∧Ob (ma2E0_s2 n l c)∧Ob ((0:Int)=(0:Int))∧Ob (ma2E0_s2 n l c)∧Ob (ma2E0_s6 n l c x y)∧True)∨∃ (y:Nat),Ob (y≤n∧whL (mayG n l) y≠[])∧Ob (n-y<n-x)∧(Ob (ma2E0_s15 n l c)∧False)∧Ob ((n:Int)=(n:Int))∧Ob (ma2E0_s3 n l c)∧Ob (ma2E0_s2 n l c)∧Ob ((0:Int)=(0:Int))∧Ob (Value.slice none 0 0=Value.slice (some ⟨7,0,some 0⟩) (whL (mayG n l) y).length 0)∧Ob (ma2E0_s6 n l c x y)∧True))∧(decide ((x:Int)<(n:Int))=false→True∧Ob (Value.tuple (ma2E0_s13 n l c)=Value.tuple (ma2E0_s13 n l c))))∧∀ (x:Nat),Ob (x≤n∧whL (mayG n l) x≠[])→(decide ((x:Int)<(n:Int))=true→Ob (ma2E0_s8 n l c)∧Ob (ma2E0_s9 n l c)∧Ob ((ma2E0_s11 n l c x)∧((0:Int)<(Arg.plain (vi (n:Int))).num∧(Arg.plain (vi (n:Int))).num≤(8:Int))∧0<(ma2E0_s0 n l c x).length∧(∀ (x_1:Int),x_1∈List.take (0+l.length+1) (List.drop 0 (intsOf (ma2E0_s7 n l c x)))→(0:Int)≤x_1∧x_1<(Arg.plain (vi (n:Int))).num)∧(ma2E0_s0 n l c x).length≤13)∧((ma2E0_s4 n l c x)=true→Ob (andP (some (0+1≤1∧true=true)) ((whL (mayG n l) x).length+1≤1099511627776∧(2 * ((whL (mayG n l) x).length+1)+256) * 8≤281474976710656∧1=1∧(List.map (Value.int IntKind.i64) (whL (mayG n l) x)).length=(whL (mayG n l) x).length * 1))∧(((∃ (y:Nat),Ob (y≤n∧whL (mayG n l) y=[])∧Ob (n-y<n-x)∧(Ob (AObj.ro (ma2E0_s1 n l c)=AObj.ro (List.map (nmap1 fun (b:Nat)↦b) (ma2E0_s1 n l c))∧AObj.sc 1 (AObj.ro (ma2E0_s1 n l c))=true)∧True)∧Ob ((n:Int)=(n:Int))∧Ob (ma2E0_s3 n l c)∧Ob (ma2E0_s2 n l c)∧Ob ((0:Int)=(0:Int))∧Ob (ma2E0_s12 n l c x)∧Ob (ma2E0_s6 n l c x y)∧True)∨∃ (y:Nat),Ob (y≤n∧whL (mayG n l) y=[])∧Ob (n-y<n-x)∧(Ob (ma2E0_s16 n l c)∧True)∧Ob ((n:Int)=(n:Int))∧Ob (ma2E0_s3 n l c)∧Ob (ma2E0_s2 n l c)∧Ob ((0:Int)=(0:Int))∧Ob (ma2E0_s12 n l c x)∧Ob (ma2E0_s6 n l c x y)∧True)∨(∃ (y:Nat),Ob (y≤n∧whL (mayG n l) y≠[])∧Ob (n-y<n-x)∧(Ob (AObj.ro (ma2E0_s1 n l c)=AObj.ro (List.map (nmap1 fun (b:Nat)↦b) (ma2E0_s1 n l c))∧AObj.sc 2 (AObj.ro (ma2E0_s1 n l c))=true)∧Ob (AObj.gone=AObj.rw (List.map (nmap1 fun (b:Nat)↦b) (ma2E0_s10 n l c y)) (some 1)∧AObj.sc 2 (AObj.rw (ma2E0_s10 n l c y) (some 1))=true)∧True)∧Ob ((n:Int)=(n:Int))∧Ob (ma2E0_s3 n l c)∧Ob (ma2E0_s2 n l c)∧Ob ((0:Int)=(0:Int))∧Ob (Value.slice (some ⟨8,0,some 0⟩) ((whL (mayG n l) x).length+1) 0=Value.slice (some ⟨1,0,some 0⟩) (whL (mayG n l) y).length 0)∧Ob (ma2E0_s6 n l c x y)∧True)∨∃ (y:Nat),Ob (y≤n∧whL (mayG n l) y≠[])∧Ob (n-y<n-x)∧(Ob (ma2E0_s17 n l c)∧Ob (AObj.rw (List.map (Value.int IntKind.i64) (whL (mayG n l) x)++[vi (x:Int)]) (some 1)=AObj.rw (List.map (nmap1 (nsub 1 8)) (ma2E0_s10 n l c y)) (some 1)∧AObj.sc 2 (AObj.rw (ma2E0_s10 n l c y) (some 1))=true)∧True)∧Ob ((n:Int)=(n:Int))∧Ob (ma2E0_s3 n l c)∧Ob (ma2E0_s2 n l c)∧Ob ((0:Int)=(0:Int))∧Ob (Value.slice (some ⟨8,0,some 0⟩) ((whL (mayG n l) x).length+1) 0=Value.slice (some ⟨8,0,some 0⟩) (whL (mayG n l) y).length 0)∧Ob (ma2E0_s6 n l c x y)∧True))∧((ma2E0_s4 n l c x)=false→((∃ (y:Nat),Ob (y≤n∧whL (mayG n l) y=[])∧Ob (n-y<n-x)∧(Ob (AObj.ro (ma2E0_s1 n l c)=AObj.ro (List.map (nmap1 fun (b:Nat)↦b) (ma2E0_s1 n l c))∧AObj.sc 1 (AObj.ro (ma2E0_s1 n l c))=true)∧True)∧Ob ((n:Int)=(n:Int))∧Ob (ma2E0_s3 n l c)∧Ob (ma2E0_s2 n l c)∧Ob ((0:Int)=(0:Int))∧Ob (ma2E0_s14 n l c x)∧Ob (ma2E0_s6 n l c x y)∧True)∨∃ (y:Nat),Ob (y≤n∧whL (mayG n l) y=[])∧Ob (n-y<n-x)∧(Ob (ma2E0_s16 n l c)∧True)∧Ob ((n:Int)=(n:Int))∧Ob (ma2E0_s3 n l c)∧Ob (ma2E0_s2 n l c)∧Ob ((0:Int)=(0:Int))∧Ob (ma2E0_s14 n l c x)∧Ob (ma2E0_s6 n l c x y)∧True)∨(∃ (y:Nat),Ob (y≤n∧whL (mayG n l) y≠[])∧Ob (n-y<n-x)∧(Ob (AObj.ro (ma2E0_s1 n l c)=AObj.ro (List.map (nmap1 fun (b:Nat)↦b) (ma2E0_s1 n l c))∧AObj.sc 2 (AObj.ro (ma2E0_s1 n l c))=true)∧Ob (AObj.rw (List.map (Value.int IntKind.i64) (whL (mayG n l) x)) (some 1)=AObj.rw (List.map (nmap1 fun (b:Nat)↦b) (ma2E0_s10 n l c y)) (some 1)∧AObj.sc 2 (AObj.rw (ma2E0_s10 n l c y) (some 1))=true)∧True)∧Ob ((n:Int)=(n:Int))∧Ob (ma2E0_s3 n l c)∧Ob (ma2E0_s2 n l c)∧Ob ((0:Int)=(0:Int))∧Ob (Value.slice (some ⟨1,0,some 0⟩) (whL (mayG n l) x).length 0=Value.slice (some ⟨1,0,some 0⟩) (whL (mayG n l) y).length 0)∧Ob (ma2E0_s6 n l c x y)∧True)∨∃ (y:Nat),Ob (y≤n∧whL (mayG n l) y≠[])∧Ob (n-y<n-x)∧(Ob (ma2E0_s17 n l c)∧False)∧Ob ((n:Int)=(n:Int))∧Ob (ma2E0_s3 n l c)∧Ob (ma2E0_s2 n l c)∧Ob ((0:Int)=(0:Int))∧Ob (Value.slice (some ⟨1,0,some 0⟩) (whL (mayG n l) x).length 0=Value.slice (some ⟨8,0,some 0⟩) (whL (mayG n l) y).length 0)∧Ob (ma2E0_s6 n l c x y)∧True))∧(decide ((x:Int)<(n:Int))=false→True∧Ob (Value.tuple ⟨[Value.slice (some ⟨1,0,some 0⟩) (whL (mayG n l) x).length 0,vi (0:Int)]⟩=Value.tuple (ma2E0_s13 n l c))))
theorem ma2E0_eq : ma2E0 = fun (n : Nat) (l : List Int) (c : Nat) => vc Try.prog ma2E 1 40 true (ma2I n l (.slice (some ⟨0,0,none⟩) l.length c) 1 [ros l] [nsub 1 7] [fun b => b,nsub 1 8]) ma2B [] (argFr 0 [vi n,.slice (some ⟨0,0,none⟩) l.length c]) [ros l] (retK Try.prog Try.f31 (fun v _ => v = .tuple #[nilS,vi 0])) := by kernel_rfl
noncomputable def ma2X0 (n:Nat) (l:List Int) (c:Nat) := (List.take l.length (List.drop 0 (intsOf (List.map (Value.int IntKind.i64) l))))
noncomputable def ma2X1 (n:Nat) (l:List Int) (c:Nat):Prop := ((List.take l.length (List.drop 0 (List.map (Value.int IntKind.i64) l))=List.map (Value.int IntKind.i64) (ma2X0 n l c)∧0+l.length≤(List.map (Value.int IntKind.i64) l).length∧true=true)∧errD (Arg.plain (vi (n:Int))).num (ma2X0 n l c)=(0:Int)∧0<(ma2X0 n l c).length)
noncomputable def ma2X :=
fun (n:Nat) (l:List Int) (c:Nat)↦Ob (ma2X1 n l c)∧((ledC (Arg.plain (vi (n:Int))).num.toNat (ma2X0 n l c) !=(0:Int))=true→Ob (ma2X1 n l c)∧True∧Ob (Value.tuple ⟨[Value.slice none 0 0,vi (ledC (Arg.plain (vi (n:Int))).num.toNat (ma2X0 n l c))]⟩=Value.tuple ⟨[Value.slice none 0 0,vi (20:Int)]⟩))∧((ledC (Arg.plain (vi (n:Int))).num.toNat (ma2X0 n l c) !=(0:Int))=false→False)
theorem ma2X_eq : ma2X = fun (n : Nat) (l : List Int) (c : Nat) => vc Try.prog ma2E 1 40 true (fun _ => none) ma2B [] (argFr 0 [vi n,.slice (some ⟨0,0,none⟩) l.length c]) [ros l] (retK Try.prog Try.f31 (fun v _ => v = .tuple #[nilS,vi 20])) := by kernel_rfl
noncomputable def ma2N0 (n:Nat):Prop := (Value.slice none 0 0=Value.slice none 0 0)
noncomputable def ma2N1 (n:Nat) (x:Nat) (y:Nat):Prop := (IntKind.i64.wrap ((x:Int)+(1:Int))=(y:Int))
noncomputable def ma2N2 (n:Nat) (x:Nat):Bool := ((↑(1:Nat):Int)-(↑(fullTo (Arg.plain (vi (n:Int))).num [intOf (vi (x:Int))] (Arg.plain (vi (n:Int))).num.toNat).length:Int)==(0:Int))
noncomputable def ma2N3 (n:Nat) (y:Nat) := (List.map (Value.int IntKind.i64) (whL (mayG n []) y))
noncomputable def ma2N4 (n:Nat):Array Value := ⟨[Value.slice (some ⟨0,0,some 0⟩) (whL (mayG n []) n).length 0,vi (0:Int)]⟩
noncomputable def ma2N5 (n:Nat) := (andP (some (0+1≤1∧true=true)) (1≤1099511627776∧2064≤281474976710656∧1=1∧0<1∧0+0≤0))
noncomputable def ma2N6 (n:Nat) (x:Nat):Prop := (Value.slice (some ⟨6,0,some 0⟩) ((whL (mayG n []) x).length+1) 0=Value.slice none 0 0)
noncomputable def ma2N7 (n:Nat) (x:Nat):Prop := (Value.slice (some ⟨0,0,some 0⟩) (whL (mayG n []) x).length 0=Value.slice none 0 0)
noncomputable def ma2N8 (n:Nat):Prop := ((n:Int)=(n:Int))
noncomputable def ma2N9 (n:Nat) (y:Nat):Prop := (y≤n∧whL (mayG n []) y=[])
noncomputable def ma2N10 (n:Nat) (y:Nat):Prop := (y≤n∧whL (mayG n []) y≠[])
noncomputable def ma2N11 (n:Nat):Prop := (Value.tuple ⟨[Value.slice none 0 0,vi (0:Int)]⟩=Value.tuple (ma2N4 n))
noncomputable def ma2N12 (n:Nat) := (Arg.plain (vi (n:Int)))
noncomputable def ma2N13 (n:Nat) (x:Nat):Prop := ([vi (x:Int)]=[vi (intOf (vi (x:Int)))]∧0+1≤1∧true=true)
noncomputable def ma2N14 (n:Nat) (x:Nat) := (List.map (Value.int IntKind.i64) (whL (mayG n []) x))
noncomputable def ma2N15 (n:Nat) (y:Nat) := (AObj.rw (ma2N3 n y) (some 1))
noncomputable def ma2N :=
fun (n:Nat)↦Ob (errD (ma2N12 n).num []=(0:Int))∧(false=true→Ob (errD (ma2N12 n).num []=(0:Int))∧False∧Ob (ma2N11 n)∧True)∧(false=false→((∃ (y:Nat),Ob (ma2N9 n y)∧True∧Ob (ma2N8 n)∧Ob (ma2N0 n)∧Ob (ma2N0 n)∧Ob ((0:Int)=(0:Int))∧Ob (ma2N0 n)∧Ob ((0:Int)=(y:Int))∧True)∨∃ (y:Nat),Ob (ma2N10 n y)∧False∧Ob (ma2N8 n)∧Ob (ma2N0 n)∧Ob (ma2N0 n)∧Ob ((0:Int)=(0:Int))∧Ob (Value.slice none 0 0=Value.slice (some ⟨0,0,some 0⟩) (whL (mayG n []) y).length 0)∧Ob ((0:Int)=(y:Int))∧True)∧(∀ (x:Nat),Ob (x≤n∧whL (mayG n []) x=[])→(decide ((x:Int)<(n:Int))=true→Ob (0≤1099511627776∧2048≤281474976710656∧1=1∧0≤0)∧Ob (ma2N5 n)∧Ob ((ma2N13 n x)∧((0:Int)<(ma2N12 n).num∧(ma2N12 n).num≤(8:Int))∧0<1∧(∀ (x_1:Int),x_1∈[intOf (vi (x:Int))]→(0:Int)≤x_1∧x_1<(ma2N12 n).num)∧1≤13)∧((ma2N2 n x)=true→Ob (andP (some (0+1≤1∧true=true)) (1≤1099511627776∧2064≤281474976710656∧1=1∧0=0∧0<1))∧((∃ (y:Nat),Ob (ma2N9 n y)∧Ob (n-y<n-x)∧True∧Ob (ma2N8 n)∧Ob (ma2N0 n)∧Ob (ma2N0 n)∧Ob ((0:Int)=(0:Int))∧Ob (Value.slice (some ⟨5,0,some 0⟩) 1 0=Value.slice none 0 0)∧Ob (ma2N1 n x y)∧True)∨∃ (y:Nat),Ob (ma2N10 n y)∧Ob (n-y<n-x)∧(Ob (AObj.rw [vi (x:Int)] (some 1)=AObj.rw (List.map (nmap1 (nsub 0 5)) (ma2N3 n y)) (some 1)∧AObj.sc 1 (ma2N15 n y)=true)∧True)∧Ob (ma2N8 n)∧Ob (ma2N0 n)∧Ob (ma2N0 n)∧Ob ((0:Int)=(0:Int))∧Ob (Value.slice (some ⟨5,0,some 0⟩) 1 0=Value.slice (some ⟨5,0,some 0⟩) (whL (mayG n []) y).length 0)∧Ob (ma2N1 n x y)∧True))∧((ma2N2 n x)=false→(∃ (y:Nat),Ob (ma2N9 n y)∧Ob (n-y<n-x)∧True∧Ob (ma2N8 n)∧Ob (ma2N0 n)∧Ob (ma2N0 n)∧Ob ((0:Int)=(0:Int))∧Ob (ma2N0 n)∧Ob (ma2N1 n x y)∧True)∨∃ (y:Nat),Ob (ma2N10 n y)∧Ob (n-y<n-x)∧False∧Ob (ma2N8 n)∧Ob (ma2N0 n)∧Ob (ma2N0 n)∧Ob ((0:Int)=(0:Int))∧Ob (Value.slice none 0 0=Value.slice (some ⟨5,0,some 0⟩) (whL (mayG n []) y).length 0)∧Ob (ma2N1 n x y)∧True))∧(decide ((x:Int)<(n:Int))=false→False∧Ob (ma2N11 n)∧True))∧∀ (x:Nat),Ob (x≤n∧whL (mayG n []) x≠[])→(decide ((x:Int)<(n:Int))=true→Ob (0≤1099511627776∧2048≤281474976710656∧1=1∧0≤0)∧Ob (ma2N5 n)∧Ob ((ma2N13 n x)∧((0:Int)<(ma2N12 n).num∧(ma2N12 n).num≤(8:Int))∧0<1∧(∀ (x_1:Int),x_1∈[intOf (vi (x:Int))]→(0:Int)≤x_1∧x_1<(ma2N12 n).num)∧1≤13)∧((ma2N2 n x)=true→Ob (andP (some (0+1≤1∧true=true)) ((whL (mayG n []) x).length+1≤1099511627776∧(2 * ((whL (mayG n []) x).length+1)+256) * 8≤281474976710656∧1=1∧(ma2N14 n x).length=(whL (mayG n []) x).length * 1))∧(((∃ (y:Nat),Ob (ma2N9 n y)∧Ob (n-y<n-x)∧True∧Ob (ma2N8 n)∧Ob (ma2N0 n)∧Ob (ma2N0 n)∧Ob ((0:Int)=(0:Int))∧Ob (ma2N6 n x)∧Ob (ma2N1 n x y)∧True)∨∃ (y:Nat),Ob (ma2N9 n y)∧Ob (n-y<n-x)∧True∧Ob (ma2N8 n)∧Ob (ma2N0 n)∧Ob (ma2N0 n)∧Ob ((0:Int)=(0:Int))∧Ob (ma2N6 n x)∧Ob (ma2N1 n x y)∧True)∨(∃ (y:Nat),Ob (ma2N10 n y)∧Ob (n-y<n-x)∧(Ob (AObj.gone=AObj.rw (List.map (nmap1 fun (b:Nat)↦b) (ma2N3 n y)) (some 1)∧AObj.sc 1 (ma2N15 n y)=true)∧True)∧Ob (ma2N8 n)∧Ob (ma2N0 n)∧Ob (ma2N0 n)∧Ob ((0:Int)=(0:Int))∧Ob (Value.slice (some ⟨6,0,some 0⟩) ((whL (mayG n []) x).length+1) 0=Value.slice (some ⟨0,0,some 0⟩) (whL (mayG n []) y).length 0)∧Ob (ma2N1 n x y)∧True)∨∃ (y:Nat),Ob (ma2N10 n y)∧Ob (n-y<n-x)∧(Ob (AObj.rw (List.map (Value.int IntKind.i64) (whL (mayG n []) x)++[vi (x:Int)]) (some 1)=AObj.rw (List.map (nmap1 (nsub 0 6)) (ma2N3 n y)) (some 1)∧AObj.sc 1 (ma2N15 n y)=true)∧True)∧Ob (ma2N8 n)∧Ob (ma2N0 n)∧Ob (ma2N0 n)∧Ob ((0:Int)=(0:Int))∧Ob (Value.slice (some ⟨6,0,some 0⟩) ((whL (mayG n []) x).length+1) 0=Value.slice (some ⟨6,0,some 0⟩) (whL (mayG n []) y).length 0)∧Ob (ma2N1 n x y)∧True))∧((ma2N2 n x)=false→((∃ (y:Nat),Ob (ma2N9 n y)∧Ob (n-y<n-x)∧True∧Ob (ma2N8 n)∧Ob (ma2N0 n)∧Ob (ma2N0 n)∧Ob ((0:Int)=(0:Int))∧Ob (ma2N7 n x)∧Ob (ma2N1 n x y)∧True)∨∃ (y:Nat),Ob (ma2N9 n y)∧Ob (n-y<n-x)∧True∧Ob (ma2N8 n)∧Ob (ma2N0 n)∧Ob (ma2N0 n)∧Ob ((0:Int)=(0:Int))∧Ob (ma2N7 n x)∧Ob (ma2N1 n x y)∧True)∨(∃ (y:Nat),Ob (ma2N10 n y)∧Ob (n-y<n-x)∧(Ob (AObj.rw (ma2N14 n x) (some 1)=AObj.rw (List.map (nmap1 fun (b:Nat)↦b) (ma2N3 n y)) (some 1)∧AObj.sc 1 (ma2N15 n y)=true)∧True)∧Ob (ma2N8 n)∧Ob (ma2N0 n)∧Ob (ma2N0 n)∧Ob ((0:Int)=(0:Int))∧Ob (Value.slice (some ⟨0,0,some 0⟩) (whL (mayG n []) x).length 0=Value.slice (some ⟨0,0,some 0⟩) (whL (mayG n []) y).length 0)∧Ob (ma2N1 n x y)∧True)∨∃ (y:Nat),Ob (ma2N10 n y)∧Ob (n-y<n-x)∧False∧Ob (ma2N8 n)∧Ob (ma2N0 n)∧Ob (ma2N0 n)∧Ob ((0:Int)=(0:Int))∧Ob (Value.slice (some ⟨0,0,some 0⟩) (whL (mayG n []) x).length 0=Value.slice (some ⟨6,0,some 0⟩) (whL (mayG n []) y).length 0)∧Ob (ma2N1 n x y)∧True))∧(decide ((x:Int)<(n:Int))=false→(Ob (AObj.rw (ma2N14 n x) (some 1)=AObj.rw (List.map (nmap1 fun (b:Nat)↦b) (List.map (Value.int IntKind.i64) (whL (mayG n []) n))) (some 1)∧AObj.sc 1 (AObj.rw (List.map (Value.int IntKind.i64) (whL (mayG n []) n)) (some 1))=true)∧True)∧Ob (Value.tuple ⟨[Value.slice (some ⟨0,0,some 0⟩) (whL (mayG n []) x).length 0,vi (0:Int)]⟩=Value.tuple (ma2N4 n))∧True))
theorem ma2N_eq : ma2N = fun (n : Nat) => vc Try.prog ma2Z 0 40 true (ma2I n [] nilS 0 [] [nsub 0 5] [fun b => b,nsub 0 6]) ma2B [] (argFr 0 [vi n,nilS]) [] (retR Try.prog Try.f31 0 (fun b => b) (.tuple #[newS 0 (whL (mayG n []) n).length,vi 0]) [rws (whL (mayG n []) n)]) := by kernel_rfl
noncomputable def ma2H0 (n:Nat) (s:Option Nat) (c:Nat):Prop := (Value.slice (some ⟨0,0,s⟩) 0 c=Value.slice (some ⟨0,0,s⟩) 0 c)
noncomputable def ma2H1 (n:Nat) (s:Option Nat) (c:Nat):Prop := (Value.slice none 0 0=Value.slice none 0 0)
noncomputable def ma2H2 (n:Nat) (s:Option Nat) (c:Nat):Prop := (Value.slice (some ⟨0,0,s⟩) 0 c=Value.slice (some ⟨nsub 1 7 0,0,s⟩) 0 c)
noncomputable def ma2H3 (n:Nat) (s:Option Nat) (c:Nat) (x:Nat) (y:Nat):Prop := (IntKind.i64.wrap ((x:Int)+(1:Int))=(y:Int))
noncomputable def ma2H4 (n:Nat) (s:Option Nat) (c:Nat) (x:Nat):Bool := ((↑(1:Nat):Int)-(↑(fullTo (Arg.plain (vi (n:Int))).num [intOf (vi (x:Int))] (Arg.plain (vi (n:Int))).num.toNat).length:Int)==(0:Int))
noncomputable def ma2H5 (n:Nat) (s:Option Nat) (c:Nat):Array Value := ⟨[Value.slice (some ⟨1,0,some 0⟩) (whL (mayG n []) n).length 0,vi (0:Int)]⟩
noncomputable def ma2H6 (n:Nat) (s:Option Nat) (c:Nat) (y:Nat) := (List.map (Value.int IntKind.i64) (whL (mayG n []) y))
noncomputable def ma2H7 (n:Nat) (s:Option Nat) (c:Nat) := (andP (some (0+1≤1∧true=true)) (1≤1099511627776∧2064≤281474976710656∧1=1∧0<1∧0+0≤0))
noncomputable def ma2H8 (n:Nat) (s:Option Nat) (c:Nat):Prop := (Value.slice (some ⟨0,0,s⟩) 0 c=Value.slice (some ⟨nsub 1 6 0,0,s⟩) 0 c)
noncomputable def ma2H9 (n:Nat) (s:Option Nat) (c:Nat) (x:Nat):Prop := (Value.slice (some ⟨7,0,some 0⟩) ((whL (mayG n []) x).length+1) 0=Value.slice none 0 0)
noncomputable def ma2H10 (n:Nat) (s:Option Nat) (c:Nat) (x:Nat):Prop := (Value.slice (some ⟨1,0,some 0⟩) (whL (mayG n []) x).length 0=Value.slice none 0 0)
noncomputable def ma2H :=
fun (n:Nat) (s:Option Nat) (c:Nat)↦Ob (errD (Arg.plain (vi (n:Int))).num []=(0:Int))∧(false=true→Ob (errD (Arg.plain (vi (n:Int))).num []=(0:Int))∧False∧Ob (Value.tuple ⟨[Value.slice none 0 0,vi (0:Int)]⟩=Value.tuple (ma2H5 n s c))∧True)∧(false=false→((∃ (y:Nat),Ob (y≤n∧whL (mayG n []) y=[])∧True∧Ob ((n:Int)=(n:Int))∧Ob (ma2H0 n s c)∧Ob (ma2H1 n s c)∧Ob ((0:Int)=(0:Int))∧Ob (ma2H1 n s c)∧Ob ((0:Int)=(y:Int))∧True)∨∃ (y:Nat),Ob (y≤n∧whL (mayG n []) y≠[])∧False∧Ob ((n:Int)=(n:Int))∧Ob (ma2H0 n s c)∧Ob (ma2H1 n s c)∧Ob ((0:Int)=(0:Int))∧Ob (Value.slice none 0 0=Value.slice (some ⟨1,0,some 0⟩) (whL (mayG n []) y).length 0)∧Ob ((0:Int)=(y:Int))∧True)∧(∀ (x:Nat),Ob (x≤n∧whL (mayG n []) x=[])→(decide ((x:Int)<(n:Int))=true→Ob (0≤1099511627776∧2048≤281474976710656∧1=1∧0≤0)∧Ob (ma2H7 n s c)∧Ob (([vi (x:Int)]=[vi (intOf (vi (x:Int)))]∧0+1≤1∧true=true)∧((0:Int)<(Arg.plain (vi (n:Int))).num∧(Arg.plain (vi (n:Int))).num≤(8:Int))∧0<1∧(∀ (x_1:Int),x_1∈[intOf (vi (x:Int))]→(0:Int)≤x_1∧x_1<(Arg.plain (vi (n:Int))).num)∧1≤13)∧((ma2H4 n s c x)=true→Ob (andP (some (0+1≤1∧true=true)) (1≤1099511627776∧2064≤281474976710656∧1=1∧0=0∧0<1))∧((∃ (y:Nat),Ob (y≤n∧whL (mayG n []) y=[])∧Ob (n-y<n-x)∧True∧Ob ((n:Int)=(n:Int))∧Ob (ma2H0 n s c)∧Ob (ma2H1 n s c)∧Ob ((0:Int)=(0:Int))∧Ob (Value.slice (some ⟨6,0,some 0⟩) 1 0=Value.slice none 0 0)∧Ob (ma2H3 n s c x y)∧True)∨∃ (y:Nat),Ob (y≤n∧whL (mayG n []) y≠[])∧Ob (n-y<n-x)∧(Ob (AObj.rw [vi (x:Int)] (some 1)=AObj.rw (List.map (nmap1 (nsub 1 6)) (ma2H6 n s c y)) (some 1)∧AObj.sc 2 (AObj.rw (ma2H6 n s c y) (some 1))=true)∧True)∧Ob ((n:Int)=(n:Int))∧Ob (ma2H8 n s c)∧Ob (ma2H1 n s c)∧Ob ((0:Int)=(0:Int))∧Ob (Value.slice (some ⟨6,0,some 0⟩) 1 0=Value.slice (some ⟨6,0,some 0⟩) (whL (mayG n []) y).length 0)∧Ob (ma2H3 n s c x y)∧True))∧((ma2H4 n s c x)=false→(∃ (y:Nat),Ob (y≤n∧whL (mayG n []) y=[])∧Ob (n-y<n-x)∧True∧Ob ((n:Int)=(n:Int))∧Ob (ma2H0 n s c)∧Ob (ma2H1 n s c)∧Ob ((0:Int)=(0:Int))∧Ob (ma2H1 n s c)∧Ob (ma2H3 n s c x y)∧True)∨∃ (y:Nat),Ob (y≤n∧whL (mayG n []) y≠[])∧Ob (n-y<n-x)∧False∧Ob ((n:Int)=(n:Int))∧Ob (ma2H8 n s c)∧Ob (ma2H1 n s c)∧Ob ((0:Int)=(0:Int))∧Ob (Value.slice none 0 0=Value.slice (some ⟨6,0,some 0⟩) (whL (mayG n []) y).length 0)∧Ob (ma2H3 n s c x y)∧True))∧(decide ((x:Int)<(n:Int))=false→False∧Ob (Value.tuple ⟨[Value.slice none 0 0,vi (0:Int)]⟩=Value.tuple (ma2H5 n s c))∧True))∧∀ (x:Nat),Ob (x≤n∧whL (mayG n []) x≠[])→(decide ((x:Int)<(n:Int))=true→Ob (0≤1099511627776∧2048≤281474976710656∧1=1∧0≤0)∧Ob (ma2H7 n s c)∧Ob (([vi (x:Int)]=[vi (intOf (vi (x:Int)))]∧0+1≤1∧true=true)∧((0:Int)<(Arg.plain (vi (n:Int))).num∧(Arg.plain (vi (n:Int))).num≤(8:Int))∧0<1∧(∀ (x_1:Int),x_1∈[intOf (vi (x:Int))]→(0:Int)≤x_1∧x_1<(Arg.plain (vi (n:Int))).num)∧1≤13)∧((ma2H4 n s c x)=true→Ob (andP (some (0+1≤1∧true=true)) ((whL (mayG n []) x).length+1≤1099511627776∧(2 * ((whL (mayG n []) x).length+1)+256) * 8≤281474976710656∧1=1∧(List.map (Value.int IntKind.i64) (whL (mayG n []) x)).length=(whL (mayG n []) x).length * 1))∧(((∃ (y:Nat),Ob (y≤n∧whL (mayG n []) y=[])∧Ob (n-y<n-x)∧True∧Ob ((n:Int)=(n:Int))∧Ob (ma2H0 n s c)∧Ob (ma2H1 n s c)∧Ob ((0:Int)=(0:Int))∧Ob (ma2H9 n s c x)∧Ob (ma2H3 n s c x y)∧True)∨∃ (y:Nat),Ob (y≤n∧whL (mayG n []) y=[])∧Ob (n-y<n-x)∧True∧Ob ((n:Int)=(n:Int))∧Ob (ma2H2 n s c)∧Ob (ma2H1 n s c)∧Ob ((0:Int)=(0:Int))∧Ob (ma2H9 n s c x)∧Ob (ma2H3 n s c x y)∧True)∨(∃ (y:Nat),Ob (y≤n∧whL (mayG n []) y≠[])∧Ob (n-y<n-x)∧(Ob (AObj.gone=AObj.rw (List.map (nmap1 fun (b:Nat)↦b) (ma2H6 n s c y)) (some 1)∧AObj.sc 2 (AObj.rw (ma2H6 n s c y) (some 1))=true)∧True)∧Ob ((n:Int)=(n:Int))∧Ob (ma2H0 n s c)∧Ob (ma2H1 n s c)∧Ob ((0:Int)=(0:Int))∧Ob (Value.slice (some ⟨7,0,some 0⟩) ((whL (mayG n []) x).length+1) 0=Value.slice (some ⟨1,0,some 0⟩) (whL (mayG n []) y).length 0)∧Ob (ma2H3 n s c x y)∧True)∨∃ (y:Nat),Ob (y≤n∧whL (mayG n []) y≠[])∧Ob (n-y<n-x)∧(Ob (AObj.rw (List.map (Value.int IntKind.i64) (whL (mayG n []) x)++[vi (x:Int)]) (some 1)=AObj.rw (List.map (nmap1 (nsub 1 7)) (ma2H6 n s c y)) (some 1)∧AObj.sc 2 (AObj.rw (ma2H6 n s c y) (some 1))=true)∧True)∧Ob ((n:Int)=(n:Int))∧Ob (ma2H2 n s c)∧Ob (ma2H1 n s c)∧Ob ((0:Int)=(0:Int))∧Ob (Value.slice (some ⟨7,0,some 0⟩) ((whL (mayG n []) x).length+1) 0=Value.slice (some ⟨7,0,some 0⟩) (whL (mayG n []) y).length 0)∧Ob (ma2H3 n s c x y)∧True))∧((ma2H4 n s c x)=false→((∃ (y:Nat),Ob (y≤n∧whL (mayG n []) y=[])∧Ob (n-y<n-x)∧True∧Ob ((n:Int)=(n:Int))∧Ob (ma2H0 n s c)∧Ob (ma2H1 n s c)∧Ob ((0:Int)=(0:Int))∧Ob (ma2H10 n s c x)∧Ob (ma2H3 n s c x y)∧True)∨∃ (y:Nat),Ob (y≤n∧whL (mayG n []) y=[])∧Ob (n-y<n-x)∧True∧Ob ((n:Int)=(n:Int))∧Ob (ma2H2 n s c)∧Ob (ma2H1 n s c)∧Ob ((0:Int)=(0:Int))∧Ob (ma2H10 n s c x)∧Ob (ma2H3 n s c x y)∧True)∨(∃ (y:Nat),Ob (y≤n∧whL (mayG n []) y≠[])∧Ob (n-y<n-x)∧(Ob (AObj.rw (List.map (Value.int IntKind.i64) (whL (mayG n []) x)) (some 1)=AObj.rw (List.map (nmap1 fun (b:Nat)↦b) (ma2H6 n s c y)) (some 1)∧AObj.sc 2 (AObj.rw (ma2H6 n s c y) (some 1))=true)∧True)∧Ob ((n:Int)=(n:Int))∧Ob (ma2H0 n s c)∧Ob (ma2H1 n s c)∧Ob ((0:Int)=(0:Int))∧Ob (Value.slice (some ⟨1,0,some 0⟩) (whL (mayG n []) x).length 0=Value.slice (some ⟨1,0,some 0⟩) (whL (mayG n []) y).length 0)∧Ob (ma2H3 n s c x y)∧True)∨∃ (y:Nat),Ob (y≤n∧whL (mayG n []) y≠[])∧Ob (n-y<n-x)∧False∧Ob ((n:Int)=(n:Int))∧Ob (ma2H2 n s c)∧Ob (ma2H1 n s c)∧Ob ((0:Int)=(0:Int))∧Ob (Value.slice (some ⟨1,0,some 0⟩) (whL (mayG n []) x).length 0=Value.slice (some ⟨7,0,some 0⟩) (whL (mayG n []) y).length 0)∧Ob (ma2H3 n s c x y)∧True))∧(decide ((x:Int)<(n:Int))=false→(Ob (AObj.rw (List.map (Value.int IntKind.i64) (whL (mayG n []) x)) (some 1)=AObj.rw (List.map (nmap1 fun (b:Nat)↦b) (List.map (Value.int IntKind.i64) (whL (mayG n []) n))) (some 1)∧AObj.sc 2 (AObj.rw (List.map (Value.int IntKind.i64) (whL (mayG n []) n)) (some 1))=true)∧True)∧Ob (Value.tuple ⟨[Value.slice (some ⟨1,0,some 0⟩) (whL (mayG n []) x).length 0,vi (0:Int)]⟩=Value.tuple (ma2H5 n s c))∧True))
theorem ma2H_eq : ma2H = fun (n : Nat) (s : Option Nat) (c : Nat) => vc Try.prog ma2Z 1 40 true (ma2I n [] (.slice (some ⟨0,0,s⟩) 0 c) 1 [.gone] [nsub 1 6] [fun b => b,nsub 1 7]) ma2B [] (argFr 0 [vi n,.slice (some ⟨0,0,s⟩) 0 c]) [.gone] (retR Try.prog Try.f31 1 (fun b => b) (.tuple #[newS 1 (whL (mayG n []) n).length,vi 0]) [.gone,rws (whL (mayG n []) n)]) := by kernel_rfl
theorem wh_more {g : Nat→Bool} {x : Nat} (h : g x = true) : whL g (x + 1) = whL g x ++ [(x : Int)] := by rw [whL_succ,if_pos h]
theorem wh_same {g : Nat→Bool} {x : Nat} (h : g x = false) : whL g (x + 1) = whL g x := by rw [whL_succ,if_neg (by rw [h]; exact Bool.false_ne_true)]
theorem ma_full {n x : Nat} {l : List Int} (hx : ∀ y ∈ l ++ [(x : Int)],0≤y∧y < (n : Int)) : (runA n (l ++ [(x : Int)])).fell = ((l.length + 1 : Nat) : Int) - (fullTo n (l ++ [(x : Int)]) n).length := by
 rw [fell_is hx,List.length_append,List.length_singleton]
theorem ma_yes {n x : Nat} {l : List Int} (hx : ∀ y ∈ l ++ [(x : Int)],0≤y∧y < (n : Int)) (h : ((l.length + 1 : Nat) : Int) - (fullTo n (l ++ [(x : Int)]) n).length = 0) : mayG n l x = true := decide_eq_true (by rw [ma_full hx,h])
theorem ma_no {n x : Nat} {l : List Int} (hx : ∀ y ∈ l ++ [(x : Int)],0≤y∧y < (n : Int)) (h : ¬((l.length + 1 : Nat) : Int) - (fullTo n (l ++ [(x : Int)]) n).length = 0) : mayG n l x = false := decide_eq_false (by rw [ma_full hx]; exact h)
theorem ma2V_ok (n : Nat) (l : List Int) (c : Nat) (he : errD n l = 0) (h0 : 0 < l.length) (hf : (runA n l).fell = 0) (hne : whL (mayG n l) n ≠ []) : ma2V n l c := by
 have n1 := n_pos he
 obtain ⟨hn,hb,hl⟩ := pre_ok he
 have hled : ledC n l = 0 := if_pos hf
 have hx : ∀ x : Nat,x < n→∀ y ∈ l ++ [(x : Int)],0≤y∧y < (n : Int) := fun x h y hy => by
   rcases List.mem_append.1 hy with hy | hy
   · exact hb y hy
   · rw [List.mem_singleton.1 hy]; omega
 have tkl : ∀ x : Int,List.take (l.length + 1) (l ++ [x]) = l ++ [x] := fun x => List.take_of_length_le (by rw [List.length_append,List.length_singleton]; exact Nat.le_refl _)
 have tkm : ∀ x : Int,List.take (l.length + 1) (List.map (Value.int .i64) (l ++ [x])) = List.map (Value.int .i64) (l ++ [x]) := fun x => List.take_of_length_le (by rw [List.length_map,List.length_append,List.length_singleton]; exact Nat.le_refl _)
 have hw : ∀ x : Nat,x < n→IntKind.i64.wrap ((x : Int) + 1) = ((x + 1 : Nat) : Int) := fun x h => by rw [wrap_in (by omega) (by omega)]; rfl
 have wl := fun x : Nat => whL_len (g := mayG n l) (i := x)
 unfold ma2V ma2V18 ma2V17 ma2V16 ma2V15 ma2V14 ma2V13 ma2V12 ma2V11 ma2V10 ma2V9 ma2V8 ma2V7 ma2V6 ma2V5 ma2V4 ma2V3 ma2V2 ma2V1 ma2V0
 simp only [SS,reduceCtorEq,Arg.list,Arg.num,Arg.flag,intOf,andP,Nat.reduceLeDiff,Nat.reduceAdd,Nat.reduceMul,Nat.reduceLT,he,hled,Int.toNat_natCast,tkl,tkm,List.nil_append]
 have yes := fun x (h : x < n) => ma_yes (hx x h)
 have no := fun x (h : x < n) => ma_no (hx x h)
 generalize mayG n l = g at *
 refine ⟨h0,⟨0,⟨by omega,rfl⟩,rfl⟩,fun x ⟨h1,h2⟩ => ⟨fun h3 => ⟨⟨by omega,by omega,by omega⟩,⟨by omega,by omega⟩,⟨⟨by omega,by omega⟩,by omega,hx x (by omega),hl⟩,fun h4 => ⟨x + 1,⟨by omega,?_⟩,by omega,?_,?_,hw x (by omega)⟩,fun h4 => ⟨x + 1,⟨by omega,?_⟩,by omega,hw x (by omega)⟩⟩,fun h3 => ?_⟩,
   fun x ⟨h1,h2⟩ => ⟨fun h3 => ⟨⟨by omega,by omega,by omega⟩,⟨by omega,by omega⟩,⟨⟨by omega,by omega⟩,by omega,hx x (by omega),hl⟩,fun h4 => ⟨⟨by have := wl x; omega,by have := wl x; omega⟩,x + 1,⟨by omega,?_⟩,by omega,?_,?_,hw x (by omega)⟩,fun h4 => ⟨x + 1,⟨by omega,?_⟩,by omega,?_,?_,hw x (by omega)⟩⟩,fun h3 => ?_⟩⟩
 · rw [wh_more (yes x (by omega) h4),h2]; simp
 · rw [wh_more (yes x (by omega) h4),h2]; rfl
 · rw [wh_more (yes x (by omega) h4),h2]; rfl
 · rw [wh_same (no x (by omega) h4),h2]
 · obtain rfl : x = n := by omega
   exact hne h2
 · rw [wh_more (yes x (by omega) h4)]; simp
 · rw [wh_more (yes x (by omega) h4)]
 · rw [wh_more (yes x (by omega) h4),List.length_append]; rfl
 · rw [wh_same (no x (by omega) h4)]; exact h2
 · rw [wh_same (no x (by omega) h4)]
 · rw [wh_same (no x (by omega) h4)]
 · obtain rfl : x = n := by omega
   exact ⟨rfl,rfl⟩
theorem ma2E0_ok (n : Nat) (l : List Int) (c : Nat) (he : errD n l = 0) (h0 : 0 < l.length) (hf : (runA n l).fell = 0) (hne : whL (mayG n l) n = []) : ma2E0 n l c := by
 have n1 := n_pos he
 obtain ⟨hn,hb,hl⟩ := pre_ok he
 have hled : ledC n l = 0 := if_pos hf
 have hx : ∀ x : Nat,x < n→∀ y ∈ l ++ [(x : Int)],0≤y∧y < (n : Int) := fun x h y hy => by
   rcases List.mem_append.1 hy with hy | hy
   · exact hb y hy
   · rw [List.mem_singleton.1 hy]; omega
 have tkl : ∀ x : Int,List.take (l.length + 1) (l ++ [x]) = l ++ [x] := fun x => List.take_of_length_le (by rw [List.length_append,List.length_singleton]; exact Nat.le_refl _)
 have tkm : ∀ x : Int,List.take (l.length + 1) (List.map (Value.int .i64) (l ++ [x])) = List.map (Value.int .i64) (l ++ [x]) := fun x => List.take_of_length_le (by rw [List.length_map,List.length_append,List.length_singleton]; exact Nat.le_refl _)
 have hw : ∀ x : Nat,x < n→IntKind.i64.wrap ((x : Int) + 1) = ((x + 1 : Nat) : Int) := fun x h => by rw [wrap_in (by omega) (by omega)]; rfl
 have wl := fun x : Nat => whL_len (g := mayG n l) (i := x)
 unfold ma2E0 ma2E0_s18 ma2E0_s17 ma2E0_s16 ma2E0_s15 ma2E0_s14 ma2E0_s13 ma2E0_s12 ma2E0_s11 ma2E0_s10 ma2E0_s9 ma2E0_s8 ma2E0_s7 ma2E0_s6 ma2E0_s5 ma2E0_s4 ma2E0_s3 ma2E0_s2 ma2E0_s1 ma2E0_s0
 simp only [SS,reduceCtorEq,Arg.list,Arg.num,Arg.flag,intOf,andP,Nat.reduceLeDiff,Nat.reduceAdd,Nat.reduceMul,Nat.reduceLT,he,hled,Int.toNat_natCast,tkl,tkm,List.nil_append]
 have yes := fun x (h : x < n) => ma_yes (hx x h)
 have no := fun x (h : x < n) => ma_no (hx x h)
 generalize mayG n l = g at *
 refine ⟨h0,⟨0,⟨by omega,rfl⟩,rfl⟩,fun x ⟨h1,h2⟩ h3 => ⟨⟨by omega,by omega,by omega⟩,⟨by omega,by omega⟩,⟨⟨by omega,by omega⟩,by omega,hx x (by omega),hl⟩,fun h4 => ⟨x + 1,⟨by omega,?_⟩,by omega,?_,?_,hw x (by omega)⟩,fun h4 => ⟨x + 1,⟨by omega,?_⟩,by omega,hw x (by omega)⟩⟩,
   fun x ⟨h1,h2⟩ => ⟨fun h3 => ⟨⟨by omega,by omega,by omega⟩,⟨by omega,by omega⟩,⟨⟨by omega,by omega⟩,by omega,hx x (by omega),hl⟩,fun h4 => ⟨⟨by have := wl x; omega,by have := wl x; omega⟩,x + 1,⟨by omega,?_⟩,by omega,?_,?_,hw x (by omega)⟩,fun h4 => ⟨x + 1,⟨by omega,?_⟩,by omega,?_,?_,hw x (by omega)⟩⟩,fun h3 => ?_⟩⟩
 · rw [wh_more (yes x (by omega) h4),h2]; simp
 · rw [wh_more (yes x (by omega) h4),h2]; rfl
 · rw [wh_more (yes x (by omega) h4),h2]; rfl
 · rw [wh_same (no x (by omega) h4),h2]
 · rw [wh_more (yes x (by omega) h4)]; simp
 · rw [wh_more (yes x (by omega) h4)]
 · rw [wh_more (yes x (by omega) h4),List.length_append]; rfl
 · rw [wh_same (no x (by omega) h4)]; exact h2
 · rw [wh_same (no x (by omega) h4)]
 · rw [wh_same (no x (by omega) h4)]
 · obtain rfl : x = n := by omega
   exact absurd hne h2
theorem ma2N_ok (n : Nat) (he : errD n [] = 0) (hne : whL (mayG n []) n ≠ []) : ma2N n := by
 have n1 := n_pos he
 obtain ⟨hn,hb,hl⟩ := pre_ok he
 have hx : ∀ x : Nat,x < n→∀ y ∈ [] ++ [(x : Int)],0≤y∧y < (n : Int) := fun x h y hy => by
   rw [List.mem_singleton.1 hy]; omega
 have hw : ∀ x : Nat,x < n→IntKind.i64.wrap ((x : Int) + 1) = ((x + 1 : Nat) : Int) := fun x h => by rw [wrap_in (by omega) (by omega)]; rfl
 have wl := fun x : Nat => whL_len (g := mayG n []) (i := x)
 unfold ma2N ma2N15 ma2N14 ma2N13 ma2N12 ma2N11 ma2N10 ma2N9 ma2N8 ma2N7 ma2N6 ma2N5 ma2N4 ma2N3 ma2N2 ma2N1 ma2N0
 simp only [SS,reduceCtorEq,Arg.list,Arg.num,Arg.flag,intOf,andP,Nat.reduceLeDiff,Nat.reduceAdd,Nat.reduceMul,Nat.reduceLT,he,Int.toNat_natCast,List.nil_append]
 have yes := fun x (h : x < n) => ma_yes (hx x h)
 have no := fun x (h : x < n) => ma_no (hx x h)
 generalize mayG n [] = g at *
 refine ⟨⟨0,⟨by omega,rfl⟩,rfl⟩,fun x ⟨h1,h2⟩ => ⟨fun h3 => ⟨⟨⟨by omega,by omega⟩,hx x (by omega)⟩,fun h4 => ⟨x + 1,⟨by omega,?_⟩,by omega,?_,?_,hw x (by omega)⟩,fun h4 => ⟨x + 1,⟨by omega,?_⟩,by omega,hw x (by omega)⟩⟩,fun h3 => ?_⟩,
   fun x ⟨h1,h2⟩ => ⟨fun h3 => ⟨⟨⟨by omega,by omega⟩,hx x (by omega)⟩,fun h4 => ⟨⟨by have := wl x; omega,by have := wl x; omega⟩,x + 1,⟨by omega,?_⟩,by omega,?_,?_,hw x (by omega)⟩,fun h4 => ⟨x + 1,⟨by omega,?_⟩,by omega,?_,?_,hw x (by omega)⟩⟩,fun h3 => ?_⟩⟩
 · rw [wh_more (yes x (by omega) h4),h2]; simp
 · rw [wh_more (yes x (by omega) h4),h2]; rfl
 · rw [wh_more (yes x (by omega) h4),h2]; rfl
 · rw [wh_same (no x (by omega) h4),h2]
 · obtain rfl : x = n := by omega
   exact hne h2
 · rw [wh_more (yes x (by omega) h4)]; simp
 · rw [wh_more (yes x (by omega) h4)]
 · rw [wh_more (yes x (by omega) h4),List.length_append]; rfl
 · rw [wh_same (no x (by omega) h4)]; exact h2
 · rw [wh_same (no x (by omega) h4)]
 · rw [wh_same (no x (by omega) h4)]
 · obtain rfl : x = n := by omega
   exact ⟨rfl,rfl⟩
theorem ma2H_ok (n : Nat) (s : Option Nat) (c : Nat) (he : errD n [] = 0) (hne : whL (mayG n []) n ≠ []) : ma2H n s c := by
 have n1 := n_pos he
 obtain ⟨hn,hb,hl⟩ := pre_ok he
 have hx : ∀ x : Nat,x < n→∀ y ∈ [] ++ [(x : Int)],0≤y∧y < (n : Int) := fun x h y hy => by
   rw [List.mem_singleton.1 hy]; omega
 have hw : ∀ x : Nat,x < n→IntKind.i64.wrap ((x : Int) + 1) = ((x + 1 : Nat) : Int) := fun x h => by rw [wrap_in (by omega) (by omega)]; rfl
 have wl := fun x : Nat => whL_len (g := mayG n []) (i := x)
 unfold ma2H ma2H10 ma2H9 ma2H8 ma2H7 ma2H6 ma2H5 ma2H4 ma2H3 ma2H2 ma2H1 ma2H0
 simp only [SS,reduceCtorEq,Arg.list,Arg.num,Arg.flag,intOf,andP,Nat.reduceLeDiff,Nat.reduceAdd,Nat.reduceMul,Nat.reduceLT,he,Int.toNat_natCast,List.nil_append]
 have yes := fun x (h : x < n) => ma_yes (hx x h)
 have no := fun x (h : x < n) => ma_no (hx x h)
 generalize mayG n [] = g at *
 refine ⟨⟨0,⟨by omega,rfl⟩,rfl⟩,fun x ⟨h1,h2⟩ => ⟨fun h3 => ⟨⟨⟨by omega,by omega⟩,hx x (by omega)⟩,fun h4 => ⟨x + 1,⟨by omega,?_⟩,by omega,?_,rfl,?_,hw x (by omega)⟩,fun h4 => ⟨x + 1,⟨by omega,?_⟩,by omega,hw x (by omega)⟩⟩,fun h3 => ?_⟩,
   fun x ⟨h1,h2⟩ => ⟨fun h3 => ⟨⟨⟨by omega,by omega⟩,hx x (by omega)⟩,fun h4 => ⟨⟨by have := wl x; omega,by have := wl x; omega⟩,x + 1,⟨by omega,?_⟩,by omega,?_,rfl,?_,hw x (by omega)⟩,fun h4 => ⟨x + 1,⟨by omega,?_⟩,by omega,?_,?_,hw x (by omega)⟩⟩,fun h3 => ?_⟩⟩
 · rw [wh_more (yes x (by omega) h4),h2]; simp
 · rw [wh_more (yes x (by omega) h4),h2]; rfl
 · rw [wh_more (yes x (by omega) h4),h2]; rfl
 · rw [wh_same (no x (by omega) h4),h2]
 · obtain rfl : x = n := by omega
   exact hne h2
 · rw [wh_more (yes x (by omega) h4)]; simp
 · rw [wh_more (yes x (by omega) h4)]
 · rw [wh_more (yes x (by omega) h4),List.length_append]; rfl
 · rw [wh_same (no x (by omega) h4)]; exact h2
 · rw [wh_same (no x (by omega) h4)]
 · rw [wh_same (no x (by omega) h4)]
 · obtain rfl : x = n := by omega
   exact ⟨rfl,rfl⟩
theorem ma2X_ok (n : Nat) (l : List Int) (c : Nat) (he : errD n l = 0) (h0 : 0 < l.length) (hf : (runA n l).fell ≠ 0) : ma2X n l c := by
 have hled : ledC n l = 20 := if_neg hf
 unfold ma2X ma2X1 ma2X0
 simp only [SS,reduceCtorEq,Arg.list,Arg.num,Arg.flag,intOf,andP,Nat.reduceLeDiff,Nat.reduceAdd,Nat.reduceMul,Nat.reduceLT,he,hled,nilS]
 exact ⟨h0,fun _ => h0,fun h => absurd h (by decide)⟩
def may2S (r : List Arg) : Option (Prop × Back) := match r with
 | [p,.ints _ l] => some (errD p.num l = 0∧0 < l.length∧(runA p.num.toNat l).fell = 0∧whL (mayG p.num.toNat l) p.num.toNat ≠ [],.both (whL (mayG p.num.toNat l) p.num.toNat) [vi 0])
 | [p,_] => some (errD p.num [] = 0∧whL (mayG p.num.toNat []) p.num.toNat ≠ [],.both (whL (mayG p.num.toNat []) p.num.toNat) [vi 0])
 | _ => none
def may2X (r : List Arg) : Prop × Value := match r with
 | [p,.ints _ l] => (errD p.num l = 0∧0 < l.length∧((runA p.num.toNat l).fell = 0→whL (mayG p.num.toNat l) p.num.toNat = []),.tuple #[nilS,vi (ledC p.num.toNat l)])
 | _ => (False,undef)
theorem ma2E_ok : VOk Try.prog ma2E := VOk.ofCt ((CtOk.none.add cr2G_ok).add fullRG_ok)
theorem ma2Z_ok : VOk Try.prog ma2Z := ⟨(CtOk.none.add cr2G_ok).add fullRG_ok,E0_ok.cc,E0_ok.yc,orcAp0_ok⟩
theorem ma2G_ok : ∀ args H φ v H' l,newG psA may2S args H = some (φ,v,H',l)→Asks φ→Call Try.prog 31 args H (fun v' H2 => v' = v∧H2 = H')∧Kept H H' l :=
 newG_ok fun r ψ b hk hs hψ => match r,hk with
   | [_,_],⟨⟨p,rfl⟩,ha,_⟩ => by
     rcases ha with rfl | ⟨s,rfl⟩ | ⟨l,rfl⟩ <;> cases hs
     · obtain ⟨n,rfl⟩ : ∃ n : Nat,p = n := errD_pos hψ.1
       have h := ma2N_ok n hψ.1 hψ.2
       rw [ma2N_eq] at h
       exact ⟨rfl,fun caps => Call.ofVcR ma2Z_ok mixed (c := ma2B) Try.func31 (by kernel_rfl) h⟩
     · obtain ⟨n,rfl⟩ : ∃ n : Nat,p = n := errD_pos hψ.1
       refine ⟨rfl,fun caps => ?_⟩
       have h := ma2H_ok n s (caps 0) hψ.1 hψ.2
       rw [ma2H_eq] at h
       exact Call.ofVcR ma2Z_ok mixed (c := ma2B) Try.func31 (by kernel_rfl) h
     · obtain ⟨n,rfl⟩ : ∃ n : Nat,p = n := errD_pos hψ.1
       refine ⟨rfl,fun caps => ?_⟩
       have h := ma2V_ok n l (caps 0) hψ.1 hψ.2.1 hψ.2.2.1 hψ.2.2.2
       rw [ma2V_eq] at h
       exact Call.ofVcR ma2E_ok mixed (c := ma2B) Try.func31 (by kernel_rfl) h
theorem ma2XG_ok : ∀ args H φ v H' l,pureG psA may2X args H = some (φ,v,H',l)→Asks φ→Call Try.prog 31 args H (fun v' H2 => v' = v∧H2 = H')∧Kept H H' l :=
 pureG_ok fun r hk hs => match r,hk with
   | [_,_],⟨⟨p,rfl⟩,ha,_⟩ => by
     rcases ha with rfl | ⟨s,rfl⟩ | ⟨l,rfl⟩
     · exact hs.elim
     · exact hs.elim
     · obtain ⟨n,rfl⟩ : ∃ n : Nat,p = n := errD_pos hs.1
       refine ⟨by simp [may2X,nilS,sc,sc2,sc1,sc0],fun caps => ?_⟩
       by_cases hf : (runA n l).fell = 0
       · have h := ma2E0_ok n l (caps 0) hs.1 hs.2.1 hf (hs.2.2 hf)
         rw [ma2E0_eq] at h
         have e : ledC n l = 0 := if_pos hf
         have k : Call Try.prog 31 [vi n,.slice (some ⟨0,0,none⟩) l.length (caps 0)] [ros l] fun v _ => v = .tuple #[nilS,vi 0] := Call.ofVc ma2E_ok mixed (c := ma2B) Try.func31 (by kernel_rfl) h
         exact k.mono fun v H h => by rw [h]; show _ = Value.tuple #[nilS,vi (ledC n l)]; rw [e]
       · have h := ma2X_ok n l (caps 0) hs.1 hs.2.1 hf
         rw [ma2X_eq] at h
         have e : ledC n l = 20 := if_neg hf
         have k : Call Try.prog 31 [vi n,.slice (some ⟨0,0,none⟩) l.length (caps 0)] [ros l] fun v _ => v = .tuple #[nilS,vi 20] := Call.ofVc ma2E_ok mixed (c := ma2B) Try.func31 (by kernel_rfl) h
         exact k.mono fun v H h => by rw [h]; show _ = Value.tuple #[nilS,vi (ledC n l)]; rw [e]
end Go.Pier.Lg
namespace Go.Pier
open Go
variable {P : Program} {H : Heap} {f : FuncId}
def roomy (H : Heap) : Value→Option (Option Prop)
 | .slice (some a) m c => match a.spot with
   | none => some (some (m≤c))
   | some k => match c with
     | 0 => match H[a.block]? with
       | some (.rw cs (some 1)) => some (some (k + m≤cs.length∧0 < m))
       | _ => none
     | _ + 1 => some none
 | _ => some none
def rooms (H : Heap) : List Value→Option (Option Prop)
 | [] => some none
 | v :: vs => match roomy H v with
   | some φ => match rooms H vs with
     | some ψ => some (andO φ ψ)
     | none => none
   | none => none
def capsOk (caps : Nat→Nat) : Nat→List Arg2→Prop
 | _,[] => True
 | i,.val _ :: r => capsOk caps i r
 | i,.ints _ l :: r => l.length≤caps i∧capsOk caps (i + 1) r
 | i,.hole s :: r => (s.isSome = true→0 < caps i)∧capsOk caps (i + 1) r
theorem roomy_ok {ρ ρ1 : Ren} {w : World} (R : Rel ρ H w) {k : IntKind} {v : Value} {ψ : Option Prop} {l : List Int} {i c : Nat} {p : Prop} (hs : sliceInts k H v = some (p,l)) (hp : p)
   (hr : roomy H v = some ψ) (hψ : Asks ψ) (he : ren ρ1 (.slice (some ⟨i,0,none⟩) l.length c) = ren ρ v) : l.length≤c := by
 unfold sliceInts at hs
 split at hs <;> try (cases hs; done)
 rename_i a n c'
 split at hs <;> simp only [Option.some.injEq,Prod.mk.injEq,reduceCtorEq] at hs
 rename_i cs hc
 obtain ⟨rfl,rfl⟩ := hs
 obtain ⟨h1,h2,h3⟩ := hp
 have hlen : (((intsOf cs).drop a.off).take n).length = n := by
   rw [List.length_take,List.length_drop,intsOf,List.length_map]; omega
 have he2 : c = ρ.cap a c' := by
   have h0 : Value.slice (some (Ren.adr ρ1 ⟨i,0,none⟩ c)) (((intsOf cs).drop a.off).take n).length (Ren.cap ρ1 ⟨i,0,none⟩ c) = Value.slice (some (Ren.adr ρ a c')) n (Ren.cap ρ a c') := he
   exact (Value.slice.inj h0).2.2
 rw [hlen,he2]
 unfold roomy at hr
 unfold Ren.cap
 cases ha : a.spot with
 | none =>
   simp only [ha,Option.some.injEq] at hr
   subst hr
   exact hψ
 | some k' =>
   cases c' with
   | succ c' => unfold std at h3; rw [ha] at h3; cases h3
   | zero =>
     simp only [ha] at hr
     split at hr <;> simp only [Option.some.injEq,reduceCtorEq] at hr
     rename_i cs2 hb
     subst hr
     obtain ⟨_,cs',t,_,_,h5,h6⟩ := R.obj _ _ hb
     have h7 : k' + n≤cs2.length := (show k' + n≤cs2.length∧0 < n from hψ).1
     simp only
     omega
theorem rooms_ok {ρ ρ1 : Ren} {w : World} (R : Rel ρ H w) {σ : Nat→Nat} {B : List Nat} {m : Nat} {caps : Nat→Nat} : ∀ {ags : List Arg2} {vs : List Value} {i : Nat} {φ : Option Prop},ReadA2 H σ B m ags vs→rooms H vs = some φ→Asks φ →
   (canonA2 caps i ags).map (ren ρ1) = vs.map (ren ρ)→capsOk caps i ags
 | [],_,_,_,_,_,_,_ => trivial
 | .val _ :: _,[],_,_,h,_,_,_ => h.elim
 | .ints _ _ :: _,[],_,_,h,_,_,_ => h.elim
 | .hole _ :: _,[],_,_,h,_,_,_ => h.elim
 | a :: r,v :: vs,i,φ,h,hr,hφ,he => by
   unfold rooms at hr
   split at hr <;> try (cases hr; done)
   rename_i φ1 h1
   split at hr <;> cases hr
   rename_i φ2 h2
   obtain ⟨k1,k2⟩ := andO_iff.1 hφ
   cases a with
   | val u =>
     simp only [canonA2,List.map_cons,List.cons.injEq] at he
     exact rooms_ok (ags := r) R (show ReadA2 H σ B m r vs from h.2.2) h2 k2 he.2
   | ints k l =>
     simp only [canonA2,List.map_cons,List.cons.injEq] at he
     obtain ⟨⟨p,hs,hp⟩,_,h3⟩ := h
     exact ⟨roomy_ok R hs hp h1 k1 he.1,rooms_ok (ags := r) R h3 h2 k2 he.2⟩
   | hole s =>
     simp only [canonA2,List.map_cons,List.cons.injEq] at he
     refine ⟨fun hs => ?_,rooms_ok (ags := r) R (show ReadA2 H σ B m r vs from h.2) h2 k2 he.2⟩
     obtain ⟨⟨b,c,rfl⟩,_⟩ := h
     cases s with
     | none => cases hs
     | some k =>
       cases c with
       | zero =>
         unfold roomy at h1
         simp only at h1
         split at h1 <;> simp only [Option.some.injEq,reduceCtorEq] at h1
         subst h1
         exact absurd (show 0 + 0 < 0 from by have : _∧0 < 0 := k1; exact this.2) (by omega)
       | succ c =>
         rcases Nat.eq_zero_or_pos (caps i) with h0 | h0
         · rw [h0] at he
           have h4 : Value.slice (some (Ren.adr ρ1 ⟨i,0,some k⟩ 0)) 0 (Ren.cap ρ1 ⟨i,0,some k⟩ 0) = Value.slice (some (Ren.adr ρ ⟨b,0,some k⟩ (c + 1))) 0 (Ren.cap ρ ⟨b,0,some k⟩ (c + 1)) := he.1
           have h5 := congrArg Addr.spot (Option.some.inj (Value.slice.inj h4).1)
           simp [Ren.adr,Ren.addr] at h5
         · exact h0
theorem Fresh.callC {s : Fresh} (g : s.Good) {r : List Arg} {args : List Value} {φ : Option Prop} (h4 : ∀ caps,capsOk caps 0 (r.map Arg.two)→Call P f (canonA caps 0 r) (canonH r) fun v H' => v = s.val (canonH r).length∧H' = canonH r ++ s.new (canonH r).length) (hR : ReadA H r args)
   (hr : rooms H args = some φ) (hφ : Asks φ) :
   Call P f args H (fun v' H2 => v' = s.val H.length∧H2 = H ++ s.new H.length)∧Kept H (H ++ s.new H.length) [] := by
 refine ⟨?_,Kept.append _ _ _⟩
 have h5 : ∀ caps,capsOk caps 0 (r.map Arg.two)→Call P f (canonA2 caps 0 (r.map Arg.two)) ([] ++ canonH2 (r.map Arg.two)) fun v' F' => v' = s.val (canonH r).length∧F' = [] ++ canonH2 (r.map Arg.two) ++ s.new (canonH r).length := fun caps hc => by
   rw [canonA_two,canonH_two,List.nil_append]; exact h4 caps hc
 have hR2 : ReadA2 H (fun c => [].getD c 0) [] 0 (r.map Arg.two) args := read_two rfl hR
 have := Call.frameC (P := P) (f := f) (H := H) (Et := []) (Ft := []) (N := s.new (canonH r).length) (L := []) (ags := r.map Arg.two) (vs := args) (v := s.val (canonH r).length)
   (fun caps => capsOk caps 0 (r.map Arg.two)) (fun ρ w ρ1 caps R he => rooms_ok R hR2 hr hφ he) rfl rfl (by simp) (fun _ h => by cases h) (fun c o h => by simp at h) (fun _ h => by cases h)
   hR2 h5
   (by rw [List.nil_append,List.nil_append,canonH_two]; simp only [List.length_nil,nm_weak]; exact g.nmn _)
   (g.ro _)
   (by rw [List.nil_append,canonH_two]; simp only [List.length_nil,nm_weak]; exact g.nmv _)
   (by
     rw [List.nil_append,List.nil_append,canonH_two,nameL_nil]
     intro o ho
     have hm := List.mem_map_of_mem (f := omap fun c => H.length + (c - (canonH r).length)) ho
     rw [g.new] at hm
     have := g.scn H.length _ hm
     rw [show (s.new (canonH r).length).length = (s.new H.length).length by rw [← g.new (canonH r).length H.length,List.length_map]]
     exact this)
   (by
     rw [List.nil_append,canonH_two,nameL_nil,g.val]
     have := g.scv H.length
     rw [show (s.new (canonH r).length).length = (s.new H.length).length by rw [← g.new (canonH r).length H.length,List.length_map]]
     exact this)
 rw [List.nil_append,canonH_two,nameL_nil,g.val,g.new] at this
 exact this.1
def freshC (ps : List PK) (spec : List Arg→Option Fresh) : List Value→Heap→Option (Option Prop × Value × Heap × List Nat) := fun args H => match toArgs H ps args with
 | some (φ,r) => match rooms H args with
   | some ψ => match spec r with
     | some s => some (andO φ (andO ψ (some s.ask)),s.val H.length,H ++ s.new H.length,[])
     | none => none
   | none => none
 | none => none
theorem freshC_ok {ps : List PK} {spec : List Arg→Option Fresh} (h : ∀ r s,kinds ps r→spec r = some s→s.ask→s.Good∧∀ caps,capsOk caps 0 (r.map Arg.two)→Call P f (canonA caps 0 r) (canonH r) fun v H' => v = s.val (canonH r).length∧H' = canonH r ++ s.new (canonH r).length) :
   ∀ args H φ v H' l,freshC ps spec args H = some (φ,v,H',l)→Asks φ→Call P f args H (fun v' H2 => v' = v∧H2 = H')∧Kept H H' l := by
 intro args H φ v H' l hg hφ
 unfold freshC at hg
 split at hg <;> try (cases hg; done)
 rename_i φ1 r hr
 split at hg <;> try (cases hg; done)
 rename_i ψ hr2
 split at hg <;> cases hg
 rename_i s hb
 obtain ⟨h1,h2⟩ := andO_iff.1 hφ
 obtain ⟨h3,h5⟩ := andO_iff.1 h2
 obtain ⟨g,h4⟩ := h r s (toArgs_kinds hr) hb h5
 exact Fresh.callC g h4 (toArgs_ok hr h1) hr2 h3
theorem rooms_of {K : Type} {t : TypeId} {v : Value} {d : DataW K} {p : PK} (hp : pkOf P t = some p) (h : ReadsV P H t v d) : ∃ φ,roomy H v = some φ∧Asks φ := by
 obtain ⟨hs,f,hr⟩ := h
 unfold pkOf at hp
 cases f with
 | zero => exact hr.elim
 | succ f =>
 unfold shapeV at hs
 unfold Reads at hr
 split at hp
 · rename_i hu
   rw [hu] at hs hr
   simp only at hs hr
   rw [cells_plain hs] at hr
   obtain ⟨b,hb,_⟩ := hr
   cases hb
   exact ⟨none,rfl,trivial⟩
 · rename_i k hu
   rw [hu] at hs hr
   simp only at hs hr
   rw [cells_plain hs] at hr
   obtain ⟨n,hb,hw,_⟩ := hr
   cases hb
   exact ⟨none,rfl,trivial⟩
 · rename_i e hu
   rw [hu] at hs hr
   simp only at hs hr
   rw [cells_plain hs] at hr
   rcases hr with ⟨h1,_⟩ | ⟨b,s,h1,_⟩ | ⟨b,len,cap,cells,ds,sp,h1,h2,_⟩
   · cases h1; exact ⟨none,rfl,trivial⟩
   · cases h1; exact ⟨none,rfl,trivial⟩
   · cases h1; exact ⟨some (len≤cap),rfl,h2⟩
 · cases hp
theorem roomsAll {K : Type} : ∀ {ts : List TypeId} {ps : List PK} {vs : List Value} {ds : List (DataW K)},pksOf P ts = some ps→ReadsAll P H ts vs ds→∃ φ,rooms H vs = some φ∧Asks φ
 | [],_,[],_,_,_ => ⟨none,rfl,trivial⟩
 | [],_,_ :: _,[],_,h => h.elim
 | [],_,_ :: _,_ :: _,_,h => h.elim
 | _ :: _,_,[],_,_,h => h.elim
 | _ :: _,_,_ :: _,[],_,h => h.elim
 | t :: ts,ps,v :: vs,d :: ds,hp,h => by
   unfold pksOf at hp
   split at hp <;> try (cases hp; done)
   rename_i p q h1 h2
   obtain ⟨φ,k1,k2⟩ := rooms_of h1 h.1
   obtain ⟨ψ,k3,k4⟩ := roomsAll h2 h.2
   exact ⟨andO φ ψ,by unfold rooms; rw [k1,k3],andO_iff.2 ⟨k2,k4⟩⟩
theorem Call.ofArgsC {f : FuncId} {C : (Nat→Nat)→Prop} {v0 : Value} {ags : List Arg} {vs : List Value} (hr : ReadA H ags vs) (hC : ∀ caps ρ w ρ1,Rel ρ H w→(canonA caps 0 ags).map (ren ρ1) = vs.map (ren ρ)→C caps)
   (h : ∀ caps,C caps→Call P f (canonA caps 0 ags) (canonH ags) fun v _ => v = v0) (hv : sc 0 v0 = true) : Call P f vs H fun v H' => v = v0∧H' = H := fun ρ w R _ => by
 have R00 : Rel ρ [] w := ⟨fun b o hb => by simp at hb,fun b b' hb => by simp [wr] at hb,fun b b' hb => by simp [isRo] at hb,fun b b' hb => by simp [isMix] at hb,fun b o hb => by simp at hb⟩
 obtain ⟨ρ0,caps,_,R0,hst,e,s0⟩ := handAll R ags vs ρ [] hr R00 Still.nil
 simp only [List.nil_append,List.length_nil] at R0 hst e s0
 have := h caps (hC caps ρ w ρ0 R e) ρ0 w R0 s0
 rw [e] at this
 refine this.mono ?_
 rintro e' w' ⟨ρ',v,H',rfl,rfl,R',X,s'⟩
 have hk := hst.kept X
 exact ⟨ρ,v,H,by rw [ren_closed hv,ren_closed hv],⟨rfl,rfl⟩,R.keep X.size hk,Ext.keep' X.size hk X.os X.tape X.output,sc_mono (Nat.zero_le _) hv⟩
theorem law_ofC {K : Type} {f : FuncId} {ts : List TypeId} {ps : List PK} (hp : pksOf P ts = some ps) (h : ∀ r,fitsAll ps r→∀ caps,capsOk caps 0 (r.map Arg.two)→Call P f (canonA caps 0 r) (canonH r) fun v _ => v = .bool true) :
   ∀ (H : Heap) (avs : List Value) (ds : List (DataW K)),Still H→ReadsAll P H ts avs ds→Call P f avs H fun v _ => v = .bool true := fun H avs ds _ hr => by
 obtain ⟨r,h1,h2⟩ := readsAll_args hp hr
 obtain ⟨φ,h3,h4⟩ := roomsAll hp hr
 exact (Call.ofArgsC (C := fun caps => capsOk caps 0 (r.map Arg.two)) h2 (fun caps ρ w ρ1 R he => rooms_ok R (read_two (σ := fun c => c) rfl h2) h3 h4 (by rw [canonA_two]; exact he)) (h r h1) rfl).mono fun v H hv => hv.1
def aHole (P : Program) (H : Heap) (tys : Array TypeId) (s x : Value) : Option (Prop × Value × Heap) :=
 match tys[0]?,tys[1]? with
 | some t0,some t1 => match P.underlying t0,P.underlying t1,s,x with
   | some (.slice elem),some (.slice _),.slice (some a) sLen sCap,.slice xb n xc => match a.spot,Nat.beq sLen 0,H[a.block]? with
     | some _,true,some .gone => match P.info? elem,zeroT P elem with
       | some i,some z => match aFirst H i.size n (.slice xb n xc) with
         | some new => some (0 < sCap∧0 < n∧n≤1099511627776∧(2 * n + 256) * i.bytes≤281474976710656∧z.cells.size = i.size∧new.length = n * i.size,.slice (some ⟨H.length,0,some 0⟩) n 0,H ++ [.rw new (some i.size)])
         | none => none
       | _,_ => none
     | _,_,_ => none
   | _,_,_,_ => none
 | _,_ => none
theorem aHole_ok {P : Program} {H H' : Heap} {tys : Array TypeId} {s x v : Value} {φ : Prop} (h : aHole P H tys s x = some (φ,v,H')) (hφ : φ) : aAppend P H tys s x = some (v,H') := by
 unfold aHole at h
 split at h <;> try (cases h; done)
 rename_i t0 t1 h0 h1
 split at h <;> try (cases h; done)
 rename_i elem e1 a sLen sCap xb n xc hu0 hu1
 split at h <;> try (cases h; done)
 rename_i k hs hn hb
 split at h <;> try (cases h; done)
 rename_i i z hi hz
 split at h <;> cases h
 rename_i new hf
 obtain rfl := Nat.eq_of_beq_eq_true hn
 obtain ⟨k1,k2,k3,k4,k5,k6⟩ := hφ
 unfold aAppend
 simp only [h0,h1,hu0,hu1,hi,hz,Option.bind_some,hf,Nat.zero_add]
 rw [if_pos ⟨k3,k4,k5,k6⟩]
 simp only [hs,hb]
 rw [if_pos ⟨trivial,k1,k2⟩]
def orcHole (P : Program) : Orc := fun env H o => match o.op with
 | .slice t x lo hi mx => match env x,envs env lo.toList,envs env hi.toList,envs env mx.toList with
   | some (.slice (some ⟨b,f,some k⟩) 0 c),some [],some [.int .i64 0],some [.int .i64 0] => match P.underlying t with
     | some (.slice elem) => match sizeT P elem with
       | some _ => some (0 < c,some (.slice (some ⟨b,f,some k⟩) 0 c),H)
       | _ => none
     | _ => none
   | _,_,_,_ => none
 | .call c => match c.callee with
   | .builtin .append => match envs env c.args.toList with
     | some [s,x] => match aHole P H c.argTypes s x with
       | some (φ,v,H') => some (φ,some v,H')
       | none => none
     | _ => none
   | _ => none
 | _ => none
theorem orcHole_ok : OrcOk P (orcHole P) := fun env H o φ v H' h hφ => by
 unfold orcHole at h
 split at h <;> try (cases h; done)
 · rename_i t x lo hi mx hop
   split at h <;> try (cases h; done)
   rename_i b f k c h1 h2 h3 h4
   split at h <;> try (cases h; done)
   rename_i elem hu
   split at h <;> cases h
   rename_i z hs
   unfold evOp
   rw [hop]
   simp only [h1,h2,h3,h4,Option.bind_some]
   have : aSlice P H t (.slice (some ⟨b,f,some k⟩) 0 c) ([] : List Value).head? [Value.int .i64 0].head? [Value.int .i64 0].head? = some (.slice (some ⟨b,f,some k⟩) 0 c) := by
     have hc : 0 < c := hφ
     unfold aSlice
     rw [hu]
     simp only [List.head?_cons,List.head?_nil,hs,Option.bind_some]
     rw [if_neg fun h => absurd h.1 (by omega),if_pos ⟨hc,trivial⟩]
     simp [aBounds,bnd]
   rw [this]; rfl
 · rename_i c hop
   split at h <;> try (cases h; done)
   rename_i hcal
   split at h <;> try (cases h; done)
   rename_i s x hargs
   split at h <;> cases h
   rename_i v hr
   unfold evOp
   rw [hop]
   simp only [evCall,hargs,Option.bind_some,hcal,evBuiltin,aHole_ok hr hφ,Option.map_some,outOf]
end Go.Pier
set_option maxRecDepth 100000
set_option linter.unusedVariables false
set_option linter.unusedSimpArgs false
namespace Go.Pier.Lg
open Go Go.Pier Go.Proofs
def mayS (r : List Arg) : Option Fresh := match r with
 | [p,.ints _ l] => some ⟨errD p.num l = 0∧0 < l.length∧(runA p.num.toNat l).fell = 0,fun b => .tuple #[madeS b (whL (mayG p.num.toNat l) p.num.toNat).length,vi 0],fun _ => [madeA (whL (mayG p.num.toNat l) p.num.toNat)]⟩
 | [p,.plain _] => some ⟨errD p.num [] = 0,fun b => .tuple #[madeS b (whL (mayG p.num.toNat []) p.num.toNat).length,vi 0],fun _ => [madeA (whL (mayG p.num.toNat []) p.num.toNat)]⟩
 | _ => none
def mayXS (r : List Arg) : Prop × Value := match r with
 | [p,.ints _ l] => (errD p.num l = 0∧0 < l.length∧(runA p.num.toNat l).fell ≠ 0,.tuple #[nilS,vi 20])
 | _ => (False,undef)
theorem good_list2 {p : Prop} {s : Option Nat} {k c : Nat} {u : Int} {l : List Int} {r : Option Nat} : Fresh.Good ⟨p,fun b => .tuple #[.slice (some ⟨b,0,s⟩) k c,vi u],fun _ => [.rw (l.map (.int .i64)) r]⟩ where
 val e n := by simp [nmap,nmap2,nmap1,nmap0,am]
 new e n := omap_one
 ro n := mem_one rfl
 nmv n := by simp [nm,nm2,nm1,nm0]
 nmn n := mem_one nm_ints
 scv n := by simp [sc,sc2,sc1,sc0]
 scn n := mem_one sc_ints
theorem maE2_ok : VOk Try.prog maE2 := VOk.ofCt (CtOk.none.add holdsG_ok)
theorem maE3_ok : VOk Try.prog maE3 := ⟨E0_ok.ct,ccIn_ok maE2_ok mixed (inl_one Try.func63),E0_ok.yc,orcOr_ok orcSl_ok (orcOr_ok orcAp_ok orcCp_ok)⟩
theorem maE_ok (n : Nat) (l : List Int) (k : Nat) : VOk Try.prog (maE n l k) := ⟨CtOk.none.add arowG_ok,ccOr_ok (ccIn_ok E0_ok mixed (inl_one Try.func62)) (ccIn_ok maE3_ok mixed (inl_one Try.func51)),E0_ok.yc,E0_ok.orc⟩
theorem mayC_ok : ∀ args H φ v H' l,freshC psA mayS args H = some (φ,v,H',l)→Asks φ→Call Try.prog 30 args H (fun v' H2 => v' = v∧H2 = H')∧Kept H H' l :=
 freshC_ok fun r s hk hs hψ => match r,hk with
   | [_,_],⟨⟨p,rfl⟩,ha,_⟩ => by
     rcases ha with rfl | ⟨s,rfl⟩ | ⟨l,rfl⟩ <;> cases hs
     · obtain ⟨n,rfl⟩ : ∃ n : Nat,p = n := errD_pos hψ
       exact ⟨good_list2,fun caps _ => Call.ofVcR (maE_ok n [] 0) mixed (c := maB) Try.func30 (by kernel_rfl) (cast (congrFun maN_eq n) (maN_ok n hψ))⟩
     · obtain ⟨n,rfl⟩ : ∃ n : Nat,p = n := errD_pos hψ.1
       exact ⟨good_list2,fun caps hc => Call.ofVcR (maE_ok n l 1) mixed (c := maB) Try.func30 (by kernel_rfl) (cast (congrFun (congrFun (congrFun maV_eq n) l) _) (maV_ok n l _ hψ.1 hψ.2.1 hψ.2.2 hc.1))⟩
theorem mayX_ok : ∀ args H φ v H' l,pureG psA mayXS args H = some (φ,v,H',l)→Asks φ→Call Try.prog 30 args H (fun v' H2 => v' = v∧H2 = H')∧Kept H H' l :=
 pureG_ok fun r hk hs => match r,hk with
   | [_,_],⟨⟨p,rfl⟩,ha,_⟩ => by
     rcases ha with rfl | ⟨s,rfl⟩ | ⟨l,rfl⟩
     · exact hs.elim
     · exact hs.elim
     · obtain ⟨n,rfl⟩ : ∃ n : Nat,p = n := errD_pos hs.1
       exact ⟨by simp [mayXS,nilS,sc,sc2,sc1,sc0],fun caps => Call.ofVc (VOk.ofCt (CtOk.none.add arowG_ok)) mixed (c := maB) Try.func30 (by kernel_rfl) (cast (congrFun (congrFun (congrFun maX_eq n) l) _) (maX_ok n l _ hs.1 hs.2.1 hs.2.2))⟩
end Go.Pier.Lg
set_option maxRecDepth 100000
set_option linter.unusedVariables false
set_option linter.unusedSimpArgs false
namespace Go.Pier.Lg
open Go Go.Pier Go.Proofs
noncomputable def mhE2 : VEnv := { ct := Ct.none.add 64 holdsG,orc := orcHole Try.prog }
noncomputable def mhE3 : VEnv := { cc := ccIn Try.prog mhE2 [⟨63,Try.f63,fun _ _ _ => none⟩],orc := orcW }
noncomputable def mhE (n : Nat) : VEnv := { ct := Ct.none.add 32 (pureG psA arowS),cc := ccOr (ccIn Try.prog {} [⟨62,Try.f62,fun _ _ _ => none⟩]) (ccIn Try.prog mhE3 [⟨51,Try.f51,maIv n [] 1⟩]) }
noncomputable def maHs0 (n k c:Nat) (xq:Nat) := (vi (n:Int)::T8 ((runA n [(↑(xq-1):Int)]).tk) [Value.slice (some ⟨6,0,some 0⟩) 1 0,vi (runA n [(↑(xq-1):Int)]).slid,vi (runA n [(↑(xq-1):Int)]).fell])
noncomputable def maHs1 (n k c:Nat) := (vi (n:Int)::T8 emp [Value.slice none 0 0,vi (0:Int),vi (0:Int)])
noncomputable def maHs2 (n k c:Nat) (xq:Nat) := (vi (fN (maHs0 n k c xq))::T8 ((runA (fN (maHs0 n k c xq)).toNat [intOf (vi (xq:Int))]).tk) [Value.slice (some ⟨9,0,some 0⟩) 1 0,vi (runA (fN (maHs0 n k c xq)).toNat [intOf (vi (xq:Int))]).slid,vi (runA (fN (maHs0 n k c xq)).toNat [intOf (vi (xq:Int))]).fell])
noncomputable def maHs3 (n k c:Nat) := (vi (fN (maHs1 n k c))::T8 ((runA (fN (maHs1 n k c)).toNat [intOf (vi (0:Int))]).tk) [Value.slice (some ⟨8,0,some 0⟩) 1 0,vi (runA (fN (maHs1 n k c)).toNat [intOf (vi (0:Int))]).slid,vi (runA (fN (maHs1 n k c)).toNat [intOf (vi (0:Int))]).fell])
noncomputable def maHs4 (n k c:Nat):List Value := [vi (0:Int),vi (0:Int),vi (0:Int),vi (0:Int),vi (0:Int),vi (0:Int),vi (0:Int),vi (0:Int)]
noncomputable def maHs5 (n k c:Nat):List Value := [Value.slice (some ⟨0,0,some k⟩) 0 (c+1)]
noncomputable def maHs6 (n k c:Nat):Prop := (Value.func (Fn.func 63) ⟨[]⟩ ⟨[ptr0 3,ptr0 1]⟩=Value.func (Fn.func 63) ⟨[]⟩ ⟨[Value.pointer (some ⟨nsub 6 8 3,0,none⟩),ptr0 1]⟩)
noncomputable def maHs7 (n k c:Nat):Prop := (Value.func (Fn.func 63) ⟨[]⟩ ⟨[ptr0 3,ptr0 1]⟩=Value.func (Fn.func 63) ⟨[]⟩ ⟨[Value.pointer (some ⟨nsub 6 9 3,0,none⟩),ptr0 1]⟩)
noncomputable def maHs8 (n k c:Nat):Prop := (AObj.rw (lgC (n:Int) emp) none=AObj.rw (lgC (n:Int) emp) none∧true=true)
noncomputable def maHs9 (n k c:Nat):Prop := (AObj.rw (maHs5 n k c) none=AObj.rw [Value.slice (some ⟨nsub 6 8 0,0,some k⟩) 0 (c+1)] none∧true=true)
noncomputable def maHs10 (n k c:Nat):Prop := (AObj.rw (maHs5 n k c) none=AObj.rw [Value.slice (some ⟨nsub 6 9 0,0,some k⟩) 0 (c+1)] none∧true=true)
noncomputable def maHs11 (n k c:Nat):Prop := (AObj.rw [ptr0 2] none=AObj.rw [ptr0 2] none∧true=true)
noncomputable def maHs12 (n k c:Nat) (xq:Nat) := (List.take ((whL (mayG n []) xq).length.min (IntKind.i64.wrap (↑(whL (mayG n []) xq).length:Int)).toNat * 1) (List.drop 0 (List.map (Value.int IntKind.i64) (whC (mayG n []) xq))))
noncomputable def maHs13 (n k c:Nat):Array Value := ⟨[Value.slice (some (ad0 7)) (whL (mayG n []) n).length (whL (mayG n []) n).length,vi (0:Int)]⟩
noncomputable def maHs14 (n k c:Nat) (xq:Nat) := (List.map (Value.int IntKind.i64) (whC (mayG n []) xq))
noncomputable def maHs15 (n k c:Nat):Prop := (Value.func (Fn.func 63) ⟨[]⟩ ⟨[ptr0 3,ptr0 1]⟩=Value.func (Fn.func 63) ⟨[]⟩ ⟨[ptr0 3,ptr0 1]⟩)
noncomputable def maHs16 (n k c:Nat) (xq:Nat) := (IntKind.i64.wrap (↑(whL (mayG n []) xq).length:Int))
noncomputable def maHs17 (n k c:Nat) (xq:Nat) := (runA (fN (maHs0 n k c xq)).toNat [intOf (vi (xq:Int))])
noncomputable def maHs18 (n k c:Nat):Prop := (AObj.rw (maHs4 n k c) none=AObj.rw (maHs4 n k c) none∧true=true)
noncomputable def maHs19 (n k c:Nat) := (runA (fN (maHs1 n k c)).toNat [intOf (vi (0:Int))])
noncomputable def maHs20 (n k c:Nat) := (Value.int IntKind.i64)
noncomputable def maHs21 (n k c:Nat) (yqqqqq:Nat) := (runA n [(↑(yqqqqq-1):Int)])
noncomputable def maHs22 (n k c:Nat) (yqqqq:Nat) := (runA n [(↑(yqqqq-1):Int)])
noncomputable def maHs23 (n k c:Nat) (xq:Nat) := (putL (maHs14 n k c xq) (0+(whL (mayG n []) xq).length * 1) [vi (xq:Int)])
noncomputable def maHs24 (n k c:Nat) (yqqq:Nat) := (runA n [(↑(yqqq-1):Int)])
noncomputable def maHs25 (n k c:Nat) (yqq:Nat) := (runA n [(↑(yqq-1):Int)])
noncomputable def maHs :=
fun (n k c:Nat)↦Ob (errD (Arg.plain (vi (n:Int))).num []=(0:Int))∧(false=true→False∧Ob (Value.tuple ⟨[Value.slice none 0 0,vi (0:Int)]⟩=Value.tuple (maHs13 n k c))∧True)∧(false=false→Ob (0+1≤1)∧Ob (some (vi (n:Int))=some (vi (n:Int)))∧Ob (((0:Int)≤(n:Int)∧(n:Int)≤(↑(8:Nat):Int))∧(0:Int)≤(0:Int)∧(0:Int)≤(↑(n:Int).toNat:Int))∧Ob (some (vi (n:Int))=some (vi (n:Int)))∧((∃ (y:Unit),Ob True∧(Ob (AObj.rw (maHs5 n k c) none=AObj.rw (maHs5 n k c) none∧true=true)∧Ob (AObj.rw (maHs1 n k c) none=AObj.rw (maHs1 n k c) none∧true=true)∧Ob (maHs11 n k c)∧Ob (maHs8 n k c)∧Ob (maHs18 n k c)∧True)∧Ob (maHs15 n k c)∧Ob (Value.slice (some (ad0 5)) 0 (n:Int).toNat=Value.slice (some (ad0 5)) 0 n)∧Ob ((n:Int)=(n:Int))∧Ob ((0:Int)=(0:Int))∧True)∨∃ (yq:Nat),Ob (0<yq∧yq≤n)∧(Ob (AObj.rw (maHs5 n k c) none=AObj.rw (maHs5 n k c) none∧true=true)∧Ob (AObj.rw (maHs1 n k c) none=AObj.rw (vi (n:Int)::T8 ((runA n [(↑(yq-1):Int)]).tk) [Value.slice (some ⟨6,0,some 0⟩) 1 0,vi (runA n [(↑(yq-1):Int)]).slid,vi (runA n [(↑(yq-1):Int)]).fell]) none∧true=true)∧Ob (maHs11 n k c)∧Ob (maHs8 n k c)∧Ob (AObj.rw (maHs4 n k c) none=AObj.rw (List.map (nmap1 fun (b:Nat)↦b) (List.map (maHs20 n k c) (whC (mayG n []) yq))) none∧AObj.sc 7 (AObj.rw (List.map (maHs20 n k c) (whC (mayG n []) yq)) none)=true)∧False)∧Ob (maHs15 n k c)∧Ob (Value.slice (some (ad0 5)) 0 (n:Int).toNat=Value.slice (some (ad0 5)) (whL (mayG n []) yq).length n)∧Ob ((n:Int)=(n:Int))∧Ob ((0:Int)=(yq:Int))∧True)∧(∀ (x:Unit),Ob True→(decide ((0:Int)<(n:Int))=true→Ob (0<c+1)∧Ob (0<c+1∧0<1∧1≤1099511627776∧2064≤281474976710656∧1=1∧1=1)∧Ob (([vi (0:Int)]=[vi (intOf (vi (0:Int)))]∧0+1≤1∧true=true)∧(maHs1 n k c)=(vi (fN (maHs1 n k c))::T8 emp [Value.slice none 0 0,vi (fS (maHs1 n k c)),vi (fF (maHs1 n k c))])∧errD (fN (maHs1 n k c)) [intOf (vi (0:Int))]=(0:Int)∧0<1∧some 7≠some 2)∧(decide ((maHs19 n k c).fell=(0:Int))=true→Ob (andP (some (0+1≤1∧true=true)) (1≤1099511627776∧2064≤281474976710656∧1=1∧1=1∧1≤n∧0<1∧0+1≤8∧true=true))∧((∃ (y:Unit),Ob True∧Ob (20<20)∧(Ob (maHs9 n k c)∧Ob (AObj.rw (maHs3 n k c) none=AObj.rw (maHs1 n k c) none∧true=true)∧Ob (maHs11 n k c)∧Ob (maHs8 n k c)∧Ob (maHs18 n k c)∧True)∧Ob (maHs6 n k c)∧Ob (Value.slice (some (ad0 5)) 1 n=Value.slice (some (ad0 5)) 0 n)∧Ob ((n:Int)=(n:Int))∧Ob (IntKind.i64.wrap ((0:Int)+(1:Int))=(0:Int))∧True)∨∃ (yqq:Nat),Ob (0<yqq∧yqq≤n)∧Ob (n-yqq<20)∧(Ob (maHs9 n k c)∧Ob (AObj.rw (maHs3 n k c) none=AObj.rw (vi (n:Int)::T8 ((maHs25 n k c yqq).tk) [Value.slice (some ⟨8,0,some 0⟩) 1 0,vi (maHs25 n k c yqq).slid,vi (maHs25 n k c yqq).fell]) none∧true=true)∧Ob (maHs11 n k c)∧Ob (maHs8 n k c)∧Ob (AObj.rw (maHs4 n k c) none=AObj.rw (List.map (nmap1 (nsub 6 8)) (List.map (maHs20 n k c) (whC (mayG n []) yqq))) none∧AObj.sc 7 (AObj.rw (List.map (maHs20 n k c) (whC (mayG n []) yqq)) none)=true)∧Ob (AObj.rw (List.map (maHs20 n k c) (maHs19 n k c).lies) (some 1)=AObj.rw (List.map (nmap1 (nsub 6 8)) (List.map (maHs20 n k c) (maHs25 n k c yqq).lies)) (some 1)∧AObj.sc 7 (AObj.rw (List.map (maHs20 n k c) (maHs25 n k c yqq).lies) (some 1))=true)∧True)∧Ob (maHs6 n k c)∧Ob (Value.slice (some (ad0 5)) 1 n=Value.slice (some (ad0 5)) (whL (mayG n []) yqq).length n)∧Ob ((n:Int)=(n:Int))∧Ob (IntKind.i64.wrap ((0:Int)+(1:Int))=(yqq:Int))∧True))∧(decide ((maHs19 n k c).fell=(0:Int))=false→(∃ (y:Unit),Ob True∧Ob (20<20)∧(Ob (maHs9 n k c)∧Ob (AObj.rw (maHs3 n k c) none=AObj.rw (maHs1 n k c) none∧true=true)∧Ob (maHs11 n k c)∧Ob (maHs8 n k c)∧Ob (maHs18 n k c)∧True)∧Ob (maHs6 n k c)∧Ob (Value.slice (some (ad0 5)) 0 n=Value.slice (some (ad0 5)) 0 n)∧Ob ((n:Int)=(n:Int))∧Ob (IntKind.i64.wrap ((0:Int)+(1:Int))=(0:Int))∧True)∨∃ (yqqq:Nat),Ob (0<yqqq∧yqqq≤n)∧Ob (n-yqqq<20)∧(Ob (maHs9 n k c)∧Ob (AObj.rw (maHs3 n k c) none=AObj.rw (vi (n:Int)::T8 ((maHs24 n k c yqqq).tk) [Value.slice (some ⟨8,0,some 0⟩) 1 0,vi (maHs24 n k c yqqq).slid,vi (maHs24 n k c yqqq).fell]) none∧true=true)∧Ob (maHs11 n k c)∧Ob (maHs8 n k c)∧Ob (AObj.rw (maHs4 n k c) none=AObj.rw (List.map (nmap1 (nsub 6 8)) (List.map (maHs20 n k c) (whC (mayG n []) yqqq))) none∧AObj.sc 7 (AObj.rw (List.map (maHs20 n k c) (whC (mayG n []) yqqq)) none)=true)∧Ob (AObj.rw (List.map (maHs20 n k c) (maHs19 n k c).lies) (some 1)=AObj.rw (List.map (nmap1 (nsub 6 8)) (List.map (maHs20 n k c) (maHs24 n k c yqqq).lies)) (some 1)∧AObj.sc 7 (AObj.rw (List.map (maHs20 n k c) (maHs24 n k c yqqq).lies) (some 1))=true)∧True)∧Ob (maHs6 n k c)∧Ob (Value.slice (some (ad0 5)) 0 n=Value.slice (some (ad0 5)) (whL (mayG n []) yqqq).length n)∧Ob ((n:Int)=(n:Int))∧Ob (IntKind.i64.wrap ((0:Int)+(1:Int))=(yqqq:Int))∧True))∧(decide ((0:Int)<(n:Int))=false→Ob ((0:Int)≤IntKind.i64.wrap (↑(0:Nat):Int)∧IntKind.i64.wrap (↑(0:Nat):Int)≤IntKind.i64.wrap (↑(0:Nat):Int)∧(↑(8:Nat):Int) * IntKind.i64.wrap (↑(0:Nat):Int)≤(281474976710656:Int))∧Ob (andP (some (0≤8∧true=true)) (0+0≤0∧true=true))∧False∧Ob (Value.tuple ⟨[Value.slice (some (ad0 6)) 0 0,vi (0:Int)]⟩=Value.tuple (maHs13 n k c))∧True))∧∀ (xq:Nat),Ob (0<xq∧xq≤n)→(decide ((xq:Int)<(n:Int))=true→Ob (0<c+1)∧Ob (0<c+1∧0<1∧1≤1099511627776∧2064≤281474976710656∧1=1∧1=1)∧Ob (([vi (xq:Int)]=[vi (intOf (vi (xq:Int)))]∧0+1≤1∧true=true)∧(maHs0 n k c xq)=(vi (fN (maHs0 n k c xq))::T8 (fT (maHs0 n k c xq)) [Value.slice (some ⟨6,0,some 0⟩) 1 0,vi (fS (maHs0 n k c xq)),vi (fF (maHs0 n k c xq))])∧List.map (maHs20 n k c) (runA n [(↑(xq-1):Int)]).lies=List.map (maHs20 n k c) (intsOf (List.map (maHs20 n k c) (runA n [(↑(xq-1):Int)]).lies))∧errD (fN (maHs0 n k c xq)) [intOf (vi (xq:Int))]=(0:Int)∧0<1∧some 8≠some 2∧some 8≠some 6∧2≠6)∧(decide ((maHs17 n k c xq).fell=(0:Int))=true→Ob (andP (some (0+1≤1∧true=true)) ((whL (mayG n []) xq).length+1≤1099511627776∧(2 * ((whL (mayG n []) xq).length+1)+256) * 8≤281474976710656∧1=1∧1=1∧(whL (mayG n []) xq).length+1≤n∧0<1∧0+(whL (mayG n []) xq).length * 1+1≤(maHs14 n k c xq).length∧true=true))∧((∃ (y:Unit),Ob True∧Ob (20<n-xq)∧(Ob (maHs10 n k c)∧Ob (AObj.rw (maHs2 n k c xq) none=AObj.rw (maHs1 n k c) none∧true=true)∧Ob (maHs11 n k c)∧Ob (maHs8 n k c)∧Ob (AObj.rw (maHs23 n k c xq) none=AObj.rw (maHs4 n k c) none∧true=true)∧True)∧Ob (maHs7 n k c)∧Ob (Value.slice (some (ad0 5)) ((whL (mayG n []) xq).length+1) n=Value.slice (some (ad0 5)) 0 n)∧Ob ((n:Int)=(n:Int))∧Ob (IntKind.i64.wrap ((xq:Int)+(1:Int))=(0:Int))∧True)∨∃ (yqqqq:Nat),Ob (0<yqqqq∧yqqqq≤n)∧Ob (n-yqqqq<n-xq)∧(Ob (maHs10 n k c)∧Ob (AObj.rw (maHs2 n k c xq) none=AObj.rw (vi (n:Int)::T8 ((maHs22 n k c yqqqq).tk) [Value.slice (some ⟨9,0,some 0⟩) 1 0,vi (maHs22 n k c yqqqq).slid,vi (maHs22 n k c yqqqq).fell]) none∧true=true)∧Ob (maHs11 n k c)∧Ob (maHs8 n k c)∧Ob (AObj.rw (maHs23 n k c xq) none=AObj.rw (List.map (nmap1 (nsub 6 9)) (List.map (maHs20 n k c) (whC (mayG n []) yqqqq))) none∧AObj.sc 7 (AObj.rw (List.map (maHs20 n k c) (whC (mayG n []) yqqqq)) none)=true)∧Ob (AObj.rw (List.map (maHs20 n k c) (maHs17 n k c xq).lies) (some 1)=AObj.rw (List.map (nmap1 (nsub 6 9)) (List.map (maHs20 n k c) (maHs22 n k c yqqqq).lies)) (some 1)∧AObj.sc 7 (AObj.rw (List.map (maHs20 n k c) (maHs22 n k c yqqqq).lies) (some 1))=true)∧True)∧Ob (maHs7 n k c)∧Ob (Value.slice (some (ad0 5)) ((whL (mayG n []) xq).length+1) n=Value.slice (some (ad0 5)) (whL (mayG n []) yqqqq).length n)∧Ob ((n:Int)=(n:Int))∧Ob (IntKind.i64.wrap ((xq:Int)+(1:Int))=(yqqqq:Int))∧True))∧(decide ((maHs17 n k c xq).fell=(0:Int))=false→(∃ (y:Unit),Ob True∧Ob (20<n-xq)∧(Ob (maHs10 n k c)∧Ob (AObj.rw (maHs2 n k c xq) none=AObj.rw (maHs1 n k c) none∧true=true)∧Ob (maHs11 n k c)∧Ob (maHs8 n k c)∧Ob (AObj.rw (maHs14 n k c xq) none=AObj.rw (maHs4 n k c) none∧true=true)∧True)∧Ob (maHs7 n k c)∧Ob (Value.slice (some (ad0 5)) (whL (mayG n []) xq).length n=Value.slice (some (ad0 5)) 0 n)∧Ob ((n:Int)=(n:Int))∧Ob (IntKind.i64.wrap ((xq:Int)+(1:Int))=(0:Int))∧True)∨∃ (yqqqqq:Nat),Ob (0<yqqqqq∧yqqqqq≤n)∧Ob (n-yqqqqq<n-xq)∧(Ob (maHs10 n k c)∧Ob (AObj.rw (maHs2 n k c xq) none=AObj.rw (vi (n:Int)::T8 ((maHs21 n k c yqqqqq).tk) [Value.slice (some ⟨9,0,some 0⟩) 1 0,vi (maHs21 n k c yqqqqq).slid,vi (maHs21 n k c yqqqqq).fell]) none∧true=true)∧Ob (maHs11 n k c)∧Ob (maHs8 n k c)∧Ob (AObj.rw (maHs14 n k c xq) none=AObj.rw (List.map (nmap1 (nsub 6 9)) (List.map (maHs20 n k c) (whC (mayG n []) yqqqqq))) none∧AObj.sc 7 (AObj.rw (List.map (maHs20 n k c) (whC (mayG n []) yqqqqq)) none)=true)∧Ob (AObj.rw (List.map (maHs20 n k c) (maHs17 n k c xq).lies) (some 1)=AObj.rw (List.map (nmap1 (nsub 6 9)) (List.map (maHs20 n k c) (maHs21 n k c yqqqqq).lies)) (some 1)∧AObj.sc 7 (AObj.rw (List.map (maHs20 n k c) (maHs21 n k c yqqqqq).lies) (some 1))=true)∧True)∧Ob (maHs7 n k c)∧Ob (Value.slice (some (ad0 5)) (whL (mayG n []) xq).length n=Value.slice (some (ad0 5)) (whL (mayG n []) yqqqqq).length n)∧Ob ((n:Int)=(n:Int))∧Ob (IntKind.i64.wrap ((xq:Int)+(1:Int))=(yqqqqq:Int))∧True))∧(decide ((xq:Int)<(n:Int))=false→Ob ((0:Int)≤IntKind.i64.wrap (↑(whL (mayG n []) xq).length:Int)∧IntKind.i64.wrap (↑(whL (mayG n []) xq).length:Int)≤IntKind.i64.wrap (↑(whL (mayG n []) xq).length:Int)∧(↑(8:Nat):Int) * IntKind.i64.wrap (↑(whL (mayG n []) xq).length:Int)≤(281474976710656:Int))∧Ob (andP (some (0+(whL (mayG n []) xq).length.min (maHs16 n k c xq).toNat * 1≤(maHs14 n k c xq).length∧true=true)) (0+(maHs12 n k c xq).length≤(List.replicate (maHs16 n k c xq).toNat (vi (0:Int))).length∧(maHs12 n k c xq).all (sc1 8)=true))∧(Ob (AObj.rw (putL (List.replicate (maHs16 n k c xq).toNat (vi (0:Int))) 0 (maHs12 n k c xq)) none=AObj.rw (List.map (nmap1 (nsub 1 7)) (List.map (maHs20 n k c) (whL (mayG n []) n))) none∧AObj.sc 2 (AObj.rw (List.map (maHs20 n k c) (whL (mayG n []) n)) none)=true)∧True)∧Ob (Value.tuple ⟨[Value.slice (some (ad0 7)) (maHs16 n k c xq).toNat (maHs16 n k c xq).toNat,vi (0:Int)]⟩=Value.tuple (maHs13 n k c))∧True))
theorem maHs_eq : maHs = fun (n k c : Nat) => vc Try.prog (mhE n) 1 22 true (fun _ => none) maB [] (argFr 0 [vi n,.slice (some ⟨0,0,some k⟩) 0 (c + 1)]) [.gone] (retR Try.prog Try.f30 1 (nsub 1 7) (.tuple #[madeS 1 (whL (mayG n []) n).length,vi 0]) [.gone,madeA (whL (mayG n []) n)]) := by kernel_rfl
noncomputable def maHn0 (n c:Nat) (xq:Nat) := (vi (n:Int)::T8 ((runA n [(↑(xq-1):Int)]).tk) [Value.slice (some ⟨6,0,some 0⟩) 1 0,vi (runA n [(↑(xq-1):Int)]).slid,vi (runA n [(↑(xq-1):Int)]).fell])
noncomputable def maHn1 (n c:Nat) := (vi (n:Int)::T8 emp [Value.slice none 0 0,vi (0:Int),vi (0:Int)])
noncomputable def maHn2 (n c:Nat):Prop := (AObj.rw [Value.slice (some (ad0 0)) 0 c] none=AObj.rw [Value.slice (some (ad0 0)) 0 c] none∧true=true)
noncomputable def maHn3 (n c:Nat) (xq:Nat) := (vi (fN (maHn0 n c xq))::T8 ((runA (fN (maHn0 n c xq)).toNat [intOf (vi (xq:Int))]).tk) [Value.slice (some ⟨9,0,some 0⟩) 1 0,vi (runA (fN (maHn0 n c xq)).toNat [intOf (vi (xq:Int))]).slid,vi (runA (fN (maHn0 n c xq)).toNat [intOf (vi (xq:Int))]).fell])
noncomputable def maHn4 (n c:Nat):List Value := [vi (0:Int),vi (0:Int),vi (0:Int),vi (0:Int),vi (0:Int),vi (0:Int),vi (0:Int),vi (0:Int)]
noncomputable def maHn5 (n c:Nat) := (vi (fN (maHn1 n c))::T8 ((runA (fN (maHn1 n c)).toNat [intOf (vi (0:Int))]).tk) [Value.slice (some ⟨8,0,some 0⟩) 1 0,vi (runA (fN (maHn1 n c)).toNat [intOf (vi (0:Int))]).slid,vi (runA (fN (maHn1 n c)).toNat [intOf (vi (0:Int))]).fell])
noncomputable def maHn6 (n c:Nat):Prop := (Value.func (Fn.func 63) ⟨[]⟩ ⟨[ptr0 3,ptr0 1]⟩=Value.func (Fn.func 63) ⟨[]⟩ ⟨[Value.pointer (some ⟨nsub 6 8 3,0,none⟩),ptr0 1]⟩)
noncomputable def maHn7 (n c:Nat):Prop := (Value.func (Fn.func 63) ⟨[]⟩ ⟨[ptr0 3,ptr0 1]⟩=Value.func (Fn.func 63) ⟨[]⟩ ⟨[Value.pointer (some ⟨nsub 6 9 3,0,none⟩),ptr0 1]⟩)
noncomputable def maHn8 (n c:Nat):Prop := (AObj.rw (lgC (n:Int) emp) none=AObj.rw (lgC (n:Int) emp) none∧true=true)
noncomputable def maHn9 (n c:Nat):Prop := (AObj.rw [ptr0 2] none=AObj.rw [ptr0 2] none∧true=true)
noncomputable def maHn10 (n c:Nat) (xq:Nat) := (List.take ((whL (mayG n []) xq).length.min (IntKind.i64.wrap (↑(whL (mayG n []) xq).length:Int)).toNat * 1) (List.drop 0 (List.map (Value.int IntKind.i64) (whC (mayG n []) xq))))
noncomputable def maHn11 (n c:Nat) := (Value.int IntKind.i64)
noncomputable def maHn12 (n c:Nat):Array Value := ⟨[Value.slice (some (ad0 7)) (whL (mayG n []) n).length (whL (mayG n []) n).length,vi (0:Int)]⟩
noncomputable def maHn13 (n c:Nat) (xq:Nat) := (↑(whL (mayG n []) xq).length:Int)
noncomputable def maHn14 (n c:Nat):Prop := (Value.func (Fn.func 63) ⟨[]⟩ ⟨[ptr0 3,ptr0 1]⟩=Value.func (Fn.func 63) ⟨[]⟩ ⟨[ptr0 3,ptr0 1]⟩)
noncomputable def maHn15 (n c:Nat) (xq:Nat) := (List.map (maHn11 n c) (whC (mayG n []) xq))
noncomputable def maHn16 (n c:Nat) (xq:Nat) := (runA (fN (maHn0 n c xq)).toNat [intOf (vi (xq:Int))])
noncomputable def maHn17 (n c:Nat) := (runA (fN (maHn1 n c)).toNat [intOf (vi (0:Int))])
noncomputable def maHn18 (n c:Nat):Prop := (AObj.rw (maHn4 n c) none=AObj.rw (maHn4 n c) none∧true=true)
noncomputable def maHn19 (n c:Nat) (yqqqqq:Nat) := (runA n [(↑(yqqqqq-1):Int)])
noncomputable def maHn20 (n c:Nat) (yqqqq:Nat) := (runA n [(↑(yqqqq-1):Int)])
noncomputable def maHn21 (n c:Nat) (yqqq:Nat) := (runA n [(↑(yqqq-1):Int)])
noncomputable def maHn22 (n c:Nat) (yqq:Nat) := (runA n [(↑(yqq-1):Int)])
noncomputable def maHn23 (n c:Nat) (xq:Nat) := (putL (maHn15 n c xq) (0+(whL (mayG n []) xq).length * 1) [vi (xq:Int)])
noncomputable def maHn24 (n c:Nat) (xq:Nat) := (IntKind.i64.wrap (maHn13 n c xq))
noncomputable def maHn25 (n c:Nat):Prop := ((n:Int)=(n:Int))
noncomputable def maHn :=
fun (n c:Nat)↦Ob (errD (Arg.plain (vi (n:Int))).num []=(0:Int))∧(false=true→False∧Ob (Value.tuple ⟨[Value.slice none 0 0,vi (0:Int)]⟩=Value.tuple (maHn12 n c))∧True)∧(false=false→Ob (0+1≤1)∧Ob (some (vi (n:Int))=some (vi (n:Int)))∧Ob (((0:Int)≤(n:Int)∧(n:Int)≤(↑(8:Nat):Int))∧(0:Int)≤(0:Int)∧(0:Int)≤(↑(n:Int).toNat:Int))∧Ob (some (vi (n:Int))=some (vi (n:Int)))∧((∃ (y:Unit),Ob True∧(Ob (maHn2 n c)∧Ob (AObj.rw (maHn1 n c) none=AObj.rw (maHn1 n c) none∧true=true)∧Ob (maHn9 n c)∧Ob (maHn8 n c)∧Ob (maHn18 n c)∧True)∧Ob (maHn14 n c)∧Ob (Value.slice (some (ad0 5)) 0 (n:Int).toNat=Value.slice (some (ad0 5)) 0 n)∧Ob (maHn25 n c)∧Ob ((0:Int)=(0:Int))∧True)∨∃ (yq:Nat),Ob (0<yq∧yq≤n)∧(Ob (maHn2 n c)∧Ob (AObj.rw (maHn1 n c) none=AObj.rw (vi (n:Int)::T8 ((runA n [(↑(yq-1):Int)]).tk) [Value.slice (some ⟨6,0,some 0⟩) 1 0,vi (runA n [(↑(yq-1):Int)]).slid,vi (runA n [(↑(yq-1):Int)]).fell]) none∧true=true)∧Ob (maHn9 n c)∧Ob (maHn8 n c)∧Ob (AObj.rw (maHn4 n c) none=AObj.rw (List.map (nmap1 fun (b:Nat)↦b) (List.map (maHn11 n c) (whC (mayG n []) yq))) none∧AObj.sc 7 (AObj.rw (List.map (maHn11 n c) (whC (mayG n []) yq)) none)=true)∧False)∧Ob (maHn14 n c)∧Ob (Value.slice (some (ad0 5)) 0 (n:Int).toNat=Value.slice (some (ad0 5)) (whL (mayG n []) yq).length n)∧Ob (maHn25 n c)∧Ob ((0:Int)=(yq:Int))∧True)∧(∀ (x:Unit),Ob True→(decide ((0:Int)<(n:Int))=true→Ob (0≤c∧((0:Int)≤(↑(0:Nat):Int)∧(↑(0:Nat):Int)≤(c:Int))∧(0:Int)≤(↑(0:Nat):Int)∧(↑(0:Nat):Int)≤(↑(0:Nat):Int))∧Ob (andP none ¬1≤0)∧Ob (([vi (0:Int)]=[vi (intOf (vi (0:Int)))]∧0+1≤1∧true=true)∧(maHn1 n c)=(vi (fN (maHn1 n c))::T8 emp [Value.slice none 0 0,vi (fS (maHn1 n c)),vi (fF (maHn1 n c))])∧errD (fN (maHn1 n c)) [intOf (vi (0:Int))]=(0:Int)∧0<1∧some 7≠some 2)∧(decide ((maHn17 n c).fell=(0:Int))=true→Ob (andP (some (0+1≤1∧true=true)) (1≤1099511627776∧2064≤281474976710656∧1=1∧1=1∧1≤n∧0<1∧0+1≤8∧true=true))∧((∃ (y:Unit),Ob True∧Ob (20<20)∧(Ob (maHn2 n c)∧Ob (AObj.rw (maHn5 n c) none=AObj.rw (maHn1 n c) none∧true=true)∧Ob (maHn9 n c)∧Ob (maHn8 n c)∧Ob (maHn18 n c)∧True)∧Ob (maHn6 n c)∧Ob (Value.slice (some (ad0 5)) 1 n=Value.slice (some (ad0 5)) 0 n)∧Ob (maHn25 n c)∧Ob (IntKind.i64.wrap ((0:Int)+(1:Int))=(0:Int))∧True)∨∃ (yqq:Nat),Ob (0<yqq∧yqq≤n)∧Ob (n-yqq<20)∧(Ob (maHn2 n c)∧Ob (AObj.rw (maHn5 n c) none=AObj.rw (vi (n:Int)::T8 ((maHn22 n c yqq).tk) [Value.slice (some ⟨8,0,some 0⟩) 1 0,vi (maHn22 n c yqq).slid,vi (maHn22 n c yqq).fell]) none∧true=true)∧Ob (maHn9 n c)∧Ob (maHn8 n c)∧Ob (AObj.rw (maHn4 n c) none=AObj.rw (List.map (nmap1 (nsub 6 8)) (List.map (maHn11 n c) (whC (mayG n []) yqq))) none∧AObj.sc 7 (AObj.rw (List.map (maHn11 n c) (whC (mayG n []) yqq)) none)=true)∧Ob (AObj.rw (List.map (maHn11 n c) (maHn17 n c).lies) (some 1)=AObj.rw (List.map (nmap1 (nsub 6 8)) (List.map (maHn11 n c) (maHn22 n c yqq).lies)) (some 1)∧AObj.sc 7 (AObj.rw (List.map (maHn11 n c) (maHn22 n c yqq).lies) (some 1))=true)∧True)∧Ob (maHn6 n c)∧Ob (Value.slice (some (ad0 5)) 1 n=Value.slice (some (ad0 5)) (whL (mayG n []) yqq).length n)∧Ob (maHn25 n c)∧Ob (IntKind.i64.wrap ((0:Int)+(1:Int))=(yqq:Int))∧True))∧(decide ((maHn17 n c).fell=(0:Int))=false→(∃ (y:Unit),Ob True∧Ob (20<20)∧(Ob (maHn2 n c)∧Ob (AObj.rw (maHn5 n c) none=AObj.rw (maHn1 n c) none∧true=true)∧Ob (maHn9 n c)∧Ob (maHn8 n c)∧Ob (maHn18 n c)∧True)∧Ob (maHn6 n c)∧Ob (Value.slice (some (ad0 5)) 0 n=Value.slice (some (ad0 5)) 0 n)∧Ob (maHn25 n c)∧Ob (IntKind.i64.wrap ((0:Int)+(1:Int))=(0:Int))∧True)∨∃ (yqqq:Nat),Ob (0<yqqq∧yqqq≤n)∧Ob (n-yqqq<20)∧(Ob (maHn2 n c)∧Ob (AObj.rw (maHn5 n c) none=AObj.rw (vi (n:Int)::T8 ((maHn21 n c yqqq).tk) [Value.slice (some ⟨8,0,some 0⟩) 1 0,vi (maHn21 n c yqqq).slid,vi (maHn21 n c yqqq).fell]) none∧true=true)∧Ob (maHn9 n c)∧Ob (maHn8 n c)∧Ob (AObj.rw (maHn4 n c) none=AObj.rw (List.map (nmap1 (nsub 6 8)) (List.map (maHn11 n c) (whC (mayG n []) yqqq))) none∧AObj.sc 7 (AObj.rw (List.map (maHn11 n c) (whC (mayG n []) yqqq)) none)=true)∧Ob (AObj.rw (List.map (maHn11 n c) (maHn17 n c).lies) (some 1)=AObj.rw (List.map (nmap1 (nsub 6 8)) (List.map (maHn11 n c) (maHn21 n c yqqq).lies)) (some 1)∧AObj.sc 7 (AObj.rw (List.map (maHn11 n c) (maHn21 n c yqqq).lies) (some 1))=true)∧True)∧Ob (maHn6 n c)∧Ob (Value.slice (some (ad0 5)) 0 n=Value.slice (some (ad0 5)) (whL (mayG n []) yqqq).length n)∧Ob (maHn25 n c)∧Ob (IntKind.i64.wrap ((0:Int)+(1:Int))=(yqqq:Int))∧True))∧(decide ((0:Int)<(n:Int))=false→Ob ((0:Int)≤IntKind.i64.wrap (↑(0:Nat):Int)∧IntKind.i64.wrap (↑(0:Nat):Int)≤IntKind.i64.wrap (↑(0:Nat):Int)∧(↑(8:Nat):Int) * IntKind.i64.wrap (↑(0:Nat):Int)≤(281474976710656:Int))∧Ob (andP (some (0≤8∧true=true)) (0+0≤0∧true=true))∧False∧Ob (Value.tuple ⟨[Value.slice (some (ad0 6)) 0 0,vi (0:Int)]⟩=Value.tuple (maHn12 n c))∧True))∧∀ (xq:Nat),Ob (0<xq∧xq≤n)→(decide ((xq:Int)<(n:Int))=true→Ob (0≤c∧((0:Int)≤(↑(0:Nat):Int)∧(↑(0:Nat):Int)≤(c:Int))∧(0:Int)≤(↑(0:Nat):Int)∧(↑(0:Nat):Int)≤(↑(0:Nat):Int))∧Ob (andP none ¬1≤0)∧Ob (([vi (xq:Int)]=[vi (intOf (vi (xq:Int)))]∧0+1≤1∧true=true)∧(maHn0 n c xq)=(vi (fN (maHn0 n c xq))::T8 (fT (maHn0 n c xq)) [Value.slice (some ⟨6,0,some 0⟩) 1 0,vi (fS (maHn0 n c xq)),vi (fF (maHn0 n c xq))])∧List.map (maHn11 n c) (runA n [(↑(xq-1):Int)]).lies=List.map (maHn11 n c) (intsOf (List.map (maHn11 n c) (runA n [(↑(xq-1):Int)]).lies))∧errD (fN (maHn0 n c xq)) [intOf (vi (xq:Int))]=(0:Int)∧0<1∧some 8≠some 2∧some 8≠some 6∧2≠6)∧(decide ((maHn16 n c xq).fell=(0:Int))=true→Ob (andP (some (0+1≤1∧true=true)) ((whL (mayG n []) xq).length+1≤1099511627776∧(2 * ((whL (mayG n []) xq).length+1)+256) * 8≤281474976710656∧1=1∧1=1∧(whL (mayG n []) xq).length+1≤n∧0<1∧0+(whL (mayG n []) xq).length * 1+1≤(maHn15 n c xq).length∧true=true))∧((∃ (y:Unit),Ob True∧Ob (20<n-xq)∧(Ob (maHn2 n c)∧Ob (AObj.rw (maHn3 n c xq) none=AObj.rw (maHn1 n c) none∧true=true)∧Ob (maHn9 n c)∧Ob (maHn8 n c)∧Ob (AObj.rw (maHn23 n c xq) none=AObj.rw (maHn4 n c) none∧true=true)∧True)∧Ob (maHn7 n c)∧Ob (Value.slice (some (ad0 5)) ((whL (mayG n []) xq).length+1) n=Value.slice (some (ad0 5)) 0 n)∧Ob (maHn25 n c)∧Ob (IntKind.i64.wrap ((xq:Int)+(1:Int))=(0:Int))∧True)∨∃ (yqqqq:Nat),Ob (0<yqqqq∧yqqqq≤n)∧Ob (n-yqqqq<n-xq)∧(Ob (maHn2 n c)∧Ob (AObj.rw (maHn3 n c xq) none=AObj.rw (vi (n:Int)::T8 ((maHn20 n c yqqqq).tk) [Value.slice (some ⟨9,0,some 0⟩) 1 0,vi (maHn20 n c yqqqq).slid,vi (maHn20 n c yqqqq).fell]) none∧true=true)∧Ob (maHn9 n c)∧Ob (maHn8 n c)∧Ob (AObj.rw (maHn23 n c xq) none=AObj.rw (List.map (nmap1 (nsub 6 9)) (List.map (maHn11 n c) (whC (mayG n []) yqqqq))) none∧AObj.sc 7 (AObj.rw (List.map (maHn11 n c) (whC (mayG n []) yqqqq)) none)=true)∧Ob (AObj.rw (List.map (maHn11 n c) (maHn16 n c xq).lies) (some 1)=AObj.rw (List.map (nmap1 (nsub 6 9)) (List.map (maHn11 n c) (maHn20 n c yqqqq).lies)) (some 1)∧AObj.sc 7 (AObj.rw (List.map (maHn11 n c) (maHn20 n c yqqqq).lies) (some 1))=true)∧True)∧Ob (maHn7 n c)∧Ob (Value.slice (some (ad0 5)) ((whL (mayG n []) xq).length+1) n=Value.slice (some (ad0 5)) (whL (mayG n []) yqqqq).length n)∧Ob (maHn25 n c)∧Ob (IntKind.i64.wrap ((xq:Int)+(1:Int))=(yqqqq:Int))∧True))∧(decide ((maHn16 n c xq).fell=(0:Int))=false→(∃ (y:Unit),Ob True∧Ob (20<n-xq)∧(Ob (maHn2 n c)∧Ob (AObj.rw (maHn3 n c xq) none=AObj.rw (maHn1 n c) none∧true=true)∧Ob (maHn9 n c)∧Ob (maHn8 n c)∧Ob (AObj.rw (maHn15 n c xq) none=AObj.rw (maHn4 n c) none∧true=true)∧True)∧Ob (maHn7 n c)∧Ob (Value.slice (some (ad0 5)) (whL (mayG n []) xq).length n=Value.slice (some (ad0 5)) 0 n)∧Ob (maHn25 n c)∧Ob (IntKind.i64.wrap ((xq:Int)+(1:Int))=(0:Int))∧True)∨∃ (yqqqqq:Nat),Ob (0<yqqqqq∧yqqqqq≤n)∧Ob (n-yqqqqq<n-xq)∧(Ob (maHn2 n c)∧Ob (AObj.rw (maHn3 n c xq) none=AObj.rw (vi (n:Int)::T8 ((maHn19 n c yqqqqq).tk) [Value.slice (some ⟨9,0,some 0⟩) 1 0,vi (maHn19 n c yqqqqq).slid,vi (maHn19 n c yqqqqq).fell]) none∧true=true)∧Ob (maHn9 n c)∧Ob (maHn8 n c)∧Ob (AObj.rw (maHn15 n c xq) none=AObj.rw (List.map (nmap1 (nsub 6 9)) (List.map (maHn11 n c) (whC (mayG n []) yqqqqq))) none∧AObj.sc 7 (AObj.rw (List.map (maHn11 n c) (whC (mayG n []) yqqqqq)) none)=true)∧Ob (AObj.rw (List.map (maHn11 n c) (maHn16 n c xq).lies) (some 1)=AObj.rw (List.map (nmap1 (nsub 6 9)) (List.map (maHn11 n c) (maHn19 n c yqqqqq).lies)) (some 1)∧AObj.sc 7 (AObj.rw (List.map (maHn11 n c) (maHn19 n c yqqqqq).lies) (some 1))=true)∧True)∧Ob (maHn7 n c)∧Ob (Value.slice (some (ad0 5)) (whL (mayG n []) xq).length n=Value.slice (some (ad0 5)) (whL (mayG n []) yqqqqq).length n)∧Ob (maHn25 n c)∧Ob (IntKind.i64.wrap ((xq:Int)+(1:Int))=(yqqqqq:Int))∧True))∧(decide ((xq:Int)<(n:Int))=false→Ob ((0:Int)≤IntKind.i64.wrap (maHn13 n c xq)∧IntKind.i64.wrap (maHn13 n c xq)≤IntKind.i64.wrap (maHn13 n c xq)∧(↑(8:Nat):Int) * IntKind.i64.wrap (maHn13 n c xq)≤(281474976710656:Int))∧Ob (andP (some (0+(whL (mayG n []) xq).length.min (maHn24 n c xq).toNat * 1≤(maHn15 n c xq).length∧true=true)) (0+(maHn10 n c xq).length≤(List.replicate (maHn24 n c xq).toNat (vi (0:Int))).length∧(maHn10 n c xq).all (sc1 8)=true))∧(Ob (AObj.rw (putL (List.replicate (maHn24 n c xq).toNat (vi (0:Int))) 0 (maHn10 n c xq)) none=AObj.rw (List.map (nmap1 (nsub 1 7)) (List.map (maHn11 n c) (whL (mayG n []) n))) none∧AObj.sc 2 (AObj.rw (List.map (maHn11 n c) (whL (mayG n []) n)) none)=true)∧True)∧Ob (Value.tuple ⟨[Value.slice (some (ad0 7)) (maHn24 n c xq).toNat (maHn24 n c xq).toNat,vi (0:Int)]⟩=Value.tuple (maHn12 n c))∧True))
theorem maHn_eq : maHn = fun (n c : Nat) => vc Try.prog (mhE n) 1 22 true (fun _ => none) maB [] (argFr 0 [vi n,.slice (some ⟨0,0,none⟩) 0 c]) [.gone] (retR Try.prog Try.f30 1 (nsub 1 7) (.tuple #[madeS 1 (whL (mayG n []) n).length,vi 0]) [.gone,madeA (whL (mayG n []) n)]) := by kernel_rfl
theorem maHn_ok (n c : Nat) (he : errD n [] = 0) : maHn n c := by
 obtain ⟨hn,hb,hl⟩ := pre_ok he
 have n1 : 1≤n := by
   unfold errD at he
   split at he
   · cases he
   · omega
 have ee : ∀ x : Int,0≤x→x < n→errD n [x] = 0 := fun x h1 h2 => err0 ⟨n1,hn⟩ (by simp) fun y hy => by
   rw [List.mem_singleton.1 hy]; omega
 unfold maHn maHn25 maHn24 maHn23 maHn22 maHn21 maHn20 maHn19 maHn18 maHn17 maHn16 maHn15 maHn14 maHn13 maHn12 maHn11 maHn10 maHn9 maHn8 maHn7 maHn6 maHn5 maHn4 maHn3 maHn2 maHn1 maHn0
 simp only [SS,reduceCtorEq,Arg.list,Arg.num,Arg.flag,intOf,andP,Nat.reduceLeDiff,Nat.reduceAdd,Nat.reduceMul,Nat.reduceLT,he,T8_10,T8_11,T8_i10,T8_i11,fN_T8,fT_emp,T8_fT,fF_T8,fS_T8,Int.toNat_natCast]
 have yes : ∀ x : Nat,(runA n [(x : Int)]).fell = 0→mayG n [] x = true := fun x h => decide_eq_true h
 have no : ∀ x : Nat,¬ (runA n [(x : Int)]).fell = 0→mayG n [] x = false := fun x h => decide_eq_false h
 generalize mayG n [] = g at *
 refine ⟨⟨⟨by omega,by omega⟩,by omega,by omega⟩,⟨fun _ => ⟨⟨⟨by omega,by omega⟩,by omega,by omega⟩,⟨ee 0 (by omega) (by omega),by decide⟩,fun h => ?_,fun h => ?_⟩,fun h => absurd (show (0 : Int) < n by omega) h⟩,fun x hx => ⟨fun h1 => ⟨⟨⟨by omega,by omega⟩,by omega,by omega⟩,⟨ee x (by omega) (by omega),by decide,by decide,by decide⟩,fun h => ?_,fun h => ?_⟩,fun h1 => ?_⟩⟩
 · have hg := yes 0 h
   exact ⟨by omega,1,⟨by omega,by omega⟩,by omega,⟨rfl,whC_yes (g := g) (x := 0) (by omega) hg,rfl⟩,rfl,by rw [whL_succ,if_pos hg]; rfl,rfl⟩
 · have hg := no 0 h
   exact ⟨1,⟨by omega,by omega⟩,by omega,⟨rfl,by rw [whC_no hg]; rfl,rfl⟩,rfl,by rw [whL_succ,if_neg (by rw [hg]; exact Bool.false_ne_true)]; rfl,rfl⟩
 · have hg := yes x h
   have hll := whL_len (g := g) (i := x)
   exact ⟨⟨by omega,by omega,by omega,by rw [whC_len (by omega)]; omega⟩,x + 1,⟨by omega,by omega⟩,by omega,⟨rfl,whC_yes (by omega) hg,rfl⟩,rfl,by rw [whL_succ,if_pos hg]; simp,by rw [wrap_in (by omega) (by omega)]; push_cast; rfl⟩
 · have hg := no x h
   exact .inr ⟨x + 1,⟨by omega,by omega⟩,by omega,⟨rfl,by rw [whC_no hg],rfl⟩,rfl,by rw [whL_succ,if_neg (by rw [hg]; exact Bool.false_ne_true)],by rw [wrap_in (by omega) (by omega)]; push_cast; rfl⟩
 · obtain rfl : x = n := by omega
   have hll := whL_len (g := g) (i := x)
   have hcl := whC_len (g := g) (i := x) (by omega)
   have ht : List.take (whL g x).length (whC g x) = whL g x := by unfold whC; rw [List.take_append_of_le_length (Nat.le_refl _),List.take_length]
   have hw : IntKind.i64.wrap ((whL g x).length : Int) = ((whL g x).length : Int) := wrap_in (by omega) (by omega)
   have hm : (whL g x).length.min (whL g x).length = (whL g x).length := Nat.min_self _
   simp only [hw,Int.toNat_natCast,hm,← List.map_take,ht,List.length_replicate,List.length_map,hcl]
   exact ⟨⟨by omega,by omega,by omega⟩,⟨by omega,by omega,all_sc_int⟩,by simpa using putL_full ((whL g x).map (Value.int .i64)) (vi 0) [],trivial⟩
theorem maHs_ok (n k c : Nat) (he : errD n [] = 0) : maHs n k c := by
 obtain ⟨hn,hb,hl⟩ := pre_ok he
 have n1 : 1≤n := by
   unfold errD at he
   split at he
   · cases he
   · omega
 have ee : ∀ x : Int,0≤x→x < n→errD n [x] = 0 := fun x h1 h2 => err0 ⟨n1,hn⟩ (by simp) fun y hy => by
   rw [List.mem_singleton.1 hy]; omega
 unfold maHs maHs25 maHs24 maHs23 maHs22 maHs21 maHs20 maHs19 maHs18 maHs17 maHs16 maHs15 maHs14 maHs13 maHs12 maHs11 maHs10 maHs9 maHs8 maHs7 maHs6 maHs5 maHs4 maHs3 maHs2 maHs1 maHs0
 simp only [SS,reduceCtorEq,Arg.list,Arg.num,Arg.flag,intOf,andP,Nat.reduceLeDiff,Nat.reduceAdd,Nat.reduceMul,Nat.reduceLT,he,T8_10,T8_11,T8_i10,T8_i11,fN_T8,fT_emp,T8_fT,fF_T8,fS_T8,Int.toNat_natCast]
 have yes : ∀ x : Nat,(runA n [(x : Int)]).fell = 0→mayG n [] x = true := fun x h => decide_eq_true h
 have no : ∀ x : Nat,¬ (runA n [(x : Int)]).fell = 0→mayG n [] x = false := fun x h => decide_eq_false h
 generalize mayG n [] = g at *
 refine ⟨⟨⟨by omega,by omega⟩,by omega,by omega⟩,⟨fun _ => ⟨by omega,by omega,⟨ee 0 (by omega) (by omega),by decide⟩,fun h => ?_,fun h => ?_⟩,fun h => absurd (show (0 : Int) < n by omega) h⟩,fun x hx => ⟨fun h1 => ⟨by omega,by omega,⟨ee x (by omega) (by omega),by decide,by decide,by decide⟩,fun h => ?_,fun h => ?_⟩,fun h1 => ?_⟩⟩
 · have hg := yes 0 h
   exact ⟨by omega,1,⟨by omega,by omega⟩,by omega,⟨rfl,rfl,whC_yes (g := g) (x := 0) (by omega) hg,rfl⟩,rfl,by rw [whL_succ,if_pos hg]; rfl,rfl⟩
 · have hg := no 0 h
   exact ⟨1,⟨by omega,by omega⟩,by omega,⟨rfl,rfl,by rw [whC_no hg]; rfl,rfl⟩,rfl,by rw [whL_succ,if_neg (by rw [hg]; exact Bool.false_ne_true)]; rfl,rfl⟩
 · have hg := yes x h
   have hll := whL_len (g := g) (i := x)
   exact ⟨⟨by omega,by omega,by omega,by rw [whC_len (by omega)]; omega⟩,x + 1,⟨by omega,by omega⟩,by omega,⟨rfl,rfl,whC_yes (by omega) hg,rfl⟩,rfl,by rw [whL_succ,if_pos hg]; simp,by rw [wrap_in (by omega) (by omega)]; push_cast; rfl⟩
 · have hg := no x h
   exact .inr ⟨x + 1,⟨by omega,by omega⟩,by omega,⟨rfl,rfl,by rw [whC_no hg],rfl⟩,rfl,by rw [whL_succ,if_neg (by rw [hg]; exact Bool.false_ne_true)],by rw [wrap_in (by omega) (by omega)]; push_cast; rfl⟩
 · obtain rfl : x = n := by omega
   have hll := whL_len (g := g) (i := x)
   have hcl := whC_len (g := g) (i := x) (by omega)
   have ht : List.take (whL g x).length (whC g x) = whL g x := by unfold whC; rw [List.take_append_of_le_length (Nat.le_refl _),List.take_length]
   have hw : IntKind.i64.wrap ((whL g x).length : Int) = ((whL g x).length : Int) := wrap_in (by omega) (by omega)
   have hm : (whL g x).length.min (whL g x).length = (whL g x).length := Nat.min_self _
   simp only [hw,Int.toNat_natCast,hm,← List.map_take,ht,List.length_replicate,List.length_map,hcl]
   exact ⟨⟨by omega,by omega,by omega⟩,⟨by omega,by omega,all_sc_int⟩,by simpa using putL_full ((whL g x).map (Value.int .i64)) (vi 0) [],trivial⟩
def mayHS (r : List Arg) : Option Fresh := match r with
 | [p,.hole _] => some ⟨errD p.num [] = 0,fun b => .tuple #[madeS b (whL (mayG p.num.toNat []) p.num.toNat).length,vi 0],fun _ => [madeA (whL (mayG p.num.toNat []) p.num.toNat)]⟩
 | _ => none
theorem good_listH {p : Prop} {s : Option Nat} {k c : Nat} {u : Int} {l : List Int} {r : Option Nat} : Fresh.Good ⟨p,fun b => .tuple #[.slice (some ⟨b,0,s⟩) k c,vi u],fun _ => [.rw (l.map (.int .i64)) r]⟩ where
 val e n := by simp [nmap,nmap2,nmap1,nmap0,am]
 new e n := omap_one
 ro n := mem_one rfl
 nmv n := by simp [nm,nm2,nm1,nm0]
 nmn n := mem_one nm_ints
 scv n := by simp [sc,sc2,sc1,sc0]
 scn n := mem_one sc_ints
theorem mhE2_ok : VOk Try.prog mhE2 := ⟨CtOk.none.add holdsG_ok,E0_ok.cc,E0_ok.yc,orcHole_ok⟩
theorem mhE3_ok : VOk Try.prog mhE3 := ⟨E0_ok.ct,ccIn_ok mhE2_ok mixed (inl_one Try.func63),E0_ok.yc,orcOr_ok orcSl_ok (orcOr_ok orcAp_ok orcCp_ok)⟩
theorem mhE_ok (n : Nat) : VOk Try.prog (mhE n) := ⟨CtOk.none.add arowG_ok,ccOr_ok (ccIn_ok E0_ok mixed (inl_one Try.func62)) (ccIn_ok mhE3_ok mixed (inl_one Try.func51)),E0_ok.yc,E0_ok.orc⟩
theorem mayH_ok : ∀ args H φ v H' l,freshC psA mayHS args H = some (φ,v,H',l)→Asks φ→Call Try.prog 30 args H (fun v' H2 => v' = v∧H2 = H')∧Kept H H' l :=
 freshC_ok fun r s hk hs hψ => match r,hk with
   | [_,_],⟨⟨p,rfl⟩,ha,_⟩ => by
     rcases ha with rfl | ⟨s,rfl⟩ | ⟨l,rfl⟩ <;> cases hs
     obtain ⟨n,rfl⟩ : ∃ n : Nat,p = n := errD_pos hψ
     refine ⟨good_listH,fun caps hc => ?_⟩
     cases s with
     | none => exact Call.ofVcR (mhE_ok n) mixed (c := maB) Try.func30 (by kernel_rfl) (cast (congrFun (congrFun maHn_eq n) _) (maHn_ok n (caps 0) hψ))
     | some k =>
       have h0 : 0 < caps 0 := hc.1 rfl
       obtain ⟨c,ec⟩ : ∃ c,caps 0 = c + 1 := ⟨caps 0 - 1,by omega⟩
       show Call Try.prog 30 [vi n,.slice (some ⟨0,0,some k⟩) 0 (caps 0)] [.gone] _
       rw [ec]
       exact Call.ofVcR (mhE_ok n) mixed (c := maB) Try.func30 (by kernel_rfl) (cast (congrFun (congrFun (congrFun maHs_eq n) k) c) (maHs_ok n k c hψ))
end Go.Pier.Lg
