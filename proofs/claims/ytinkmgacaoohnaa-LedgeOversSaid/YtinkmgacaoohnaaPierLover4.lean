import Derived.Test.YtinkmgacaoohnaaPierMO7
import Derived.Test.YtinkmgacaoohnaaPierLdropt
import Derived.Test.YtinkmgacaoohnaaPierZX
import Derived.KernelRfl
set_option linter.unusedSimpArgs false
set_option linter.unusedVariables false
set_option maxRecDepth 100000
set_option linter.unusedVariables false
set_option linter.unusedSimpArgs false
namespace Go.Pier.Lg
open Go Go.Pier Go.Proofs
noncomputable def vsB : Code := Try.f4.body.getD .skip
noncomputable def vsC : Ct := (((Ct.none.add 18 (pureG [] worksS)).add 25 (pureG [.ints .i64,.ints .i64] iiS)).add 26 (pureG psB coS)).add 27 (pureG psB coS)
noncomputable def vsXC : Ct := ((vsC.add 49 pushedX).add 24 (pureG psA rcdS))
noncomputable def vsX1 : VEnv := { ct := vsXC,cc := ccIn Try.prog { ct := vsXC } [⟨17,Try.f17,fun _ _ _ => none⟩,⟨28,Try.f28,fun _ _ _ => none⟩,⟨29,Try.f29,fun _ _ _ => none⟩,⟨32,Try.f32,fun _ _ _ => none⟩,⟨33,Try.f33,fun _ _ _ => none⟩] }
noncomputable def vsX : VEnv := { ct := vsXC,cc := ccOr (ccIn Try.prog vsX1 [⟨30,Try.f30,fun _ _ _ => none⟩,⟨31,Try.f31,fun _ _ _ => none⟩]) vsX1.cc }
noncomputable def vsXR0 (p q:Int) (l:List Int) (c:Nat) := (Arg.ints IntKind.i64 (List.take l.length (List.drop 0 (intsOf (List.map (Value.int IntKind.i64) l)))))
noncomputable def vsXR1 (p q:Int) (l:List Int) (c:Nat):Prop := (List.take l.length (List.drop 0 (List.map (Value.int IntKind.i64) l))=List.map (Value.int IntKind.i64) (List.take l.length (List.drop 0 (intsOf (List.map (Value.int IntKind.i64) l))))∧0+l.length≤(List.map (Value.int IntKind.i64) l).length∧true=true)
noncomputable def vsXR2 (p q:Int) (l:List Int) (c:Nat):Bool := ((if errD (Arg.plain (vi p)).num (vsXR0 p q l c).list=(0:Int)∧(0:Int)≤(Arg.plain (vi q)).num∧(Arg.plain (vi q)).num<(Arg.plain (vi p)).num then ovI (Arg.plain (vi p)).num (Arg.plain (vi q)).num (vsXR0 p q l c).list else (0:Int))==if errD (Arg.plain (vi p)).num (vsXR0 p q l c).list=(0:Int)∧(0:Int)≤(Arg.plain (vi q)).num∧(Arg.plain (vi q)).num<(Arg.plain (vi p)).num then ovI (Arg.plain (vi p)).num (Arg.plain (vi q)).num (vsXR0 p q l c).list else (0:Int))
noncomputable def vsXR3 (p q:Int) (l:List Int) (c:Nat):Bool := ((if errD (Arg.plain (vi p)).num (vsXR0 p q l c).list=(0:Int) then if (0:Int)≤(Arg.plain (vi q)).num∧(Arg.plain (vi q)).num<(Arg.plain (vi p)).num then (0:Int) else (2:Int) else errD (Arg.plain (vi p)).num (vsXR0 p q l c).list)==if errD (Arg.plain (vi p)).num (vsXR0 p q l c).list=(0:Int) then if (0:Int)≤(Arg.plain (vi q)).num∧(Arg.plain (vi q)).num<(Arg.plain (vi p)).num then (0:Int) else (2:Int) else errD (Arg.plain (vi p)).num (vsXR0 p q l c).list)
noncomputable def vsXR4 (p q:Int) (l:List Int) (c:Nat):Prop := ((vsXR1 p q l c)∧(vsXR0 p q l c).list.length≤1000000)
noncomputable def vsXR5 (p q:Int) (l:List Int) (c:Nat):Bool := (errDrops (Arg.plain (vi p)).num (vsXR0 p q l c).list !=(0:Int))
noncomputable def vsXR6 (p q:Int) (l:List Int) (c:Nat):Bool := (errD p (vsXR0 p q l c).list==errDrops (Arg.plain (vi p)).num (vsXR0 p q l c).list)
noncomputable def vsXR7 (p q:Int) (l:List Int) (c:Nat):Prop := ((vsXR1 p q l c)∧errD p (vsXR0 p q l c).list≠(0:Int)∧(vsXR0 p q l c).list.length≤1000000)
noncomputable def vsXR8 (p q:Int) (l:List Int) (c:Nat):Bool := (errD p (vsXR0 p q l c).list !=(0:Int))
noncomputable def vsXR :=
fun (p q:Int) (l:List Int) (c:Nat)↦(decide ((20:Int)<(l.length:Int))=true→Ob True∧True∧Ob (Value.bool true=Value.bool true))∧(decide ((20:Int)<(l.length:Int))=false→Ob (vsXR4 p q l c)∧Ob (vsXR4 p q l c)∧Ob (some (vi p)=some (vi p))∧Ob (vsXR7 p q l c)∧((vsXR8 p q l c)=true→Ob (vsXR4 p q l c)∧((vsXR5 p q l c)=true→Ob (vsXR4 p q l c)∧Ob (vsXR7 p q l c)∧((vsXR8 p q l c)=true→((vsXR8 p q l c)=true→Ob (vsXR4 p q l c)∧((vsXR5 p q l c)=true→Ob (vsXR4 p q l c)∧((vsXR5 p q l c)=true→Ob (vsXR4 p q l c)∧((vsXR5 p q l c)=true→Ob (vsXR4 p q l c)∧((vsXR2 p q l c)=true→((vsXR3 p q l c)=true→(true=true→((vsXR6 p q l c)=true→Ob (0≤1000000)∧(true=true→((vsXR6 p q l c)=true→Ob (vsXR7 p q l c)∧((vsXR8 p q l c)=true→Ob (vsXR4 p q l c)∧((vsXR5 p q l c)=true→Ob (vsXR4 p q l c)∧((vsXR6 p q l c)=true→Ob True∧True∧Ob (Value.bool true=Value.bool true))∧((vsXR6 p q l c)=false→True∧Ob (Value.bool false=Value.bool true)))∧((vsXR5 p q l c)=false→False))∧((vsXR8 p q l c)=false→False))∧((vsXR6 p q l c)=false→True∧Ob (Value.bool false=Value.bool true)))∧(true=false→True∧Ob (Value.bool false=Value.bool true)))∧((vsXR6 p q l c)=false→True∧Ob (Value.bool false=Value.bool true)))∧(true=false→True∧Ob (Value.bool false=Value.bool true)))∧((vsXR3 p q l c)=false→True∧Ob (Value.bool false=Value.bool true)))∧((vsXR2 p q l c)=false→True∧Ob (Value.bool false=Value.bool true)))∧((vsXR5 p q l c)=false→False))∧((vsXR5 p q l c)=false→False))∧((vsXR5 p q l c)=false→False))∧((vsXR8 p q l c)=false→False))∧((vsXR8 p q l c)=false→False))∧((vsXR5 p q l c)=false→False))∧((vsXR8 p q l c)=false→False))
theorem vsXR_eq : vsXR = fun (p q : Int) (l : List Int) (c : Nat) => vc Try.prog vsX 1 100 true (fun _ => none) vsB [] (argFr 0 [vi p,.slice (some ⟨0,0,none⟩) l.length c,vi q]) [ros l] (retK Try.prog Try.f4 (fun v _ => v = .bool true)) := by kernel_rfl
noncomputable def vsXN0 (p q:Int):Bool := ((if errD (Arg.plain (vi p)).num []=(0:Int)∧(0:Int)≤(Arg.plain (vi q)).num∧(Arg.plain (vi q)).num<(Arg.plain (vi p)).num then ovI (Arg.plain (vi p)).num (Arg.plain (vi q)).num [] else (0:Int))==if errD (Arg.plain (vi p)).num []=(0:Int)∧(0:Int)≤(Arg.plain (vi q)).num∧(Arg.plain (vi q)).num<(Arg.plain (vi p)).num then ovI (Arg.plain (vi p)).num (Arg.plain (vi q)).num [] else (0:Int))
noncomputable def vsXN1 (p q:Int):Bool := ((if errD (Arg.plain (vi p)).num []=(0:Int) then if (0:Int)≤(Arg.plain (vi q)).num∧(Arg.plain (vi q)).num<(Arg.plain (vi p)).num then (0:Int) else (2:Int) else errD (Arg.plain (vi p)).num [])==if errD (Arg.plain (vi p)).num []=(0:Int) then if (0:Int)≤(Arg.plain (vi q)).num∧(Arg.plain (vi q)).num<(Arg.plain (vi p)).num then (0:Int) else (2:Int) else errD (Arg.plain (vi p)).num [])
noncomputable def vsXN2 (p q:Int):Bool := (errDrops (Arg.plain (vi p)).num [] !=(0:Int))
noncomputable def vsXN3 (p q:Int):Bool := (errD p []==errDrops (Arg.plain (vi p)).num [])
noncomputable def vsXN4 (p q:Int):Prop := (Value.bool false=Value.bool true)
noncomputable def vsXN5 (p q:Int):Prop := ((errD p [] !=(0:Int))=false→False)
noncomputable def vsXN6 (p q:Int):Prop := (errD p []≠(0:Int)∧0≤1000000)
noncomputable def vsXN :=
fun (p q:Int)↦(false=true→Ob True∧True∧Ob (Value.bool true=Value.bool true))∧(false=false→Ob (0≤1000000)∧Ob (0≤1000000)∧Ob (some (vi p)=some (vi p))∧Ob (vsXN6 p q)∧((errD p [] !=(0:Int))=true→Ob (0≤1000000)∧((vsXN2 p q)=true→Ob (0≤1000000)∧Ob (vsXN6 p q)∧((errD p [] !=(0:Int))=true→((errD p [] !=(0:Int))=true→Ob (0≤1000000)∧((vsXN2 p q)=true→Ob (0≤1000000)∧((vsXN2 p q)=true→Ob (0≤1000000)∧((vsXN2 p q)=true→Ob (0≤1000000)∧((vsXN0 p q)=true→((vsXN1 p q)=true→(true=true→((vsXN3 p q)=true→Ob (0≤1000000)∧(true=true→((vsXN3 p q)=true→Ob (vsXN6 p q)∧((errD p [] !=(0:Int))=true→Ob (0≤1000000)∧((vsXN2 p q)=true→Ob (0≤1000000)∧((vsXN3 p q)=true→Ob True∧True∧Ob (Value.bool true=Value.bool true))∧((vsXN3 p q)=false→True∧Ob (vsXN4 p q)))∧((vsXN2 p q)=false→False))∧(vsXN5 p q))∧((vsXN3 p q)=false→True∧Ob (vsXN4 p q)))∧(true=false→True∧Ob (vsXN4 p q)))∧((vsXN3 p q)=false→True∧Ob (vsXN4 p q)))∧(true=false→True∧Ob (vsXN4 p q)))∧((vsXN1 p q)=false→True∧Ob (vsXN4 p q)))∧((vsXN0 p q)=false→True∧Ob (vsXN4 p q)))∧((vsXN2 p q)=false→False))∧((vsXN2 p q)=false→False))∧((vsXN2 p q)=false→False))∧(vsXN5 p q))∧(vsXN5 p q))∧((vsXN2 p q)=false→False))∧(vsXN5 p q))
theorem vsXN_eq : vsXN = fun (p q : Int) => vc Try.prog vsX 0 100 true (fun _ => none) vsB [] (argFr 0 [vi p,nilS,vi q]) [] (retK Try.prog Try.f4 (fun v _ => v = .bool true)) := by kernel_rfl
noncomputable def vsXH0 (p q:Int) (s:Option Nat) (c:Nat):Bool := ((if errD (Arg.plain (vi p)).num []=(0:Int)∧(0:Int)≤(Arg.plain (vi q)).num∧(Arg.plain (vi q)).num<(Arg.plain (vi p)).num then ovI (Arg.plain (vi p)).num (Arg.plain (vi q)).num [] else (0:Int))==if errD (Arg.plain (vi p)).num []=(0:Int)∧(0:Int)≤(Arg.plain (vi q)).num∧(Arg.plain (vi q)).num<(Arg.plain (vi p)).num then ovI (Arg.plain (vi p)).num (Arg.plain (vi q)).num [] else (0:Int))
noncomputable def vsXH1 (p q:Int) (s:Option Nat) (c:Nat):Bool := ((if errD (Arg.plain (vi p)).num []=(0:Int) then if (0:Int)≤(Arg.plain (vi q)).num∧(Arg.plain (vi q)).num<(Arg.plain (vi p)).num then (0:Int) else (2:Int) else errD (Arg.plain (vi p)).num [])==if errD (Arg.plain (vi p)).num []=(0:Int) then if (0:Int)≤(Arg.plain (vi q)).num∧(Arg.plain (vi q)).num<(Arg.plain (vi p)).num then (0:Int) else (2:Int) else errD (Arg.plain (vi p)).num [])
noncomputable def vsXH2 (p q:Int) (s:Option Nat) (c:Nat):Bool := (errDrops (Arg.plain (vi p)).num [] !=(0:Int))
noncomputable def vsXH3 (p q:Int) (s:Option Nat) (c:Nat):Bool := (errD p []==errDrops (Arg.plain (vi p)).num [])
noncomputable def vsXH :=
fun (p q:Int) (s:Option Nat) (c:Nat)↦(false=true→Ob True∧True∧Ob (Value.bool true=Value.bool true))∧(false=false→Ob (0≤1000000)∧Ob (0≤1000000)∧Ob (some (vi p)=some (vi p))∧Ob (errD p []≠(0:Int)∧0≤1000000)∧((errD p [] !=(0:Int))=true→Ob (0≤1000000)∧((vsXH2 p q s c)=true→Ob (0≤1000000)∧Ob (errD p []≠(0:Int)∧0≤1000000)∧((errD p [] !=(0:Int))=true→((errD p [] !=(0:Int))=true→Ob (0≤1000000)∧((vsXH2 p q s c)=true→Ob (0≤1000000)∧((vsXH2 p q s c)=true→Ob (0≤1000000)∧((vsXH2 p q s c)=true→Ob (0≤1000000)∧((vsXH0 p q s c)=true→((vsXH1 p q s c)=true→(true=true→((vsXH3 p q s c)=true→Ob (0≤1000000)∧(true=true→((vsXH3 p q s c)=true→Ob (errD p []≠(0:Int)∧0≤1000000)∧((errD p [] !=(0:Int))=true→Ob (0≤1000000)∧((vsXH2 p q s c)=true→Ob (0≤1000000)∧((vsXH3 p q s c)=true→Ob True∧True∧Ob (Value.bool true=Value.bool true))∧((vsXH3 p q s c)=false→True∧Ob (Value.bool false=Value.bool true)))∧((vsXH2 p q s c)=false→False))∧((errD p [] !=(0:Int))=false→False))∧((vsXH3 p q s c)=false→True∧Ob (Value.bool false=Value.bool true)))∧(true=false→True∧Ob (Value.bool false=Value.bool true)))∧((vsXH3 p q s c)=false→True∧Ob (Value.bool false=Value.bool true)))∧(true=false→True∧Ob (Value.bool false=Value.bool true)))∧((vsXH1 p q s c)=false→True∧Ob (Value.bool false=Value.bool true)))∧((vsXH0 p q s c)=false→True∧Ob (Value.bool false=Value.bool true)))∧((vsXH2 p q s c)=false→False))∧((vsXH2 p q s c)=false→False))∧((vsXH2 p q s c)=false→False))∧((errD p [] !=(0:Int))=false→False))∧((errD p [] !=(0:Int))=false→False))∧((vsXH2 p q s c)=false→False))∧((errD p [] !=(0:Int))=false→False))
theorem vsXH_eq : vsXH = fun (p q : Int) (s : Option Nat) (c : Nat) => vc Try.prog vsX 1 100 true (fun _ => none) vsB [] (argFr 0 [vi p,.slice (some ⟨0,0,s⟩) 0 c,vi q]) [.gone] (retK Try.prog Try.f4 (fun v _ => v = .bool true)) := by kernel_rfl
noncomputable def vsVC : Ct := (((vsC.add 28 (pureG psA ovrS)).add 29 (pureG psA ovrS)).add 32 (pureG psA arowS)).add 33 (pureG psA arowS)
noncomputable def vsCC : List InlE := [⟨17,Try.f17,fun _ _ _ => none⟩]
def tupM (wm : List Int) (b : Nat) : Value := .tuple #[madeS b wm.length,vi 0]
def tupN (wm : List Int) (b : Nat) : Value := .tuple #[newS b wm.length,vi 0]
noncomputable def vsF (wm : List Int) : VEnv := { ct := (vsVC.add 30 (nameCt (freshC psA mayS) (tupM wm) (fun _ => [madeA wm]))).add 31 (nameCt (newG psA may2S) (tupN wm) (fun _ => [rws wm])),cc := ccIn Try.prog {} vsCC }
noncomputable def vsE (wm : List Int) : VEnv := { ct := (vsVC.add 30 (nameCt (freshC psA mayS) (tupM wm) (fun _ => [madeA wm]))).add 31 (pureG psA may2X),cc := ccIn Try.prog {} vsCC }
noncomputable def vsG : VEnv := { ct := (vsVC.add 30 (pureG psA mayXS)).add 31 (pureG psA may2X),cc := ccIn Try.prog {} vsCC }
noncomputable def vsH (wm : List Int) : VEnv := { ct := (vsVC.add 30 (nameCt (freshC psA mayHS) (tupM wm) (fun _ => [madeA wm]))).add 31 (nameCt (newG psA may2S) (tupN wm) (fun _ => [rws wm])),cc := ccIn Try.prog {} vsCC }
noncomputable def vsFv0 (n:Nat) (q:Int) (l:List Int) (c:Nat) (wm:List Int) := (List.take l.length (List.drop 0 (intsOf (List.map (Value.int IntKind.i64) l))))
noncomputable def vsFv1 (n:Nat) (q:Int) (l:List Int) (c:Nat) (wm:List Int):Prop := (List.take l.length (List.drop 0 (List.map (Value.int IntKind.i64) l))=List.map (Value.int IntKind.i64) (vsFv0 n q l c wm)∧0+l.length≤(List.map (Value.int IntKind.i64) l).length∧true=true)
noncomputable def vsFv2 (n:Nat) (q:Int) (l:List Int) (c:Nat) (wm:List Int):Bool := ((if errD (Arg.plain (vi (n:Int))).num (Arg.ints IntKind.i64 (vsFv0 n q l c wm)).list=(0:Int)∧(0:Int)≤(Arg.plain (vi q)).num∧(Arg.plain (vi q)).num<(Arg.plain (vi (n:Int))).num then ovI (Arg.plain (vi (n:Int))).num (Arg.plain (vi q)).num (Arg.ints IntKind.i64 (vsFv0 n q l c wm)).list else (0:Int))==if errD (Arg.plain (vi (n:Int))).num (Arg.ints IntKind.i64 (vsFv0 n q l c wm)).list=(0:Int)∧(0:Int)≤(Arg.plain (vi q)).num∧(Arg.plain (vi q)).num<(Arg.plain (vi (n:Int))).num then ovI (Arg.plain (vi (n:Int))).num (Arg.plain (vi q)).num (Arg.ints IntKind.i64 (vsFv0 n q l c wm)).list else (0:Int))
noncomputable def vsFv3 (n:Nat) (q:Int) (l:List Int) (c:Nat) (wm:List Int):Bool := ((if errD (Arg.plain (vi (n:Int))).num (Arg.ints IntKind.i64 (vsFv0 n q l c wm)).list=(0:Int) then if (0:Int)≤(Arg.plain (vi q)).num∧(Arg.plain (vi q)).num<(Arg.plain (vi (n:Int))).num then (0:Int) else (2:Int) else errD (Arg.plain (vi (n:Int))).num (Arg.ints IntKind.i64 (vsFv0 n q l c wm)).list)==if errD (Arg.plain (vi (n:Int))).num (Arg.ints IntKind.i64 (vsFv0 n q l c wm)).list=(0:Int) then if (0:Int)≤(Arg.plain (vi q)).num∧(Arg.plain (vi q)).num<(Arg.plain (vi (n:Int))).num then (0:Int) else (2:Int) else errD (Arg.plain (vi (n:Int))).num (Arg.ints IntKind.i64 (vsFv0 n q l c wm)).list)
noncomputable def vsFv4 (n:Nat) (q:Int) (l:List Int) (c:Nat) (wm:List Int) := (List.take wm.length (List.drop 0 (intsOf (List.map (Value.int IntKind.i64) wm))))
noncomputable def vsFv5 (n:Nat) (q:Int) (l:List Int) (c:Nat) (wm:List Int) := (runA (Arg.plain (vi (n:Int))).num.toNat (vsFv0 n q l c wm))
noncomputable def vsFv6 (n:Nat) (q:Int) (l:List Int) (c:Nat) (wm:List Int) := (whL (mayG (Arg.plain (vi (n:Int))).num.toNat (vsFv0 n q l c wm)) (Arg.plain (vi (n:Int))).num.toNat)
noncomputable def vsFv7 (n:Nat) (q:Int) (l:List Int) (c:Nat) (wm:List Int):Prop := ((vsFv1 n q l c wm)∧errD (Arg.plain (vi (n:Int))).num (vsFv0 n q l c wm)=(0:Int)∧0<(vsFv0 n q l c wm).length)
noncomputable def vsFv8 (n:Nat) (q:Int) (l:List Int) (c:Nat) (wm:List Int):Bool := ((if (vsFv5 n q l c wm).fell=(0:Int) then (20:Int) else (0:Int))==if (vsFv5 n q l c wm).fell=(0:Int) then (20:Int) else (0:Int))
noncomputable def vsFv :=
fun (n:Nat) (q:Int) (l:List Int) (c:Nat) (wm:List Int)↦(decide ((20:Int)<(l.length:Int))=true→Ob True∧True∧Ob (Value.bool true=Value.bool true))∧(decide ((20:Int)<(l.length:Int))=false→Ob ((vsFv1 n q l c wm)∧(Arg.ints IntKind.i64 (vsFv0 n q l c wm)).list.length≤1000000)∧Ob ((vsFv1 n q l c wm)∧(Arg.ints IntKind.i64 (vsFv0 n q l c wm)).list.length≤1000000)∧Ob (vsFv7 n q l c wm)∧Ob (vsFv7 n q l c wm)∧Ob (((vsFv1 n q l c wm)∧l.length≤c∧errD (Arg.plain (vi (n:Int))).num (vsFv0 n q l c wm)=(0:Int)∧0<(vsFv0 n q l c wm).length∧(vsFv5 n q l c wm).fell=(0:Int))∧Value.tuple ⟨[Value.slice (some (ad0 1)) (vsFv6 n q l c wm).length (vsFv6 n q l c wm).length,vi (0:Int)]⟩=Value.tuple ⟨[Value.slice (some (ad0 1)) wm.length wm.length,vi (0:Int)]⟩∧[AObj.ro (List.map (Value.int IntKind.i64) l),AObj.rw (List.map (Value.int IntKind.i64) (vsFv6 n q l c wm)) none]=[AObj.ro (List.map (Value.int IntKind.i64) l),AObj.rw (List.map (Value.int IntKind.i64) wm) none])∧Ob (((vsFv1 n q l c wm)∧errD (Arg.plain (vi (n:Int))).num (vsFv0 n q l c wm)=(0:Int)∧0<(vsFv0 n q l c wm).length∧(vsFv5 n q l c wm).fell=(0:Int)∧whL (mayG (Arg.plain (vi (n:Int))).num.toNat (vsFv0 n q l c wm)) (Arg.plain (vi (n:Int))).num.toNat≠[])∧Value.tuple ⟨[Value.slice (some ⟨2,0,some 0⟩) (vsFv6 n q l c wm).length 0,vi (0:Int)]⟩=Value.tuple ⟨[Value.slice (some ⟨2,0,some 0⟩) wm.length 0,vi (0:Int)]⟩∧[AObj.ro (List.map (Value.int IntKind.i64) l),AObj.rw (List.map (Value.int IntKind.i64) wm) none,AObj.rw (List.map (Value.int IntKind.i64) (vsFv6 n q l c wm)) (some 1)]=[AObj.ro (List.map (Value.int IntKind.i64) l),AObj.rw (List.map (Value.int IntKind.i64) wm) none,AObj.rw (List.map (Value.int IntKind.i64) wm) (some 1)])∧((vsFv2 n q l c wm)=true→((vsFv3 n q l c wm)=true→(((if (vsFv5 n q l c wm).fell=(0:Int) then (0:Int) else (↑(bestTo (fun (p:Nat)↦ovI (↑(Arg.plain (vi (n:Int))).num.toNat:Int) (p:Int) (vsFv0 n q l c wm)) ((Arg.plain (vi (n:Int))).num.toNat-1)):Int))==if (vsFv5 n q l c wm).fell=(0:Int) then (0:Int) else (↑(bestTo (fun (p:Nat)↦ovI (↑(Arg.plain (vi (n:Int))).num.toNat:Int) (p:Int) (vsFv0 n q l c wm)) ((Arg.plain (vi (n:Int))).num.toNat-1)):Int))=true→((vsFv8 n q l c wm)=true→Ob (((List.take wm.length (List.drop 0 (List.map (Value.int IntKind.i64) wm))=List.map (Value.int IntKind.i64) (vsFv4 n q l c wm)∧0+wm.length≤(List.map (Value.int IntKind.i64) wm).length∧true=true)∧List.take wm.length (List.drop 0 (List.map (Value.int IntKind.i64) wm))=List.map (Value.int IntKind.i64) (vsFv4 n q l c wm)∧0+wm.length≤(List.map (Value.int IntKind.i64) wm).length∧true=true)∧(Arg.ints IntKind.i64 (vsFv4 n q l c wm)).list.length≤1000000)∧(decide ((Arg.ints IntKind.i64 (vsFv4 n q l c wm)).list=(Arg.ints IntKind.i64 (vsFv4 n q l c wm)).list)=true→(true=true→Ob (vsFv7 n q l c wm)∧Ob (vsFv7 n q l c wm)∧((ledC (Arg.plain (vi (n:Int))).num.toNat (vsFv0 n q l c wm)==ledC (Arg.plain (vi (n:Int))).num.toNat (vsFv0 n q l c wm))=true→Ob True∧True∧Ob (Value.bool true=Value.bool true))∧((ledC (Arg.plain (vi (n:Int))).num.toNat (vsFv0 n q l c wm)==ledC (Arg.plain (vi (n:Int))).num.toNat (vsFv0 n q l c wm))=false→True∧Ob (Value.bool false=Value.bool true)))∧(true=false→True∧Ob (Value.bool false=Value.bool true)))∧(decide ((Arg.ints IntKind.i64 (vsFv4 n q l c wm)).list=(Arg.ints IntKind.i64 (vsFv4 n q l c wm)).list)=false→True∧Ob (Value.bool false=Value.bool true)))∧((vsFv8 n q l c wm)=false→True∧Ob (Value.bool false=Value.bool true)))∧(((if (vsFv5 n q l c wm).fell=(0:Int) then (0:Int) else (↑(bestTo (fun (p:Nat)↦ovI (↑(Arg.plain (vi (n:Int))).num.toNat:Int) (p:Int) (vsFv0 n q l c wm)) ((Arg.plain (vi (n:Int))).num.toNat-1)):Int))==if (vsFv5 n q l c wm).fell=(0:Int) then (0:Int) else (↑(bestTo (fun (p:Nat)↦ovI (↑(Arg.plain (vi (n:Int))).num.toNat:Int) (p:Int) (vsFv0 n q l c wm)) ((Arg.plain (vi (n:Int))).num.toNat-1)):Int))=false→True∧Ob (Value.bool false=Value.bool true)))∧((vsFv3 n q l c wm)=false→True∧Ob (Value.bool false=Value.bool true)))∧((vsFv2 n q l c wm)=false→True∧Ob (Value.bool false=Value.bool true)))
theorem vsFv_eq : vsFv = fun (n : Nat) (q : Int) (l : List Int) (c : Nat) (wm : List Int) => vc Try.prog (vsF wm) 1 100 true (fun _ => none) vsB [] (argFr 0 [vi n,.slice (some ⟨0,0,none⟩) l.length c,vi q]) [ros l] (retK Try.prog Try.f4 (fun v _ => v = .bool true)) := by kernel_rfl
noncomputable def vsEv0 (n:Nat) (q:Int) (l:List Int) (c:Nat) (wm:List Int) := (List.take l.length (List.drop 0 (intsOf (List.map (Value.int IntKind.i64) l))))
noncomputable def vsEv1 (n:Nat) (q:Int) (l:List Int) (c:Nat) (wm:List Int):Prop := (List.take l.length (List.drop 0 (List.map (Value.int IntKind.i64) l))=List.map (Value.int IntKind.i64) (vsEv0 n q l c wm)∧0+l.length≤(List.map (Value.int IntKind.i64) l).length∧true=true)
noncomputable def vsEv2 (n:Nat) (q:Int) (l:List Int) (c:Nat) (wm:List Int):Bool := ((if errD (Arg.plain (vi (n:Int))).num (Arg.ints IntKind.i64 (vsEv0 n q l c wm)).list=(0:Int)∧(0:Int)≤(Arg.plain (vi q)).num∧(Arg.plain (vi q)).num<(Arg.plain (vi (n:Int))).num then ovI (Arg.plain (vi (n:Int))).num (Arg.plain (vi q)).num (Arg.ints IntKind.i64 (vsEv0 n q l c wm)).list else (0:Int))==if errD (Arg.plain (vi (n:Int))).num (Arg.ints IntKind.i64 (vsEv0 n q l c wm)).list=(0:Int)∧(0:Int)≤(Arg.plain (vi q)).num∧(Arg.plain (vi q)).num<(Arg.plain (vi (n:Int))).num then ovI (Arg.plain (vi (n:Int))).num (Arg.plain (vi q)).num (Arg.ints IntKind.i64 (vsEv0 n q l c wm)).list else (0:Int))
noncomputable def vsEv3 (n:Nat) (q:Int) (l:List Int) (c:Nat) (wm:List Int):Bool := ((if errD (Arg.plain (vi (n:Int))).num (Arg.ints IntKind.i64 (vsEv0 n q l c wm)).list=(0:Int) then if (0:Int)≤(Arg.plain (vi q)).num∧(Arg.plain (vi q)).num<(Arg.plain (vi (n:Int))).num then (0:Int) else (2:Int) else errD (Arg.plain (vi (n:Int))).num (Arg.ints IntKind.i64 (vsEv0 n q l c wm)).list)==if errD (Arg.plain (vi (n:Int))).num (Arg.ints IntKind.i64 (vsEv0 n q l c wm)).list=(0:Int) then if (0:Int)≤(Arg.plain (vi q)).num∧(Arg.plain (vi q)).num<(Arg.plain (vi (n:Int))).num then (0:Int) else (2:Int) else errD (Arg.plain (vi (n:Int))).num (Arg.ints IntKind.i64 (vsEv0 n q l c wm)).list)
noncomputable def vsEv4 (n:Nat) (q:Int) (l:List Int) (c:Nat) (wm:List Int) := (runA (Arg.plain (vi (n:Int))).num.toNat (vsEv0 n q l c wm))
noncomputable def vsEv5 (n:Nat) (q:Int) (l:List Int) (c:Nat) (wm:List Int):Prop := ((vsEv1 n q l c wm)∧errD (Arg.plain (vi (n:Int))).num (vsEv0 n q l c wm)=(0:Int)∧0<(vsEv0 n q l c wm).length)
noncomputable def vsEv6 (n:Nat) (q:Int) (l:List Int) (c:Nat) (wm:List Int) := (List.take wm.length (List.drop 0 (intsOf (List.map (Value.int IntKind.i64) wm))))
noncomputable def vsEv7 (n:Nat) (q:Int) (l:List Int) (c:Nat) (wm:List Int) := (whL (mayG (Arg.plain (vi (n:Int))).num.toNat (vsEv0 n q l c wm)) (Arg.plain (vi (n:Int))).num.toNat)
noncomputable def vsEv8 (n:Nat) (q:Int) (l:List Int) (c:Nat) (wm:List Int):Bool := ((if (vsEv4 n q l c wm).fell=(0:Int) then (20:Int) else (0:Int))==if (vsEv4 n q l c wm).fell=(0:Int) then (20:Int) else (0:Int))
noncomputable def vsEv :=
fun (n:Nat) (q:Int) (l:List Int) (c:Nat) (wm:List Int)↦(decide ((20:Int)<(l.length:Int))=true→Ob True∧True∧Ob (Value.bool true=Value.bool true))∧(decide ((20:Int)<(l.length:Int))=false→Ob ((vsEv1 n q l c wm)∧(Arg.ints IntKind.i64 (vsEv0 n q l c wm)).list.length≤1000000)∧Ob ((vsEv1 n q l c wm)∧(Arg.ints IntKind.i64 (vsEv0 n q l c wm)).list.length≤1000000)∧Ob (vsEv5 n q l c wm)∧Ob (vsEv5 n q l c wm)∧Ob (((vsEv1 n q l c wm)∧l.length≤c∧errD (Arg.plain (vi (n:Int))).num (vsEv0 n q l c wm)=(0:Int)∧0<(vsEv0 n q l c wm).length∧(vsEv4 n q l c wm).fell=(0:Int))∧Value.tuple ⟨[Value.slice (some (ad0 1)) (vsEv7 n q l c wm).length (vsEv7 n q l c wm).length,vi (0:Int)]⟩=Value.tuple ⟨[Value.slice (some (ad0 1)) wm.length wm.length,vi (0:Int)]⟩∧[AObj.ro (List.map (Value.int IntKind.i64) l),AObj.rw (List.map (Value.int IntKind.i64) (vsEv7 n q l c wm)) none]=[AObj.ro (List.map (Value.int IntKind.i64) l),AObj.rw (List.map (Value.int IntKind.i64) wm) none])∧Ob ((vsEv1 n q l c wm)∧errD (Arg.plain (vi (n:Int))).num (vsEv0 n q l c wm)=(0:Int)∧0<(vsEv0 n q l c wm).length∧((vsEv4 n q l c wm).fell=(0:Int)→whL (mayG (Arg.plain (vi (n:Int))).num.toNat (vsEv0 n q l c wm)) (Arg.plain (vi (n:Int))).num.toNat=[]))∧((vsEv2 n q l c wm)=true→((vsEv3 n q l c wm)=true→(((if (vsEv4 n q l c wm).fell=(0:Int) then (0:Int) else (↑(bestTo (fun (p:Nat)↦ovI (↑(Arg.plain (vi (n:Int))).num.toNat:Int) (p:Int) (vsEv0 n q l c wm)) ((Arg.plain (vi (n:Int))).num.toNat-1)):Int))==if (vsEv4 n q l c wm).fell=(0:Int) then (0:Int) else (↑(bestTo (fun (p:Nat)↦ovI (↑(Arg.plain (vi (n:Int))).num.toNat:Int) (p:Int) (vsEv0 n q l c wm)) ((Arg.plain (vi (n:Int))).num.toNat-1)):Int))=true→((vsEv8 n q l c wm)=true→Ob ((List.take wm.length (List.drop 0 (List.map (Value.int IntKind.i64) wm))=List.map (Value.int IntKind.i64) (vsEv6 n q l c wm)∧0+wm.length≤(List.map (Value.int IntKind.i64) wm).length∧true=true)∧(Arg.ints IntKind.i64 (vsEv6 n q l c wm)).list.length≤1000000)∧(decide ((Arg.ints IntKind.i64 (vsEv6 n q l c wm)).list=[])=true→(((0:Int)==ledC (Arg.plain (vi (n:Int))).num.toNat (vsEv0 n q l c wm))=true→Ob (vsEv5 n q l c wm)∧Ob (vsEv5 n q l c wm)∧((ledC (Arg.plain (vi (n:Int))).num.toNat (vsEv0 n q l c wm)==ledC (Arg.plain (vi (n:Int))).num.toNat (vsEv0 n q l c wm))=true→Ob True∧True∧Ob (Value.bool true=Value.bool true))∧((ledC (Arg.plain (vi (n:Int))).num.toNat (vsEv0 n q l c wm)==ledC (Arg.plain (vi (n:Int))).num.toNat (vsEv0 n q l c wm))=false→True∧Ob (Value.bool false=Value.bool true)))∧(((0:Int)==ledC (Arg.plain (vi (n:Int))).num.toNat (vsEv0 n q l c wm))=false→True∧Ob (Value.bool false=Value.bool true)))∧(decide ((Arg.ints IntKind.i64 (vsEv6 n q l c wm)).list=[])=false→True∧Ob (Value.bool false=Value.bool true)))∧((vsEv8 n q l c wm)=false→True∧Ob (Value.bool false=Value.bool true)))∧(((if (vsEv4 n q l c wm).fell=(0:Int) then (0:Int) else (↑(bestTo (fun (p:Nat)↦ovI (↑(Arg.plain (vi (n:Int))).num.toNat:Int) (p:Int) (vsEv0 n q l c wm)) ((Arg.plain (vi (n:Int))).num.toNat-1)):Int))==if (vsEv4 n q l c wm).fell=(0:Int) then (0:Int) else (↑(bestTo (fun (p:Nat)↦ovI (↑(Arg.plain (vi (n:Int))).num.toNat:Int) (p:Int) (vsEv0 n q l c wm)) ((Arg.plain (vi (n:Int))).num.toNat-1)):Int))=false→True∧Ob (Value.bool false=Value.bool true)))∧((vsEv3 n q l c wm)=false→True∧Ob (Value.bool false=Value.bool true)))∧((vsEv2 n q l c wm)=false→True∧Ob (Value.bool false=Value.bool true)))
theorem vsEv_eq : vsEv = fun (n : Nat) (q : Int) (l : List Int) (c : Nat) (wm : List Int) => vc Try.prog (vsE wm) 1 100 true (fun _ => none) vsB [] (argFr 0 [vi n,.slice (some ⟨0,0,none⟩) l.length c,vi q]) [ros l] (retK Try.prog Try.f4 (fun v _ => v = .bool true)) := by kernel_rfl
noncomputable def vsGv0 (n:Nat) (q:Int) (l:List Int) (c:Nat) := (List.take l.length (List.drop 0 (intsOf (List.map (Value.int IntKind.i64) l))))
noncomputable def vsGv1 (n:Nat) (q:Int) (l:List Int) (c:Nat):Prop := (List.take l.length (List.drop 0 (List.map (Value.int IntKind.i64) l))=List.map (Value.int IntKind.i64) (vsGv0 n q l c)∧0+l.length≤(List.map (Value.int IntKind.i64) l).length∧true=true)
noncomputable def vsGv2 (n:Nat) (q:Int) (l:List Int) (c:Nat):Bool := ((if errD (Arg.plain (vi (n:Int))).num (Arg.ints IntKind.i64 (vsGv0 n q l c)).list=(0:Int)∧(0:Int)≤(Arg.plain (vi q)).num∧(Arg.plain (vi q)).num<(Arg.plain (vi (n:Int))).num then ovI (Arg.plain (vi (n:Int))).num (Arg.plain (vi q)).num (Arg.ints IntKind.i64 (vsGv0 n q l c)).list else (0:Int))==if errD (Arg.plain (vi (n:Int))).num (Arg.ints IntKind.i64 (vsGv0 n q l c)).list=(0:Int)∧(0:Int)≤(Arg.plain (vi q)).num∧(Arg.plain (vi q)).num<(Arg.plain (vi (n:Int))).num then ovI (Arg.plain (vi (n:Int))).num (Arg.plain (vi q)).num (Arg.ints IntKind.i64 (vsGv0 n q l c)).list else (0:Int))
noncomputable def vsGv3 (n:Nat) (q:Int) (l:List Int) (c:Nat):Bool := ((if errD (Arg.plain (vi (n:Int))).num (Arg.ints IntKind.i64 (vsGv0 n q l c)).list=(0:Int) then if (0:Int)≤(Arg.plain (vi q)).num∧(Arg.plain (vi q)).num<(Arg.plain (vi (n:Int))).num then (0:Int) else (2:Int) else errD (Arg.plain (vi (n:Int))).num (Arg.ints IntKind.i64 (vsGv0 n q l c)).list)==if errD (Arg.plain (vi (n:Int))).num (Arg.ints IntKind.i64 (vsGv0 n q l c)).list=(0:Int) then if (0:Int)≤(Arg.plain (vi q)).num∧(Arg.plain (vi q)).num<(Arg.plain (vi (n:Int))).num then (0:Int) else (2:Int) else errD (Arg.plain (vi (n:Int))).num (Arg.ints IntKind.i64 (vsGv0 n q l c)).list)
noncomputable def vsGv4 (n:Nat) (q:Int) (l:List Int) (c:Nat) := (runA (Arg.plain (vi (n:Int))).num.toNat (vsGv0 n q l c))
noncomputable def vsGv5 (n:Nat) (q:Int) (l:List Int) (c:Nat):Prop := ((vsGv1 n q l c)∧errD (Arg.plain (vi (n:Int))).num (vsGv0 n q l c)=(0:Int)∧0<(vsGv0 n q l c).length)
noncomputable def vsGv6 (n:Nat) (q:Int) (l:List Int) (c:Nat):Bool := ((if (vsGv4 n q l c).fell=(0:Int) then (20:Int) else (0:Int))==if (vsGv4 n q l c).fell=(0:Int) then (20:Int) else (0:Int))
noncomputable def vsGv7 (n:Nat) (q:Int) (l:List Int) (c:Nat):Bool := (ledC (Arg.plain (vi (n:Int))).num.toNat (vsGv0 n q l c)==ledC (Arg.plain (vi (n:Int))).num.toNat (vsGv0 n q l c))
noncomputable def vsGv :=
fun (n:Nat) (q:Int) (l:List Int) (c:Nat)↦(decide ((20:Int)<(l.length:Int))=true→Ob True∧True∧Ob (Value.bool true=Value.bool true))∧(decide ((20:Int)<(l.length:Int))=false→Ob ((vsGv1 n q l c)∧(Arg.ints IntKind.i64 (vsGv0 n q l c)).list.length≤1000000)∧Ob ((vsGv1 n q l c)∧(Arg.ints IntKind.i64 (vsGv0 n q l c)).list.length≤1000000)∧Ob (vsGv5 n q l c)∧Ob (vsGv5 n q l c)∧Ob ((vsGv1 n q l c)∧errD (Arg.plain (vi (n:Int))).num (vsGv0 n q l c)=(0:Int)∧0<(vsGv0 n q l c).length∧(vsGv4 n q l c).fell≠(0:Int))∧Ob ((vsGv1 n q l c)∧errD (Arg.plain (vi (n:Int))).num (vsGv0 n q l c)=(0:Int)∧0<(vsGv0 n q l c).length∧((vsGv4 n q l c).fell=(0:Int)→whL (mayG (Arg.plain (vi (n:Int))).num.toNat (vsGv0 n q l c)) (Arg.plain (vi (n:Int))).num.toNat=[]))∧((vsGv2 n q l c)=true→((vsGv3 n q l c)=true→(((if (vsGv4 n q l c).fell=(0:Int) then (0:Int) else (↑(bestTo (fun (p:Nat)↦ovI (↑(Arg.plain (vi (n:Int))).num.toNat:Int) (p:Int) (vsGv0 n q l c)) ((Arg.plain (vi (n:Int))).num.toNat-1)):Int))==if (vsGv4 n q l c).fell=(0:Int) then (0:Int) else (↑(bestTo (fun (p:Nat)↦ovI (↑(Arg.plain (vi (n:Int))).num.toNat:Int) (p:Int) (vsGv0 n q l c)) ((Arg.plain (vi (n:Int))).num.toNat-1)):Int))=true→((vsGv6 n q l c)=true→Ob (0≤1000000)∧(true=true→(((20:Int)==ledC (Arg.plain (vi (n:Int))).num.toNat (vsGv0 n q l c))=true→Ob (vsGv5 n q l c)∧Ob (vsGv5 n q l c)∧((vsGv7 n q l c)=true→Ob True∧True∧Ob (Value.bool true=Value.bool true))∧((vsGv7 n q l c)=false→True∧Ob (Value.bool false=Value.bool true)))∧(((20:Int)==ledC (Arg.plain (vi (n:Int))).num.toNat (vsGv0 n q l c))=false→True∧Ob (Value.bool false=Value.bool true)))∧(true=false→True∧Ob (Value.bool false=Value.bool true)))∧((vsGv6 n q l c)=false→True∧Ob (Value.bool false=Value.bool true)))∧(((if (vsGv4 n q l c).fell=(0:Int) then (0:Int) else (↑(bestTo (fun (p:Nat)↦ovI (↑(Arg.plain (vi (n:Int))).num.toNat:Int) (p:Int) (vsGv0 n q l c)) ((Arg.plain (vi (n:Int))).num.toNat-1)):Int))==if (vsGv4 n q l c).fell=(0:Int) then (0:Int) else (↑(bestTo (fun (p:Nat)↦ovI (↑(Arg.plain (vi (n:Int))).num.toNat:Int) (p:Int) (vsGv0 n q l c)) ((Arg.plain (vi (n:Int))).num.toNat-1)):Int))=false→True∧Ob (Value.bool false=Value.bool true)))∧((vsGv3 n q l c)=false→True∧Ob (Value.bool false=Value.bool true)))∧((vsGv2 n q l c)=false→True∧Ob (Value.bool false=Value.bool true)))
theorem vsGv_eq : vsGv = fun (n : Nat) (q : Int) (l : List Int) (c : Nat) => vc Try.prog vsG 1 100 true (fun _ => none) vsB [] (argFr 0 [vi n,.slice (some ⟨0,0,none⟩) l.length c,vi q]) [ros l] (retK Try.prog Try.f4 (fun v _ => v = .bool true)) := by kernel_rfl
noncomputable def vsNv0 (n:Nat) (q:Int) (wm:List Int):Bool := ((if errD (Arg.plain (vi (n:Int))).num []=(0:Int)∧(0:Int)≤(Arg.plain (vi q)).num∧(Arg.plain (vi q)).num<(Arg.plain (vi (n:Int))).num then ovI (Arg.plain (vi (n:Int))).num (Arg.plain (vi q)).num [] else (0:Int))==if errD (Arg.plain (vi (n:Int))).num []=(0:Int)∧(0:Int)≤(Arg.plain (vi q)).num∧(Arg.plain (vi q)).num<(Arg.plain (vi (n:Int))).num then ovI (Arg.plain (vi (n:Int))).num (Arg.plain (vi q)).num [] else (0:Int))
noncomputable def vsNv1 (n:Nat) (q:Int) (wm:List Int):Bool := ((if errD (Arg.plain (vi (n:Int))).num []=(0:Int) then if (0:Int)≤(Arg.plain (vi q)).num∧(Arg.plain (vi q)).num<(Arg.plain (vi (n:Int))).num then (0:Int) else (2:Int) else errD (Arg.plain (vi (n:Int))).num [])==if errD (Arg.plain (vi (n:Int))).num []=(0:Int) then if (0:Int)≤(Arg.plain (vi q)).num∧(Arg.plain (vi q)).num<(Arg.plain (vi (n:Int))).num then (0:Int) else (2:Int) else errD (Arg.plain (vi (n:Int))).num [])
noncomputable def vsNv2 (n:Nat) (q:Int) (wm:List Int) := (List.take wm.length (List.drop 0 (intsOf (List.map (Value.int IntKind.i64) wm))))
noncomputable def vsNv3 (n:Nat) (q:Int) (wm:List Int) := (whL (mayG (Arg.plain (vi (n:Int))).num.toNat []) (Arg.plain (vi (n:Int))).num.toNat)
noncomputable def vsNv4 (n:Nat) (q:Int) (wm:List Int) := (List.map (Value.int IntKind.i64) wm)
noncomputable def vsNv5 (n:Nat) (q:Int) (wm:List Int):Prop := (errD (Arg.plain (vi (n:Int))).num []=(0:Int))
noncomputable def vsNv6 (n:Nat) (q:Int) (wm:List Int):Prop := (Value.bool false=Value.bool true)
noncomputable def vsNv :=
fun (n:Nat) (q:Int) (wm:List Int)↦(false=true→Ob True∧True∧Ob (Value.bool true=Value.bool true))∧(false=false→Ob (0≤1000000)∧Ob (0≤1000000)∧Ob (vsNv5 n q wm)∧Ob (vsNv5 n q wm)∧Ob (errD (Arg.plain (vi (n:Int))).num []=(0:Int)∧Value.tuple ⟨[Value.slice (some (ad0 0)) (vsNv3 n q wm).length (vsNv3 n q wm).length,vi (0:Int)]⟩=Value.tuple ⟨[Value.slice (some (ad0 0)) wm.length wm.length,vi (0:Int)]⟩∧[AObj.rw (List.map (Value.int IntKind.i64) (vsNv3 n q wm)) none]=[AObj.rw (vsNv4 n q wm) none])∧Ob ((errD (Arg.plain (vi (n:Int))).num []=(0:Int)∧whL (mayG (Arg.plain (vi (n:Int))).num.toNat []) (Arg.plain (vi (n:Int))).num.toNat≠[])∧Value.tuple ⟨[Value.slice (some ⟨1,0,some 0⟩) (vsNv3 n q wm).length 0,vi (0:Int)]⟩=Value.tuple ⟨[Value.slice (some ⟨1,0,some 0⟩) wm.length 0,vi (0:Int)]⟩∧[AObj.rw (vsNv4 n q wm) none,AObj.rw (List.map (Value.int IntKind.i64) (vsNv3 n q wm)) (some 1)]=[AObj.rw (vsNv4 n q wm) none,AObj.rw (vsNv4 n q wm) (some 1)])∧((vsNv0 n q wm)=true→((vsNv1 n q wm)=true→(true=true→(true=true→Ob (((List.take wm.length (List.drop 0 (vsNv4 n q wm))=List.map (Value.int IntKind.i64) (vsNv2 n q wm)∧0+wm.length≤(vsNv4 n q wm).length∧true=true)∧List.take wm.length (List.drop 0 (vsNv4 n q wm))=List.map (Value.int IntKind.i64) (vsNv2 n q wm)∧0+wm.length≤(vsNv4 n q wm).length∧true=true)∧(Arg.ints IntKind.i64 (vsNv2 n q wm)).list.length≤1000000)∧(decide ((Arg.ints IntKind.i64 (vsNv2 n q wm)).list=(Arg.ints IntKind.i64 (vsNv2 n q wm)).list)=true→(true=true→Ob (vsNv5 n q wm)∧Ob (vsNv5 n q wm)∧(true=true→Ob True∧True∧Ob (Value.bool true=Value.bool true))∧(true=false→True∧Ob (vsNv6 n q wm)))∧(true=false→True∧Ob (vsNv6 n q wm)))∧(decide ((Arg.ints IntKind.i64 (vsNv2 n q wm)).list=(Arg.ints IntKind.i64 (vsNv2 n q wm)).list)=false→True∧Ob (vsNv6 n q wm)))∧(true=false→True∧Ob (vsNv6 n q wm)))∧(true=false→True∧Ob (vsNv6 n q wm)))∧((vsNv1 n q wm)=false→True∧Ob (vsNv6 n q wm)))∧((vsNv0 n q wm)=false→True∧Ob (vsNv6 n q wm)))
theorem vsNv_eq : vsNv = fun (n : Nat) (q : Int) (wm : List Int) => vc Try.prog (vsF wm) 0 100 true (fun _ => none) vsB [] (argFr 0 [vi n,nilS,vi q]) [] (retK Try.prog Try.f4 (fun v _ => v = .bool true)) := by kernel_rfl
noncomputable def vsHn0 (n:Nat) (q:Int) (c:Nat) (wm:List Int):Bool := ((if errD (Arg.plain (vi (n:Int))).num []=(0:Int)∧(0:Int)≤(Arg.plain (vi q)).num∧(Arg.plain (vi q)).num<(Arg.plain (vi (n:Int))).num then ovI (Arg.plain (vi (n:Int))).num (Arg.plain (vi q)).num [] else (0:Int))==if errD (Arg.plain (vi (n:Int))).num []=(0:Int)∧(0:Int)≤(Arg.plain (vi q)).num∧(Arg.plain (vi q)).num<(Arg.plain (vi (n:Int))).num then ovI (Arg.plain (vi (n:Int))).num (Arg.plain (vi q)).num [] else (0:Int))
noncomputable def vsHn1 (n:Nat) (q:Int) (c:Nat) (wm:List Int):Bool := ((if errD (Arg.plain (vi (n:Int))).num []=(0:Int) then if (0:Int)≤(Arg.plain (vi q)).num∧(Arg.plain (vi q)).num<(Arg.plain (vi (n:Int))).num then (0:Int) else (2:Int) else errD (Arg.plain (vi (n:Int))).num [])==if errD (Arg.plain (vi (n:Int))).num []=(0:Int) then if (0:Int)≤(Arg.plain (vi q)).num∧(Arg.plain (vi q)).num<(Arg.plain (vi (n:Int))).num then (0:Int) else (2:Int) else errD (Arg.plain (vi (n:Int))).num [])
noncomputable def vsHn2 (n:Nat) (q:Int) (c:Nat) (wm:List Int) := (List.take wm.length (List.drop 0 (intsOf (List.map (Value.int IntKind.i64) wm))))
noncomputable def vsHn3 (n:Nat) (q:Int) (c:Nat) (wm:List Int) := (whL (mayG (Arg.plain (vi (n:Int))).num.toNat []) (Arg.plain (vi (n:Int))).num.toNat)
noncomputable def vsHn4 (n:Nat) (q:Int) (c:Nat) (wm:List Int) := (List.map (Value.int IntKind.i64) wm)
noncomputable def vsHn :=
fun (n:Nat) (q:Int) (c:Nat) (wm:List Int)↦(false=true→Ob True∧True∧Ob (Value.bool true=Value.bool true))∧(false=false→Ob (0≤1000000)∧Ob (0≤1000000)∧Ob (errD (Arg.plain (vi (n:Int))).num []=(0:Int))∧Ob (errD (Arg.plain (vi (n:Int))).num []=(0:Int))∧Ob ((0≤c∧errD (Arg.plain (vi (n:Int))).num []=(0:Int))∧Value.tuple ⟨[Value.slice (some (ad0 1)) (vsHn3 n q c wm).length (vsHn3 n q c wm).length,vi (0:Int)]⟩=Value.tuple ⟨[Value.slice (some (ad0 1)) wm.length wm.length,vi (0:Int)]⟩∧[AObj.gone,AObj.rw (List.map (Value.int IntKind.i64) (vsHn3 n q c wm)) none]=[AObj.gone,AObj.rw (vsHn4 n q c wm) none])∧Ob ((errD (Arg.plain (vi (n:Int))).num []=(0:Int)∧whL (mayG (Arg.plain (vi (n:Int))).num.toNat []) (Arg.plain (vi (n:Int))).num.toNat≠[])∧Value.tuple ⟨[Value.slice (some ⟨2,0,some 0⟩) (vsHn3 n q c wm).length 0,vi (0:Int)]⟩=Value.tuple ⟨[Value.slice (some ⟨2,0,some 0⟩) wm.length 0,vi (0:Int)]⟩∧[AObj.gone,AObj.rw (vsHn4 n q c wm) none,AObj.rw (List.map (Value.int IntKind.i64) (vsHn3 n q c wm)) (some 1)]=[AObj.gone,AObj.rw (vsHn4 n q c wm) none,AObj.rw (vsHn4 n q c wm) (some 1)])∧((vsHn0 n q c wm)=true→((vsHn1 n q c wm)=true→(true=true→(true=true→Ob (((List.take wm.length (List.drop 0 (vsHn4 n q c wm))=List.map (Value.int IntKind.i64) (vsHn2 n q c wm)∧0+wm.length≤(vsHn4 n q c wm).length∧true=true)∧List.take wm.length (List.drop 0 (vsHn4 n q c wm))=List.map (Value.int IntKind.i64) (vsHn2 n q c wm)∧0+wm.length≤(vsHn4 n q c wm).length∧true=true)∧(Arg.ints IntKind.i64 (vsHn2 n q c wm)).list.length≤1000000)∧(decide ((Arg.ints IntKind.i64 (vsHn2 n q c wm)).list=(Arg.ints IntKind.i64 (vsHn2 n q c wm)).list)=true→(true=true→Ob (errD (Arg.plain (vi (n:Int))).num []=(0:Int))∧Ob (errD (Arg.plain (vi (n:Int))).num []=(0:Int))∧(true=true→Ob True∧True∧Ob (Value.bool true=Value.bool true))∧(true=false→True∧Ob (Value.bool false=Value.bool true)))∧(true=false→True∧Ob (Value.bool false=Value.bool true)))∧(decide ((Arg.ints IntKind.i64 (vsHn2 n q c wm)).list=(Arg.ints IntKind.i64 (vsHn2 n q c wm)).list)=false→True∧Ob (Value.bool false=Value.bool true)))∧(true=false→True∧Ob (Value.bool false=Value.bool true)))∧(true=false→True∧Ob (Value.bool false=Value.bool true)))∧((vsHn1 n q c wm)=false→True∧Ob (Value.bool false=Value.bool true)))∧((vsHn0 n q c wm)=false→True∧Ob (Value.bool false=Value.bool true)))
theorem vsHn_eq : vsHn = fun (n : Nat) (q : Int) (c : Nat) (wm : List Int) => vc Try.prog (vsH wm) 1 100 true (fun _ => none) vsB [] (argFr 0 [vi n,.slice (some ⟨0,0,none⟩) 0 c,vi q]) [.gone] (retK Try.prog Try.f4 (fun v _ => v = .bool true)) := by kernel_rfl
noncomputable def vsHs0 (n k:Nat) (q:Int) (c:Nat) (wm:List Int):Bool := ((if errD (Arg.plain (vi (n:Int))).num []=(0:Int)∧(0:Int)≤(Arg.plain (vi q)).num∧(Arg.plain (vi q)).num<(Arg.plain (vi (n:Int))).num then ovI (Arg.plain (vi (n:Int))).num (Arg.plain (vi q)).num [] else (0:Int))==if errD (Arg.plain (vi (n:Int))).num []=(0:Int)∧(0:Int)≤(Arg.plain (vi q)).num∧(Arg.plain (vi q)).num<(Arg.plain (vi (n:Int))).num then ovI (Arg.plain (vi (n:Int))).num (Arg.plain (vi q)).num [] else (0:Int))
noncomputable def vsHs1 (n k:Nat) (q:Int) (c:Nat) (wm:List Int):Bool := ((if errD (Arg.plain (vi (n:Int))).num []=(0:Int) then if (0:Int)≤(Arg.plain (vi q)).num∧(Arg.plain (vi q)).num<(Arg.plain (vi (n:Int))).num then (0:Int) else (2:Int) else errD (Arg.plain (vi (n:Int))).num [])==if errD (Arg.plain (vi (n:Int))).num []=(0:Int) then if (0:Int)≤(Arg.plain (vi q)).num∧(Arg.plain (vi q)).num<(Arg.plain (vi (n:Int))).num then (0:Int) else (2:Int) else errD (Arg.plain (vi (n:Int))).num [])
noncomputable def vsHs2 (n k:Nat) (q:Int) (c:Nat) (wm:List Int) := (List.take wm.length (List.drop 0 (intsOf (List.map (Value.int IntKind.i64) wm))))
noncomputable def vsHs3 (n k:Nat) (q:Int) (c:Nat) (wm:List Int) := (whL (mayG (Arg.plain (vi (n:Int))).num.toNat []) (Arg.plain (vi (n:Int))).num.toNat)
noncomputable def vsHs :=
fun (n k:Nat) (q:Int) (c:Nat) (wm:List Int)↦(false=true→Ob True∧True∧Ob (Value.bool true=Value.bool true))∧(false=false→Ob (0≤1000000)∧Ob (0≤1000000)∧Ob (errD (Arg.plain (vi (n:Int))).num []=(0:Int))∧Ob (errD (Arg.plain (vi (n:Int))).num []=(0:Int))∧Ob (errD (Arg.plain (vi (n:Int))).num []=(0:Int)∧Value.tuple ⟨[Value.slice (some (ad0 1)) (vsHs3 n k q c wm).length (vsHs3 n k q c wm).length,vi (0:Int)]⟩=Value.tuple ⟨[Value.slice (some (ad0 1)) wm.length wm.length,vi (0:Int)]⟩∧[AObj.gone,AObj.rw (List.map (Value.int IntKind.i64) (vsHs3 n k q c wm)) none]=[AObj.gone,AObj.rw (List.map (Value.int IntKind.i64) wm) none])∧Ob ((errD (Arg.plain (vi (n:Int))).num []=(0:Int)∧whL (mayG (Arg.plain (vi (n:Int))).num.toNat []) (Arg.plain (vi (n:Int))).num.toNat≠[])∧Value.tuple ⟨[Value.slice (some ⟨2,0,some 0⟩) (vsHs3 n k q c wm).length 0,vi (0:Int)]⟩=Value.tuple ⟨[Value.slice (some ⟨2,0,some 0⟩) wm.length 0,vi (0:Int)]⟩∧[AObj.gone,AObj.rw (List.map (Value.int IntKind.i64) wm) none,AObj.rw (List.map (Value.int IntKind.i64) (vsHs3 n k q c wm)) (some 1)]=[AObj.gone,AObj.rw (List.map (Value.int IntKind.i64) wm) none,AObj.rw (List.map (Value.int IntKind.i64) wm) (some 1)])∧((vsHs0 n k q c wm)=true→((vsHs1 n k q c wm)=true→(true=true→(true=true→Ob (((List.take wm.length (List.drop 0 (List.map (Value.int IntKind.i64) wm))=List.map (Value.int IntKind.i64) (vsHs2 n k q c wm)∧0+wm.length≤(List.map (Value.int IntKind.i64) wm).length∧true=true)∧List.take wm.length (List.drop 0 (List.map (Value.int IntKind.i64) wm))=List.map (Value.int IntKind.i64) (vsHs2 n k q c wm)∧0+wm.length≤(List.map (Value.int IntKind.i64) wm).length∧true=true)∧(Arg.ints IntKind.i64 (vsHs2 n k q c wm)).list.length≤1000000)∧(decide ((Arg.ints IntKind.i64 (vsHs2 n k q c wm)).list=(Arg.ints IntKind.i64 (vsHs2 n k q c wm)).list)=true→(true=true→Ob (errD (Arg.plain (vi (n:Int))).num []=(0:Int))∧Ob (errD (Arg.plain (vi (n:Int))).num []=(0:Int))∧(true=true→Ob True∧True∧Ob (Value.bool true=Value.bool true))∧(true=false→True∧Ob (Value.bool false=Value.bool true)))∧(true=false→True∧Ob (Value.bool false=Value.bool true)))∧(decide ((Arg.ints IntKind.i64 (vsHs2 n k q c wm)).list=(Arg.ints IntKind.i64 (vsHs2 n k q c wm)).list)=false→True∧Ob (Value.bool false=Value.bool true)))∧(true=false→True∧Ob (Value.bool false=Value.bool true)))∧(true=false→True∧Ob (Value.bool false=Value.bool true)))∧((vsHs1 n k q c wm)=false→True∧Ob (Value.bool false=Value.bool true)))∧((vsHs0 n k q c wm)=false→True∧Ob (Value.bool false=Value.bool true)))
theorem vsHs_eq : vsHs = fun (n k : Nat) (q : Int) (c : Nat) (wm : List Int) => vc Try.prog (vsH wm) 1 100 true (fun _ => none) vsB [] (argFr 0 [vi n,.slice (some ⟨0,0,some k⟩) 0 (c + 1),vi q]) [.gone] (retK Try.prog Try.f4 (fun v _ => v = .bool true)) := by kernel_rfl
theorem vsXR_ok (p q : Int) (l : List Int) (c : Nat) (he : errD p l ≠ 0) : vsXR p q l c := by
 unfold vsXR vsXR8 vsXR7 vsXR6 vsXR5 vsXR4 vsXR3 vsXR2 vsXR1 vsXR0
 simp only [SS,reduceCtorEq,Arg.list,Arg.num,Arg.flag,intOf,andP,Nat.reduceLeDiff,Nat.reduceAdd,Nat.reduceMul,Nat.reduceLT,← errD_eq]
 intro hg
 have hl : l.length≤1000000 := by omega
 simp [he,hl]
theorem vsXN_ok (p q : Int) (he : errD p [] ≠ 0) : vsXN p q := by
 unfold vsXN vsXN6 vsXN5 vsXN4 vsXN3 vsXN2 vsXN1 vsXN0
 simp only [SS,reduceCtorEq,Arg.list,Arg.num,Arg.flag,intOf,andP,Nat.reduceLeDiff,Nat.reduceAdd,Nat.reduceMul,Nat.reduceLT,← errD_eq]
 simp [he]
theorem vsXH_ok (p q : Int) (s : Option Nat) (c : Nat) (he : errD p [] ≠ 0) : vsXH p q s c := by
 unfold vsXH vsXH3 vsXH2 vsXH1 vsXH0
 simp only [SS,reduceCtorEq,Arg.list,Arg.num,Arg.flag,intOf,andP,Nat.reduceLeDiff,Nat.reduceAdd,Nat.reduceMul,Nat.reduceLT,← errD_eq]
 simp [he]
theorem vsFv_ok (n : Nat) (q : Int) (l : List Int) (c : Nat) (he : errD n l = 0) (h0 : 0 < l.length) (hc : l.length≤c) (hf : (runA n l).fell = 0) (hne : whL (mayG n l) n ≠ []) : vsFv n q l c (whL (mayG n l) n) := by
 obtain ⟨hn,hb,hl⟩ := pre_ok he
 have wl := whL_len (g := mayG n l) (i := n)
 unfold vsFv vsFv8 vsFv7 vsFv6 vsFv5 vsFv4 vsFv3 vsFv2 vsFv1 vsFv0
 simp only [SS,reduceCtorEq,Arg.list,Arg.num,Arg.flag,intOf,andP,Nat.reduceLeDiff,Nat.reduceAdd,Nat.reduceMul,Nat.reduceLT,he,hf]
 exact fun _ => ⟨by omega,by omega,h0,h0,⟨hc,h0⟩,⟨h0,hne⟩,by omega,h0,h0⟩
theorem vsEv_ok (n : Nat) (q : Int) (l : List Int) (c : Nat) (he : errD n l = 0) (h0 : 0 < l.length) (hc : l.length≤c) (hf : (runA n l).fell = 0) (hne : whL (mayG n l) n = []) : vsEv n q l c (whL (mayG n l) n) := by
 obtain ⟨hn,hb,hl⟩ := pre_ok he
 have wl := whL_len (g := mayG n l) (i := n)
 have e : ledC n l = 0 := if_pos hf
 unfold vsEv vsEv8 vsEv7 vsEv6 vsEv5 vsEv4 vsEv3 vsEv2 vsEv1 vsEv0
 simp only [SS,reduceCtorEq,Arg.list,Arg.num,Arg.flag,intOf,andP,Nat.reduceLeDiff,Nat.reduceAdd,Nat.reduceMul,Nat.reduceLT,he,hf]
 exact fun _ => ⟨by omega,by omega,h0,h0,⟨hc,h0⟩,⟨h0,hne⟩,by omega,fun _ => ⟨fun _ => ⟨h0,h0⟩,fun h => h e.symm⟩,fun h => h hne⟩
theorem vsGv_ok (n : Nat) (q : Int) (l : List Int) (c : Nat) (he : errD n l = 0) (h0 : 0 < l.length) (hf : (runA n l).fell ≠ 0) : vsGv n q l c := by
 obtain ⟨hn,hb,hl⟩ := pre_ok he
 have e : ledC n l = 20 := if_neg hf
 unfold vsGv vsGv7 vsGv6 vsGv5 vsGv4 vsGv3 vsGv2 vsGv1 vsGv0
 simp only [SS,reduceCtorEq,Arg.list,Arg.num,Arg.flag,intOf,andP,Nat.reduceLeDiff,Nat.reduceAdd,Nat.reduceMul,Nat.reduceLT,he,hf]
 exact fun _ => ⟨by omega,by omega,h0,h0,h0,h0,fun _ => ⟨h0,h0⟩,fun h => h e.symm⟩
theorem vsNv_ok (n : Nat) (q : Int) (he : errD n [] = 0) (hne : whL (mayG n []) n ≠ []) : vsNv n q (whL (mayG n []) n) := by
 obtain ⟨hn,hb,hl⟩ := pre_ok he
 have wl := whL_len (g := mayG n []) (i := n)
 unfold vsNv vsNv6 vsNv5 vsNv4 vsNv3 vsNv2 vsNv1 vsNv0
 simp only [SS,reduceCtorEq,Arg.list,Arg.num,Arg.flag,intOf,andP,Nat.reduceLeDiff,Nat.reduceAdd,Nat.reduceMul,Nat.reduceLT,he]
 exact ⟨hne,by omega⟩
theorem vsHn_ok (n : Nat) (q : Int) (c : Nat) (he : errD n [] = 0) (hne : whL (mayG n []) n ≠ []) : vsHn n q c (whL (mayG n []) n) := by
 obtain ⟨hn,hb,hl⟩ := pre_ok he
 have wl := whL_len (g := mayG n []) (i := n)
 unfold vsHn vsHn4 vsHn3 vsHn2 vsHn1 vsHn0
 simp only [SS,reduceCtorEq,Arg.list,Arg.num,Arg.flag,intOf,andP,Nat.reduceLeDiff,Nat.reduceAdd,Nat.reduceMul,Nat.reduceLT,he]
 exact ⟨hne,by omega⟩
theorem vsHs_ok (n k : Nat) (q : Int) (c : Nat) (he : errD n [] = 0) (hne : whL (mayG n []) n ≠ []) : vsHs n k q c (whL (mayG n []) n) := by
 obtain ⟨hn,hb,hl⟩ := pre_ok he
 have wl := whL_len (g := mayG n []) (i := n)
 unfold vsHs vsHs3 vsHs2 vsHs1 vsHs0
 simp only [SS,reduceCtorEq,Arg.list,Arg.num,Arg.flag,intOf,andP,Nat.reduceLeDiff,Nat.reduceAdd,Nat.reduceMul,Nat.reduceLT,he]
 exact ⟨hne,by omega⟩
theorem wh_ne {g : Nat→Bool} (h : g 0 = true) : ∀ m : Nat,whL g (m + 1) ≠ []
 | 0 => by rw [whL_succ,if_pos h]; simp
 | m + 1 => by
   rw [whL_succ]
   split
   · simp
   · exact wh_ne h m
theorem may_ne {n : Nat} (he : errD n [] = 0) : whL (mayG n []) n ≠ [] := by
 have n1 := n_pos he
 have hx : ∀ y ∈ [] ++ [((0 : Nat) : Int)],0≤y∧y < (n : Int) := fun y hy => by rw [List.mem_singleton.1 hy]; omega
 have e : mayG n [] 0 = true := by
   refine decide_eq_true ?_
   have f := ma_full (n := n) (x := 0) (l := []) hx
   have nn : 0≤(runA n ([] ++ [((0 : Nat) : Int)])).fell := fell_nn hx
   have ne := List.length_pos_iff.2 (full_ne (p := (n : Int)) (l := [] ++ [((0 : Nat) : Int)]) (by simp) hx)
   have ne : 0 < (fullTo n ([] ++ [((0 : Nat) : Int)]) n).length := ne
   have f' : (runA n ([] ++ [((0 : Nat) : Int)])).fell = 1 - ((fullTo n ([] ++ [((0 : Nat) : Int)]) n).length : Int) := f
   omega
 obtain ⟨m,rfl⟩ : ∃ m,n = m + 1 := ⟨n - 1,by omega⟩
 exact wh_ne e m
theorem vsC_ok : CtOk Try.prog vsC := (((CtOk.none.add worksG_ok).add iiG_ok).add coG_ok).add co2G_ok
theorem vsXC_ok : CtOk Try.prog vsXC := (vsC_ok.add pushedX_ok).add rcdG_ok
theorem vsX1_in : ∀ e ∈ ([⟨17,Try.f17,fun _ _ _ => none⟩,⟨28,Try.f28,fun _ _ _ => none⟩,⟨29,Try.f29,fun _ _ _ => none⟩,⟨32,Try.f32,fun _ _ _ => none⟩,⟨33,Try.f33,fun _ _ _ => none⟩] : List InlE),Try.prog.funcs[e.f]? = some e.fn := fun e he => by
 rcases List.mem_cons.1 he with rfl | he
 · exact Try.func17
 rcases List.mem_cons.1 he with rfl | he
 · exact Try.func28
 rcases List.mem_cons.1 he with rfl | he
 · exact Try.func29
 rcases List.mem_cons.1 he with rfl | he
 · exact Try.func32
 rw [List.mem_singleton.1 he]; exact Try.func33
theorem vsX_in : ∀ e ∈ ([⟨30,Try.f30,fun _ _ _ => none⟩,⟨31,Try.f31,fun _ _ _ => none⟩] : List InlE),Try.prog.funcs[e.f]? = some e.fn := fun e he => by
 rcases List.mem_cons.1 he with rfl | he
 · exact Try.func30
 rw [List.mem_singleton.1 he]; exact Try.func31
theorem vsX1_ok : VOk Try.prog vsX1 := ⟨vsXC_ok,ccIn_ok (VOk.ofCt vsXC_ok) mixed vsX1_in,E0_ok.yc,E0_ok.orc⟩
theorem vsX_ok : VOk Try.prog vsX := ⟨vsXC_ok,ccOr_ok (ccIn_ok vsX1_ok mixed vsX_in) vsX1_ok.cc,E0_ok.yc,E0_ok.orc⟩
theorem vsVC_ok : CtOk Try.prog vsVC := (((vsC_ok.add ovrG_ok).add ov2G_ok).add arowG_ok).add cr2G_ok
theorem vsF_ok (wm : List Int) : VOk Try.prog (vsF wm) := ⟨(vsVC_ok.add (nameCt_ok mayC_ok)).add (nameCt_ok ma2G_ok),ccIn_ok E0_ok mixed (inl_one Try.func17),E0_ok.yc,E0_ok.orc⟩
theorem vsE_ok (wm : List Int) : VOk Try.prog (vsE wm) := ⟨(vsVC_ok.add (nameCt_ok mayC_ok)).add ma2XG_ok,ccIn_ok E0_ok mixed (inl_one Try.func17),E0_ok.yc,E0_ok.orc⟩
theorem vsG_ok : VOk Try.prog vsG := ⟨(vsVC_ok.add mayX_ok).add ma2XG_ok,ccIn_ok E0_ok mixed (inl_one Try.func17),E0_ok.yc,E0_ok.orc⟩
theorem vsH_ok (wm : List Int) : VOk Try.prog (vsH wm) := ⟨(vsVC_ok.add (nameCt_ok mayH_ok)).add (nameCt_ok ma2G_ok),ccIn_ok E0_ok mixed (inl_one Try.func17),E0_ok.yc,E0_ok.orc⟩
theorem fit_int {k : IntKind} {a : Arg} (h : (PK.int k).fits a) : ∃ n,a = .plain (.int k n) := by
 obtain ⟨n,h,_⟩ := h
 exact ⟨n,h⟩
theorem fit_ints {k : IntKind} {a : Arg} (h : (PK.ints k).fits a) : a = .plain (.slice none 0 0)∨(∃ s,a = .hole s)∨∃ l,a = .ints k l∧0 < l.length := by
 rcases h with h | h | ⟨l,h,h2,_⟩
 · exact .inl h
 · exact .inr (.inl h)
 · exact .inr (.inr ⟨l,h,h2⟩)
theorem overs_small (r : List Arg) (hr : fitsAll [.int .i64,.ints .i64,.int .i64] r) (caps : Nat→Nat) (hc : capsOk caps 0 (r.map Arg.two)) : Call Try.prog 4 (canonA caps 0 r) (canonH r) isTrue := by
 obtain ⟨x,r,rfl,hx,hr⟩ := fits_cons hr
 obtain ⟨y,r,rfl,hy,hr⟩ := fits_cons hr
 obtain ⟨z,r,rfl,hz,hr⟩ := fits_cons hr
 obtain rfl := fits_nil hr
 obtain ⟨p,rfl⟩ := fit_int hx
 obtain ⟨q,rfl⟩ := fit_int hz
 rcases fit_ints hy with rfl | ⟨s,rfl⟩ | ⟨l,rfl,h0⟩
 · by_cases he : errD p [] = 0
   · obtain ⟨n,rfl⟩ := errD_pos he
     have h := vsNv_ok n q he (may_ne he)
     rw [vsNv_eq] at h
     exact Call.ofVc (vsF_ok _) mixed (c := vsB) Try.func4 (by kernel_rfl) h
   · have h := vsXN_ok p q he
     rw [vsXN_eq] at h
     exact Call.ofVc vsX_ok mixed (c := vsB) Try.func4 (by kernel_rfl) h
 · by_cases he : errD p [] = 0
   · obtain ⟨n,rfl⟩ := errD_pos he
     cases s with
     | none =>
       have h := vsHn_ok n q (caps 0) he (may_ne he)
       rw [vsHn_eq] at h
       exact Call.ofVc (vsH_ok _) mixed (c := vsB) Try.func4 (by kernel_rfl) h
     | some k =>
       have h1 : 0 < caps 0 := hc.1 rfl
       obtain ⟨c,ec⟩ : ∃ c,caps 0 = c + 1 := ⟨caps 0 - 1,by omega⟩
       have h := vsHs_ok n k q c he (may_ne he)
       rw [vsHs_eq] at h
       show Call Try.prog 4 [vi n,.slice (some ⟨0,0,some k⟩) 0 (caps 0),vi q] [.gone] isTrue
       rw [ec]
       exact Call.ofVc (vsH_ok _) mixed (c := vsB) Try.func4 (by kernel_rfl) h
   · have h := vsXH_ok p q s (caps 0) he
     rw [vsXH_eq] at h
     exact Call.ofVc vsX_ok mixed (c := vsB) Try.func4 (by kernel_rfl) h
 · by_cases he : errD p l = 0
   · obtain ⟨n,rfl⟩ := errD_pos he
     have hcl : l.length≤caps 0 := hc.1
     by_cases hf : (runA n l).fell = 0
     · by_cases hne : whL (mayG n l) n = []
       · have h := vsEv_ok n q l (caps 0) he h0 hcl hf hne
         rw [vsEv_eq] at h
         exact Call.ofVc (vsE_ok _) mixed (c := vsB) Try.func4 (by kernel_rfl) h
       · have h := vsFv_ok n q l (caps 0) he h0 hcl hf hne
         rw [vsFv_eq] at h
         exact Call.ofVc (vsF_ok _) mixed (c := vsB) Try.func4 (by kernel_rfl) h
     · have h := vsGv_ok n q l (caps 0) he h0 hf
       rw [vsGv_eq] at h
       exact Call.ofVc vsG_ok mixed (c := vsB) Try.func4 (by kernel_rfl) h
   · have h := vsXR_ok p q l (caps 0) he
     rw [vsXR_eq] at h
     exact Call.ofVc vsX_ok mixed (c := vsB) Try.func4 (by kernel_rfl) h
theorem overs_law {K : Type} : ∀ (H : Heap) (avs : List Value) (ds : List (DataW K)),Still H→ReadsAll Try.prog H Try.f4.params.toList avs ds→Call Try.prog 4 avs H fun v _ => v = .bool true :=
 law_ofC (ps := [.int .i64,.ints .i64,.int .i64]) (by kernel_rfl) overs_small
end Go.Pier.Lg
