import Derived.Test.YtbmdkgoclijgkaaPierKD5
import Derived.Test.YtbmdkgoclijgkaaPierKD4
import Derived.KernelRfl
set_option linter.unusedSimpArgs false
set_option linter.unusedVariables false
set_option maxRecDepth 100000
namespace Go.Pier.Rd
open Go Go.Pier Go.Proofs
noncomputable def grBd : Code := Try.f134.body.getD .skip
noncomputable def EGLd (b : Int) (n c f : Nat) (l m : List Int) (no : Bool) (k : Nat) (st : Nat→Int) : Heap := EGd b n c f l m laF .gone .ready no k st
noncomputable def fdRd (b : Int) (n : Nat) (l : List Int) (no : Bool) (st : Nat→Int) (r : List (List Int)) : LS := foldR b l (inA n l) (ND n l) ⟨no,st⟩ r
noncomputable def grCcd (b:Int) (n c f:Nat) (l m:List Int) (κ:Nat):Cc := fun fn args H => match Nat.beq fn 134 with
 | true => match Nat.beq H.length 15 with
   | true => some fun Q => ∃ (m2:List Int) (f1 t1:Nat) (no:Bool) (st:Nat→Int) (o18:AObj),Ob (args=[ptr0 1,newS 14 m2.length,vi f1,vi t1,yv 10]∧H=EGLd b n c f l m no 11 st++[o18,rws m2]∧Begun n f1 t1 m2∧f1+(n-t1)+1=κ∧(no=true→st=empI)) ∧
       Q (.bool true) (EGLd b n c f l m (fdRd b n l no st (rds n (κ-1) f1 t1 m2)).no 15 (fdRd b n l no st (rds n (κ-1) f1 t1 m2)).st++[o18,rws m2,.gone])
   | false => match Nat.beq H.length 18 with
     | true => some fun Q => ∃ (m2:List Int) (f1 t1:Nat) (no:Bool) (st:Nat→Int) (o18 o19 o21:AObj),Ob (args=[ptr0 1,newS 17 m2.length,vi f1,vi t1,yv 10]∧H=EGLd b n c f l m no 15 st++[o18,o19,.gone,o21,rws m2]∧Begun n f1 t1 m2∧f1+(n-t1)+1=κ∧(no=true→st=empI)) ∧
         Q (.bool true) (EGLd b n c f l m (fdRd b n l no st (rds n (κ-1) f1 t1 m2)).no 18 (fdRd b n l no st (rds n (κ-1) f1 t1 m2)).st++[o18,o19,.gone,o21,rws m2,.gone])
     | false => none
 | false => none
noncomputable def grYcd (b:Int) (n c f:Nat) (l m:List Int) (no:Bool) (st:Nat→Int):Yc := fun b1 args H => match Nat.beq b1 10 with
 | true => some fun Q => Ob (args=[newS 12 n]∧H=EGLd b n c f l m no 11 st∧Whole n m)∧Q (.bool true) (EGLd b n c f l m (nxSd b n l m no st).no 13 (nxSd b n l m no st).st++[.gone])
 | false => none
noncomputable def grEd (b : Int) (n c f : Nat) (l m : List Int) (no : Bool) (st : Nat→Int) (κ : Nat) : VEnv := { orc := orcOr (orcLim Try.prog) prO,cc := grCcd b n c f l m κ,yc := grYcd b n c f l m no st }
noncomputable def grVd0  : Array Value := { toList := [Value.func (Fn.func (123 : FuncId)) { toList := [] } { toList := [ptr0 2] },Value.func (Fn.func (109 : FuncId)) { toList := [ptr0 1] } { toList := [] },junk,ptr0 3,ptr0 4,ptr0 5,ptr0 6,junk,Value.func (Fn.func (123 : FuncId)) { toList := [] } { toList := [ptr0 2] },junk,junk,junk,junk,junk,junk,junk,junk,junk,junk,junk,junk,junk] }
noncomputable def grVd1  : Array Value := { toList := [Value.func (Fn.yield (7 : Nat)) { toList := [] } { toList := [] },ptr0 2,ptr0 8,junk,ptr0 1,Value.func (Fn.func (133 : FuncId)) { toList := [] } { toList := [ptr0 9] },junk,junk,junk,junk,junk,junk,junk] }
noncomputable def grVd2 (b:Int) (n:Nat) (c:Nat) (f:Nat) (l:List Int) (m:List Int) (κ:Nat) (f1:Nat) (m2:List Int) (no_1:Bool) (o18:AObj) (st_1:Nat→Int) (t1:Nat):List AObj := [AObj.ro (List.map (Value.int IntKind.i64) l),AObj.rw (vi b::Value.slice (some (ad0 0)) n c::vi (f:Int)::B10 (tmd n) []) none,AObj.rw [ptr0 1] none,AObj.rw [Value.func (Fn.func (109:FuncId)) ⟨[ptr0 1]⟩ ⟨[]⟩] none,AObj.rw (Value.slice none 0 0::I10 empI []) none,AObj.rw (slotV (fdRd b n l no_1 st_1 (rds n (κ-1) f1 t1 m2)).no 15 n::I10 ((fdRd b n l no_1 st_1 (rds n (κ-1) f1 t1 m2)).st) []) none,AObj.rw [Value.bool (fdRd b n l no_1 st_1 (rds n (κ-1) f1 t1 m2)).no] none,AObj.loop LoopState.ready none grVd0 ⟨[9]⟩ y1d_c0 y1d_c1,AObj.rw [Value.func (Fn.yield 7) ⟨[]⟩ ⟨[]⟩] none,AObj.rw [ptr0 1] none,AObj.loop LoopState.ready none grVd1 ⟨[6]⟩ y1d_c2 y1d_c3,AObj.gone,AObj.rw (List.map (Value.int IntKind.i64) m) (some 1),o18,AObj.rw (List.map (Value.int IntKind.i64) m2) (some 1),AObj.gone]
noncomputable def grVd3 (b:Int) (n:Nat) (c:Nat) (f:Nat) (l:List Int) (m:List Int) (no:Bool) (st:Nat→Int):List AObj := [AObj.ro (List.map (Value.int IntKind.i64) l),AObj.rw (vi b::Value.slice (some (ad0 0)) n c::vi (f:Int)::B10 (tmd n) []) none,AObj.rw [ptr0 1] none,AObj.rw [Value.func (Fn.func (109:FuncId)) ⟨[ptr0 1]⟩ ⟨[]⟩] none,AObj.rw (Value.slice none 0 0::I10 empI []) none,AObj.rw (slotV no 11 n::I10 st []) none,AObj.rw [Value.bool no] none,AObj.loop LoopState.ready none grVd0 ⟨[9]⟩ y1d_c0 y1d_c1,AObj.rw [Value.func (Fn.yield 7) ⟨[]⟩ ⟨[]⟩] none,AObj.rw [ptr0 1] none,AObj.loop LoopState.ready none grVd1 ⟨[6]⟩ y1d_c2 y1d_c3,AObj.gone,AObj.rw (List.map (Value.int IntKind.i64) m) (some 1)]
noncomputable def grVd4 (b:Int) (n:Nat) (c:Nat) (f:Nat) (l:List Int) (m:List Int) (m2:List Int) (no_1:Bool) (o18:AObj) (st_1:Nat→Int):List AObj := [AObj.ro (List.map (Value.int IntKind.i64) l),AObj.rw (vi b::Value.slice (some (ad0 0)) n c::vi (f:Int)::B10 (tmd n) []) none,AObj.rw [ptr0 1] none,AObj.rw [Value.func (Fn.func (109:FuncId)) ⟨[ptr0 1]⟩ ⟨[]⟩] none,AObj.rw (Value.slice none 0 0::I10 empI []) none,AObj.rw (slotV no_1 11 n::I10 st_1 []) none,AObj.rw [Value.bool no_1] none,AObj.loop LoopState.ready none grVd0 ⟨[9]⟩ y1d_c0 y1d_c1,AObj.rw [Value.func (Fn.yield 7) ⟨[]⟩ ⟨[]⟩] none,AObj.rw [ptr0 1] none,AObj.loop LoopState.ready none grVd1 ⟨[6]⟩ y1d_c2 y1d_c3,AObj.gone,AObj.rw (List.map (Value.int IntKind.i64) m) (some 1),o18,AObj.rw (List.map (Value.int IntKind.i64) m2) (some 1)]
noncomputable def grVd5 (m:List Int) := (andP (some (0+1≤1∧true=true)) (m.length+1≤1099511627776∧(2 * (m.length+1)+256) * 8≤281474976710656∧1=1∧m.length<m.length+1∧0+m.length * 1≤(List.map (Value.int IntKind.i64) m).length))
noncomputable def grVd6  := (Value.func (Fn.func (109 : FuncId)) { toList := [ptr0 1] } { toList := [] })
noncomputable def grVd7  : List Value := [Value.func (Fn.func (109 : FuncId)) { toList := [ptr0 1] } { toList := [] }]
noncomputable def grVd8  : List Value := [Value.func (Fn.yield (7 : Nat)) { toList := [] } { toList := [] }]
noncomputable def grVd9 (b:Int) (n:Nat) (c:Nat) (f:Nat) := (vi b::Value.slice (some (ad0 0)) n c::vi (f:Int)::B10 (tmd n) [])
noncomputable def grVd10  := (Value.int IntKind.i64)
noncomputable def grVd11  := (Value.slice none (0 : Nat) (0 : Nat) :: I10 empI [])
noncomputable def grVd12  (f1:Nat) (m2:List Int) (t1:Nat):List Value := [ptr0 1,Value.slice (some ⟨14,0,some 0⟩) m2.length 0,vi (f1:Int),vi (t1:Int),Value.func (Fn.yield 10) ⟨[]⟩ ⟨[]⟩]
noncomputable def grVd13 (m:List Int) := (List.map grVd10 m)
noncomputable def grVd14 (g:Nat) := (IntKind.i64.wrap ((g:Int)-(1:Int)))
noncomputable def grVd :=
fun (b:Int) (n c f:Nat) (l m:List Int) (no:Bool) (st:Nat→Int) (κ g t:Nat)↦(((m.length:Int)==(n:Int))=true→Ob ([Value.slice (some ⟨12,0,some 0⟩) m.length 0]=[Value.slice (some ⟨12,0,some 0⟩) n 0]∧(grVd3 b n c f l m no st)=(grVd3 b n c f l m no st)∧Whole n m)∧True∧Ob (YRd b n c f l m grVd6 AObj.gone LoopState.ready (fdRd b n l no st (rds n κ g t m)) (Value.bool true) [AObj.ro (List.map grVd10 l),AObj.rw (grVd9 b n c f) none,AObj.rw [ptr0 1] none,AObj.rw grVd7 none,AObj.rw grVd11 none,AObj.rw (slotV (nxSd b n l m no st).no 13 n::I10 ((nxSd b n l m no st).st) []) none,AObj.rw [Value.bool (nxSd b n l m no st).no] none,AObj.loop LoopState.ready none grVd0 ⟨[9]⟩ y1d_c0 y1d_c1,AObj.rw grVd8 none,AObj.rw [ptr0 1] none,AObj.loop LoopState.ready none grVd1 ⟨[6]⟩ y1d_c2 y1d_c3,AObj.gone,AObj.rw (grVd13 m) (some 1),AObj.gone]))∧(((m.length:Int)==(n:Int))=false→Ob (m.length≤(grVd13 m).length∧(m.length:Int)=(m.length:Int)∧(m.length:Int)=(m.length:Int))∧(decide ((0:Int)<(g:Int))=true→Ob (grVd5 m)∧∃ (m2:List Int),∃ (f1:Nat),∃ (t1:Nat),∃ (no_1:Bool),∃ (st_1:Nat→Int),∃ (o18:AObj),Ob ([ptr0 1,Value.slice (some ⟨14,0,some 0⟩) (m.length+1) 0,vi (grVd14 g),vi (t:Int),Value.func (Fn.yield 10) ⟨[]⟩ ⟨[]⟩]=(grVd12 f1 m2 t1)∧[AObj.ro (List.map grVd10 l),AObj.rw (grVd9 b n c f) none,AObj.rw [ptr0 1] none,AObj.rw grVd7 none,AObj.rw grVd11 none,AObj.rw (slotV no 11 n::I10 st []) none,AObj.rw [Value.bool no] none,AObj.loop LoopState.ready none grVd0 ⟨[9]⟩ y1d_c0 y1d_c1,AObj.rw grVd8 none,AObj.rw [ptr0 1] none,AObj.loop LoopState.ready none grVd1 ⟨[6]⟩ y1d_c2 y1d_c3,AObj.gone,AObj.rw (grVd13 m) (some 1),AObj.rw [vi (grVd14 g)] none,AObj.rw (List.take (m.length * 1) (List.drop 0 (grVd13 m))++[vi (grVd14 g)]) (some 1)]=(grVd4 b n c f l m m2 no_1 o18 st_1)∧Begun n f1 t1 m2∧f1+(n-t1)+1=κ∧(no_1=true→st_1=empI))∧(false=true→True∧Ob (YRd b n c f l m grVd6 AObj.gone LoopState.ready (fdRd b n l no st (rds n κ g t m)) (Value.bool false) (grVd2 b n c f l m κ f1 m2 no_1 o18 st_1 t1)))∧(false=false→(((t:Int)==(n:Int))=false→Ob (grVd5 m)∧∃ (m2_1:List Int),∃ (f1_1:Nat),∃ (t1_1:Nat),∃ (no_2:Bool),∃ (st_2:Nat→Int),∃ (o18_1:AObj),∃ (o19:AObj),∃ (o21:AObj),Ob ([ptr0 1,Value.slice (some ⟨17,0,some 0⟩) (m.length+1) 0,vi (g:Int),vi (IntKind.i64.wrap ((t:Int)+(1:Int))),Value.func (Fn.yield 10) ⟨[]⟩ ⟨[]⟩]=[ptr0 1,Value.slice (some ⟨17,0,some 0⟩) m2_1.length 0,vi (f1_1:Int),vi (t1_1:Int),Value.func (Fn.yield 10) ⟨[]⟩ ⟨[]⟩]∧[AObj.ro (List.map grVd10 l),AObj.rw (grVd9 b n c f) none,AObj.rw [ptr0 1] none,AObj.rw grVd7 none,AObj.rw grVd11 none,AObj.rw (slotV (fdRd b n l no_1 st_1 (rds n (κ-1) f1 t1 m2)).no 15 n::I10 ((fdRd b n l no_1 st_1 (rds n (κ-1) f1 t1 m2)).st) []) none,AObj.rw [Value.bool (fdRd b n l no_1 st_1 (rds n (κ-1) f1 t1 m2)).no] none,AObj.loop LoopState.ready none grVd0 ⟨[9]⟩ y1d_c0 y1d_c1,AObj.rw grVd8 none,AObj.rw [ptr0 1] none,AObj.loop LoopState.ready none grVd1 ⟨[6]⟩ y1d_c2 y1d_c3,AObj.gone,AObj.rw (grVd13 m) (some 1),o18,AObj.rw (List.map grVd10 m2) (some 1),AObj.gone,AObj.rw [vi (t:Int)] none,AObj.rw (List.take (m.length * 1) (List.drop 0 (grVd13 m))++[vi (t:Int)]) (some 1)]=[AObj.ro (List.map grVd10 l),AObj.rw (grVd9 b n c f) none,AObj.rw [ptr0 1] none,AObj.rw grVd7 none,AObj.rw grVd11 none,AObj.rw (slotV no_2 15 n::I10 st_2 []) none,AObj.rw [Value.bool no_2] none,AObj.loop LoopState.ready none grVd0 ⟨[9]⟩ y1d_c0 y1d_c1,AObj.rw grVd8 none,AObj.rw [ptr0 1] none,AObj.loop LoopState.ready none grVd1 ⟨[6]⟩ y1d_c2 y1d_c3,AObj.gone,AObj.rw (grVd13 m) (some 1),o18_1,o19,AObj.gone,o21,AObj.rw (List.map grVd10 m2_1) (some 1)]∧Begun n f1_1 t1_1 m2_1∧f1_1+(n-t1_1)+1=κ∧(no_2=true→st_2=empI))∧True∧Ob (YRd b n c f l m grVd6 AObj.gone LoopState.ready (fdRd b n l no st (rds n κ g t m)) (Value.bool true) [AObj.ro (List.map grVd10 l),AObj.rw (grVd9 b n c f) none,AObj.rw [ptr0 1] none,AObj.rw grVd7 none,AObj.rw grVd11 none,AObj.rw (slotV (fdRd b n l no_2 st_2 (rds n (κ-1) f1_1 t1_1 m2_1)).no 18 n::I10 ((fdRd b n l no_2 st_2 (rds n (κ-1) f1_1 t1_1 m2_1)).st) []) none,AObj.rw [Value.bool (fdRd b n l no_2 st_2 (rds n (κ-1) f1_1 t1_1 m2_1)).no] none,AObj.loop LoopState.ready none grVd0 ⟨[9]⟩ y1d_c0 y1d_c1,AObj.rw grVd8 none,AObj.rw [ptr0 1] none,AObj.loop LoopState.ready none grVd1 ⟨[6]⟩ y1d_c2 y1d_c3,AObj.gone,AObj.rw (grVd13 m) (some 1),o18_1,o19,AObj.gone,o21,AObj.rw (List.map grVd10 m2_1) (some 1),AObj.gone]))∧(((t:Int)==(n:Int))=true→True∧Ob (YRd b n c f l m grVd6 AObj.gone LoopState.ready (fdRd b n l no st (rds n κ g t m)) (Value.bool true) (grVd2 b n c f l m κ f1 m2 no_1 o18 st_1 t1)))))∧(decide ((0:Int)<(g:Int))=false→(((t:Int)==(n:Int))=false→Ob (grVd5 m)∧∃ (m2:List Int),∃ (f1:Nat),∃ (t1:Nat),∃ (no_1:Bool),∃ (st_1:Nat→Int),∃ (o18:AObj),Ob ([ptr0 1,Value.slice (some ⟨14,0,some 0⟩) (m.length+1) 0,vi (g:Int),vi (IntKind.i64.wrap ((t:Int)+(1:Int))),Value.func (Fn.yield 10) ⟨[]⟩ ⟨[]⟩]=(grVd12 f1 m2 t1)∧[AObj.ro (List.map grVd10 l),AObj.rw (grVd9 b n c f) none,AObj.rw [ptr0 1] none,AObj.rw grVd7 none,AObj.rw grVd11 none,AObj.rw (slotV no 11 n::I10 st []) none,AObj.rw [Value.bool no] none,AObj.loop LoopState.ready none grVd0 ⟨[9]⟩ y1d_c0 y1d_c1,AObj.rw grVd8 none,AObj.rw [ptr0 1] none,AObj.loop LoopState.ready none grVd1 ⟨[6]⟩ y1d_c2 y1d_c3,AObj.gone,AObj.rw (grVd13 m) (some 1),AObj.rw [vi (t:Int)] none,AObj.rw (List.take (m.length * 1) (List.drop 0 (grVd13 m))++[vi (t:Int)]) (some 1)]=(grVd4 b n c f l m m2 no_1 o18 st_1)∧Begun n f1 t1 m2∧f1+(n-t1)+1=κ∧(no_1=true→st_1=empI))∧True∧Ob (YRd b n c f l m grVd6 AObj.gone LoopState.ready (fdRd b n l no st (rds n κ g t m)) (Value.bool true) (grVd2 b n c f l m κ f1 m2 no_1 o18 st_1 t1)))∧(((t:Int)==(n:Int))=true→True∧Ob (YRd b n c f l m grVd6 AObj.gone LoopState.ready (fdRd b n l no st (rds n κ g t m)) (Value.bool true) (grVd3 b n c f l m no st)))))
theorem grVd_eq : grVd = fun (b : Int) (n c f : Nat) (l m : List Int) (no : Bool) (st : Nat→Int) (κ g t : Nat) => vc Try.prog (grEd b n c f l m no st κ) 13 66 true (fun _ => none) grBd [] (argFr 0 [ptr0 1,newS 12 m.length,vi g,vi t,yv 10]) (EGLd b n c f l m no 11 st) (retK Try.prog Try.f134 (YRd b n c f l m laF .gone .ready (fdRd b n l no st (rds n κ g t m)))) := by kernel_rfl
theorem fdR_oned {b : Int} {n : Nat} {l m : List Int} {no : Bool} {st : Nat→Int} : fdRd b n l no st [m] = nxSd b n l m no st := rfl
theorem fdR_appendd {b : Int} {n : Nat} {l : List Int} {no : Bool} {st : Nat→Int} {r r' : List (List Int)} : fdRd b n l no st (r ++ r') = fdRd b n l (fdRd b n l no st r).no (fdRd b n l no st r).st r' := foldR_append
theorem fdR_empd {b : Int} {n : Nat} {l : List Int} {no : Bool} {st : Nat→Int} {r : List (List Int)} (h : no = true→st = empI) : (fdRd b n l no st r).no = true→(fdRd b n l no st r).st = empI := foldR_emp r ⟨no,st⟩ h
theorem grV_okd (b : Int) (n c f : Nat) (l m : List Int) (no : Bool) (st : Nat→Int) (κ g t : Nat) (hn : n≤10) (hB : Begun n g t m) (hk : g + (n - t) = κ) (hs : no = true→st = empI) : grVd b n c f l m no st κ g t := by
 unfold grVd grVd14 grVd13 grVd12 grVd11 grVd10 grVd9 grVd8 grVd7 grVd6 grVd5 grVd4 grVd3 grVd2 grVd1 grVd0
 simp only [SS,reduceCtorEq,Arg.list,Arg.num,Arg.flag,intOf,andP,Nat.reduceLeDiff,Nat.reduceAdd,Nat.reduceMul,Nat.reduceLT,yv,newS]
 have h1 := hB.len
 have h2 := hB.le
 have w2 : IntKind.i64.wrap ((t : Int) + 1) = ((t + 1 : Nat) : Int) := by rw [wrap_in (by omega) (by omega)]; omega
 refine ⟨fun h => ?_,fun h => ⟨fun hg => ?_,fun hg => ?_⟩⟩
 · obtain rfl : g = 0 := by omega
   obtain rfl : t = n := by omega
   refine ⟨⟨by omega,hB⟩,?_⟩
   rw [show κ = 0 by omega,rds,fdR_oned]
   exact ⟨rfl,13,by kernel_rfl,by simp⟩
 · have hg' : 0 < g := by omega
   have hk' : κ = (κ - 1) + 1 := by omega
   have w1 : IntKind.i64.wrap ((g : Int) - 1) = ((g - 1 : Nat) : Int) := by rw [wrap_in (by omega) (by omega)]; omega
   rw [w1]
   refine ⟨by omega,m ++ [((g - 1 : Nat) : Int)],g - 1,t,no,st,_,⟨⟨by simp,rfl,rfl⟩,⟨⟨rfl,rfl⟩,rfl,rfl,rfl⟩,hB.left hg',by omega,hs⟩,fun ht => ?_,fun ht => ?_⟩
   · rw [w2]
     have ht' : t < n := by omega
     refine ⟨by omega,m ++ [(t : Int)],g,t + 1,_,_,_,_,_,⟨⟨by simp,rfl,rfl⟩,⟨⟨rfl,rfl⟩,rfl,rfl,rfl,rfl,rfl⟩,hB.right ht',by omega,fdR_empd hs⟩,?_⟩
     rw [show rds n κ g t m = rds n (κ - 1) (g - 1) t (m ++ [((g - 1 : Nat) : Int)]) ++ rds n (κ - 1) g (t + 1) (m ++ [(t : Int)]) by conv => lhs; rw [hk',rds,if_pos hg',if_pos ht'],fdR_appendd]
     exact ⟨rfl,18,by kernel_rfl,by simp⟩
   · have ht' : ¬ t < n := by omega
     rw [show rds n κ g t m = rds n (κ - 1) (g - 1) t (m ++ [((g - 1 : Nat) : Int)]) by conv => lhs; rw [hk',rds,if_pos hg',if_neg ht',List.append_nil]]
     exact ⟨rfl,15,by kernel_rfl,by simp⟩
 · have hg' : ¬ 0 < g := by omega
   have ht' : t < n := by omega
   have hk' : κ = (κ - 1) + 1 := by omega
   rw [w2]
   refine ⟨fun ht => ⟨by omega,m ++ [(t : Int)],g,t + 1,no,st,_,⟨⟨by simp,rfl,rfl⟩,⟨⟨rfl,rfl⟩,rfl,rfl,rfl⟩,hB.right ht',by omega,hs⟩,?_⟩,fun ht => by omega⟩
   rw [show rds n κ g t m = rds n (κ - 1) g (t + 1) (m ++ [(t : Int)]) by conv => lhs; rw [hk',rds,if_neg hg',if_pos ht',List.nil_append]]
   exact ⟨rfl,15,by kernel_rfl,by simp⟩
noncomputable def EGrd (b : Int) (n c f : Nat) (nv : Value) (X : AObj) (z : LoopState) : Heap := [.rw (walkC b n c f (tmd n)) none,.rw [ptr0 1] none,.rw [nv] none,.rw (nilS :: I10 empI []) none,L0d nv,.rw [yv 7] none,.rw [ptr0 1] none,L2d z]
theorem EG_alld {b : Int} {n c f k : Nat} {l m : List Int} {nv : Value} {X : AObj} {z : LoopState} {no : Bool} {st : Nat→Int} {p : AObj→Bool} (h : (EGrd b n c f nv X z).all p = true) (h0 : p (ros l) = true) (h1 : p (.rw (slotV no k n :: I10 st []) none) = true) (h2 : p (.rw [.bool no] none) = true) (h3 : p .gone = true) (h4 : p (rws m) = true) :
   ∀ o ∈ EGd b n c f l m nv X z no k st,p o = true := by
 refine List.all_eq_true.1 ?_
 unfold EGrd at h
 unfold EGd EHd
 simp only [List.all_append,List.all_cons,List.all_nil,Bool.and_true,Bool.and_eq_true] at h ⊢
 obtain ⟨a1,a2,a3,a4,a5,a6,a7,a8⟩ := h
 exact ⟨⟨h0,a1,a2,a3,a4,h1,h2,a5,a6,a7,a8⟩,h3,h4⟩
theorem EG_scNd {b : Int} {n c f k N : Nat} {l m : List Int} {nv : Value} {X : AObj} {z : LoopState} {no : Bool} {st : Nat→Int} (hk : k < N) (h : (EGrd b n c f nv X z).all (AObj.sc N) = true) : ∀ o ∈ EGd b n c f l m nv X z no k st,o.sc N = true :=
 EG_alld h ros_sc (slot_sc hk) rfl rfl rws_sc
theorem EG_mapd {σ : Nat→Nat} {b : Int} {n c f k : Nat} {l m : List Int} {nv : Value} {X : AObj} {z : LoopState} {no : Bool} {st : Nat→Int} (h : (EGrd b n c f nv X z).map (omap σ) = EGrd b n c f nv X z) :
   (EGd b n c f l m nv X z no k st).map (omap σ) = EGd b n c f l m nv X z no (σ k) st := by
 unfold EGrd at h
 unfold EGd EHd
 simp only [List.map_append,List.map_cons,List.map_nil,List.cons.injEq,and_true] at h ⊢
 obtain ⟨a1,a2,a3,a4,a5,a6,a7,a8⟩ := h
 simp only [ros_omap,rws_omap,slot_map,a1,a2,a3,a4,a5,a6,a7,a8]
 rfl
theorem EG_nmd {b : Int} {n c f k : Nat} {l m : List Int} {nv : Value} {X : AObj} {z : LoopState} {no : Bool} {st : Nat→Int} {e : Nat} (h : (EGrd b n c f nv X z).all (fun o => o.nm tt') = true) : ∀ o ∈ EGd b n c f l m nv X z no k st,o.nm (fun d => decide (d < e) || decide (e≤d)) = true := by
 rw [any_nm rfl]
 exact EG_alld h ros_nm (by cases no <;> rfl) rfl rfl rws_nm
def GrowAtd (b : Int) (n c f : Nat) (l m : List Int) (no : Bool) (st : Nat→Int) (S : LS) (a t : Int) : Prop :=
 Call Try.prog 134 [ptr0 1,newS 12 m.length,vi a,vi t,yv 10] (EGLd b n c f l m no 11 st) fun v H' => v = .bool true∧H' = EGLd b n c f l m S.no 13 S.st ++ [.gone]
theorem EG_objd {b : Int} {n c f k : Nat} {l m : List Int} {no : Bool} {st : Nat→Int} {L : List Nat} {H : Heap} {σ : Nat→Nat} (hσ : σ = fun c => L.getD c 0) (h : (EGrd b n c f laF .gone .ready).map (omap σ) = EGrd b n c f laF .gone .ready)
   (hH : ∀ (c' : Nat) (o : AObj),c' < 11→(EGLd b n c f l m no (σ k) st)[c']? = some o→H[L.getD c' 0]? = some o) (h17 : H[L.getD 12 0]? = some (rws m)) :
   ∀ (c' : Nat) (o : AObj),(EGLd b n c f l m no k st)[c']? = some o→o = .gone∨H[L.getD c' 0]? = some (omap (fun c => L.getD c 0) o) := fun c' o hc => by
 subst hσ
 rcases Nat.lt_or_ge c' 11 with h1 | h1
 · right
   refine hH c' _ h1 ?_
   have := EG_mapd (σ := fun c => L.getD c 0) (b := b) (n := n) (c := c) (f := f) (k := k) (l := l) (m := m) (no := no) (st := st) h
   unfold EGLd at hc ⊢
   rw [← this,List.getElem?_map,hc]; rfl
 · have h2 : c' < 13 := (List.getElem?_eq_some_iff.1 hc).1
   rcases Nat.lt_or_ge c' 12 with h3 | h3
   · obtain rfl : c' = 11 := by omega
     left; cases hc; rfl
   · obtain rfl : c' = 12 := by omega
     right
     have e : o = rws m := by cases hc; rfl
     rw [h17,e,rws_omap]
theorem gr_site1d {b : Int} {n c f : Nat} {l m m2 : List Int} {no : Bool} {st : Nat→Int} {S : LS} {a t : Int} {o18 : AObj} (h : GrowAtd b n c f l m2 no st S a t) :
   Call Try.prog 134 [ptr0 1,newS 14 m2.length,vi a,vi t,yv 10] (EGLd b n c f l m no 11 st ++ [o18,rws m2]) fun v H' => v = .bool true∧H' = EGLd b n c f l m S.no 15 S.st ++ [o18,rws m2,.gone] := by
 have hmap : (EGrd b n c f laF .gone .ready).map (omap (nameL [0,1,2,3,4,5,6,7,8,9,10,11,14] 13 15)) = EGrd b n c f laF .gone .ready := by kernel_rfl
 have hF := EG_mapd (l := l) (m := m2) (k := 13) (no := S.no) (st := S.st) hmap
 have := (Call.frameG (H := EGLd b n c f l m no 11 st ++ [o18,rws m2]) (Et := EGLd b n c f l m2 no 11 st) (Ft := EGLd b n c f l m2 S.no 13 S.st) (N := [.gone]) (L := [0,1,2,3,4,5,6,7,8,9,10,11,14]) (vs := [ptr0 1,newS 14 m2.length,vi a,vi t,yv 10]) rfl rfl (by decide) (getD_lt (by kernel_rfl))
   (EG_objd (σ := fun c => [0,1,2,3,4,5,6,7,8,9,10,11,14].getD c 0) rfl (by kernel_rfl) (fun c' o h1 h2 => by
     rcases c' with _ | _ | _ | _ | _ | _ | _ | _ | _ | _ | _ | _ | _ | _ | _ | _ | c' <;> first | exact h2 | omega) rfl)
   (EG_scNd (N := 13) (show 11 < 13 by omega) (by kernel_rfl)) (by kernel_rfl) (by kernel_rfl) h
   (fun o ho => by
     rcases List.mem_append.1 ho with h1 | h1
     · exact EG_nmd (by kernel_rfl) o h1
     · rw [List.mem_singleton.1 h1]; rfl)
   (fun o ho => by rw [List.mem_singleton.1 ho]; rfl) (by kernel_rfl)
   (fun o ho => by
     rcases List.mem_append.1 ho with h1 | h1
     · have h2 := List.mem_map_of_mem (f := omap (nameL [0,1,2,3,4,5,6,7,8,9,10,11,14] 13 15)) h1
       unfold EGLd at h2
       rw [hF] at h2
       exact EG_scNd (N := 16) (show 15 < 16 by omega) (by kernel_rfl) _ h2
     · rw [List.mem_singleton.1 h1]; rfl) (by kernel_rfl)).1
 refine this.mono fun v H' hh => ⟨hh.1,?_⟩
 rw [hh.2]
 show setG _ _ _ (List.map (omap (nameL [0,1,2,3,4,5,6,7,8,9,10,11,14] 13 15)) (EGd b n c f l m2 laF .gone .ready S.no 13 S.st)) ++ _ = _
 rw [hF]
 kernel_rfl
theorem gr_site2d {b : Int} {n c f : Nat} {l m m2 : List Int} {no : Bool} {st : Nat→Int} {S : LS} {a t : Int} {o18 o19 o21 : AObj} (h : GrowAtd b n c f l m2 no st S a t) :
   Call Try.prog 134 [ptr0 1,newS 17 m2.length,vi a,vi t,yv 10] (EGLd b n c f l m no 15 st ++ [o18,o19,.gone,o21,rws m2]) fun v H' => v = .bool true∧H' = EGLd b n c f l m S.no 18 S.st ++ [o18,o19,.gone,o21,rws m2,.gone] := by
 have hmap : (EGrd b n c f laF .gone .ready).map (omap (nameL [0,1,2,3,4,5,6,7,8,9,10,15,17] 13 18)) = EGrd b n c f laF .gone .ready := by kernel_rfl
 have hF := EG_mapd (l := l) (m := m2) (k := 13) (no := S.no) (st := S.st) hmap
 have := (Call.frameG (H := EGLd b n c f l m no 15 st ++ [o18,o19,.gone,o21,rws m2]) (Et := EGLd b n c f l m2 no 11 st) (Ft := EGLd b n c f l m2 S.no 13 S.st) (N := [.gone]) (L := [0,1,2,3,4,5,6,7,8,9,10,15,17]) (vs := [ptr0 1,newS 17 m2.length,vi a,vi t,yv 10]) rfl rfl (by decide) (getD_lt (by kernel_rfl))
   (EG_objd (σ := fun c => [0,1,2,3,4,5,6,7,8,9,10,15,17].getD c 0) rfl (by kernel_rfl) (fun c' o h1 h2 => by
     rcases c' with _ | _ | _ | _ | _ | _ | _ | _ | _ | _ | _ | _ | _ | _ | _ | _ | c' <;> first | exact h2 | omega) rfl)
   (EG_scNd (N := 13) (show 11 < 13 by omega) (by kernel_rfl)) (by kernel_rfl) (by kernel_rfl) h
   (fun o ho => by
     rcases List.mem_append.1 ho with h1 | h1
     · exact EG_nmd (by kernel_rfl) o h1
     · rw [List.mem_singleton.1 h1]; rfl)
   (fun o ho => by rw [List.mem_singleton.1 ho]; rfl) (by kernel_rfl)
   (fun o ho => by
     rcases List.mem_append.1 ho with h1 | h1
     · have h2 := List.mem_map_of_mem (f := omap (nameL [0,1,2,3,4,5,6,7,8,9,10,15,17] 13 18)) h1
       unfold EGLd at h2
       rw [hF] at h2
       exact EG_scNd (N := 19) (show 18 < 19 by omega) (by kernel_rfl) _ h2
     · rw [List.mem_singleton.1 h1]; rfl) (by kernel_rfl)).1
 refine this.mono fun v H' hh => ⟨hh.1,?_⟩
 rw [hh.2]
 show setG _ _ _ (List.map (omap (nameL [0,1,2,3,4,5,6,7,8,9,10,15,17] 13 18)) (EGd b n c f l m2 laF .gone .ready S.no 13 S.st)) ++ _ = _
 rw [hF]
 kernel_rfl
theorem grCc_okd (b : Int) (n c f : Nat) (l m : List Int) (κ : Nat) (h : ∀ (m2 : List Int) (f1 t1 : Nat) (no : Bool) (st : Nat→Int),Begun n f1 t1 m2→f1 + (n - t1) + 1 = κ→(no = true→st = empI)→GrowAtd b n c f l m2 no st (fdRd b n l no st (rds n (κ - 1) f1 t1 m2)) f1 t1) : CcOk Try.prog (grCcd b n c f l m κ) := by
 intro fn args H T hT Q hQ
 unfold grCcd at hT
 split at hT <;> try (cases hT; done)
 rename_i hf
 obtain rfl := Nat.eq_of_beq_eq_true hf
 split at hT
 · cases hT
   obtain ⟨m2,f1,t1,no,st,o18,hO,hq⟩ := hQ
   obtain ⟨rfl,rfl,h1,h2,h3⟩ := hO.out
   exact (gr_site1d (h m2 f1 t1 no st h1 h2 h3)).mono fun v H' ⟨e1,e2⟩ => by subst e1; subst e2; exact hq
 · split at hT <;> cases hT
   obtain ⟨m2,f1,t1,no,st,o18,o19,o21,hO,hq⟩ := hQ
   obtain ⟨rfl,rfl,h1,h2,h3⟩ := hO.out
   exact (gr_site2d (h m2 f1 t1 no st h1 h2 h3)).mono fun v H' ⟨e1,e2⟩ => by subst e1; subst e2; exact hq
theorem grYc_okd (b : Int) (n c f : Nat) (l m : List Int) (no : Bool) (st : Nat→Int) (hl : l.length = n * 2) (hn : n≤10) (hn1 : 1≤n) (hr : rngP b n l) (hs : no = true→st = empI) : YcOk Try.prog (grYcd b n c f l m no st) := by
 intro b1 args H T hT Q hQ
 unfold grYcd at hT
 split at hT <;> cases hT
 rename_i hb
 obtain rfl := Nat.eq_of_beq_eq_true hb
 obtain ⟨hO,hq⟩ := hQ
 obtain ⟨rfl,rfl,hw⟩ := hO.out
 exact (y2_yieldd b n c f l m no st hl hn hn1 hr (whole_len hw) (whole_mem hw) hs).mono fun v H' ⟨e1,e2⟩ => by subst e1; subst e2; exact hq
theorem grow_god (b : Int) (n c f : Nat) (l : List Int) (hl : l.length = n * 2) (hn : n≤10) (hn1 : 1≤n) (hr : rngP b n l) (κ g t : Nat) (m : List Int) (no : Bool) (st : Nat→Int) (hB : Begun n g t m) (hk : g + (n - t) = κ) (hs : no = true→st = empI) (h : ∀ (m2 : List Int) (f1 t1 : Nat) (no : Bool) (st : Nat→Int),Begun n f1 t1 m2→f1 + (n - t1) + 1 = κ→(no = true→st = empI)→GrowAtd b n c f l m2 no st (fdRd b n l no st (rds n (κ - 1) f1 t1 m2)) f1 t1) : GrowAtd b n c f l m no st (fdRd b n l no st (rds n κ g t m)) g t:= by
 have hv := grV_okd b n c f l m no st κ g t hn hB hk hs
 rw [grVd_eq] at hv
 have hE : VOk Try.prog (grEd b n c f l m no st κ) := ⟨CtOk.none,grCc_okd b n c f l m κ h,grYc_okd b n c f l m no st hl hn hn1 hr hs,orcOr_ok orcLim_ok prE1_ok.orc⟩
 refine Call.anew (Call.mono (Call.ofVc (H := EGLd b n c f l m no 11 st) (args := [ptr0 1,newS 12 m.length,vi g,vi t,yv 10]) hE mixed (c := grBd) (inv := fun _ => none) (R := YRd b n c f l m laF .gone .ready (fdRd b n l no st (rds n κ g t m))) Try.func134 (by kernel_rfl) (cast (by kernel_rfl) hv)) fun v H' hy => ?_)
 exact YR_anewd hy (fun _ => rfl) (fun _ => by kernel_rfl) (fun _ => ⟨by kernel_rfl,by kernel_rfl⟩) rfl (by kernel_rfl) ⟨by kernel_rfl,by kernel_rfl⟩
theorem grow_okd (b : Int) (n c f : Nat) (l : List Int) (hl : l.length = n * 2) (hn : n≤10) (hn1 : 1≤n) (hr : rngP b n l) : ∀ (κ g t : Nat) (m : List Int) (no : Bool) (st : Nat→Int),Begun n g t m→g + (n - t) = κ→(no = true→st = empI) →
   GrowAtd b n c f l m no st (fdRd b n l no st (rds n κ g t m)) g t := by
 intro κ
 induction κ with
 | zero =>
   intro g t m no st hB hk hs
   exact grow_god b n c f l hl hn hn1 hr 0 g t m no st hB hk hs (fun m2 f1 t1 no st _ h _ => by omega)
 | succ κ ih =>
   intro g t m no st hB hk hs
   exact grow_god b n c f l hl hn hn1 hr (κ + 1) g t m no st hB hk hs (fun m2 f1 t1 no st h1 h2 h3 => by
     rw [Nat.add_sub_cancel]
     exact ih f1 t1 m2 no st h1 (by omega) h3)
end Go.Pier.Rd
namespace Go.Pier.Rd
open Go Go.Pier Go.Proofs
noncomputable def EHLd (b : Int) (n c f : Nat) (l : List Int) (no : Bool) (k : Nat) (st : Nat→Int) : Heap := EHd b n c f l laF .gone .ready no k st
noncomputable def g0Ccd (b:Int) (n c f:Nat) (l:List Int) (κ:Nat):Cc := fun fn args H => match Nat.beq fn 134 with
 | true => match Nat.beq H.length 13 with
   | true => some fun Q => ∃ (m2:List Int) (f1 t1:Nat) (no:Bool) (st:Nat→Int) (o16:AObj),Ob (args=[ptr0 1,newS 12 m2.length,vi f1,vi t1,yv 10]∧H=EHLd b n c f l no 11 st++[o16,rws m2]∧Begun n f1 t1 m2∧f1+(n-t1)+1=κ∧(no=true→st=empI)) ∧
       Q (.bool true) (EHLd b n c f l (fdRd b n l no st (rds n (κ-1) f1 t1 m2)).no 13 (fdRd b n l no st (rds n (κ-1) f1 t1 m2)).st++[o16,rws m2,.gone])
   | false => match Nat.beq H.length 16 with
     | true => some fun Q => ∃ (m2:List Int) (f1 t1:Nat) (no:Bool) (st:Nat→Int) (o16 o17 o19:AObj),Ob (args=[ptr0 1,newS 15 m2.length,vi f1,vi t1,yv 10]∧H=EHLd b n c f l no 13 st++[o16,o17,.gone,o19,rws m2]∧Begun n f1 t1 m2∧f1+(n-t1)+1=κ∧(no=true→st=empI)) ∧
         Q (.bool true) (EHLd b n c f l (fdRd b n l no st (rds n (κ-1) f1 t1 m2)).no 16 (fdRd b n l no st (rds n (κ-1) f1 t1 m2)).st++[o16,o17,.gone,o19,rws m2,.gone])
     | false => none
 | false => none
noncomputable def g0Ed (b : Int) (n c f : Nat) (l : List Int) (κ : Nat) : VEnv := { orc := orcOr (orcLim Try.prog) prO,cc := g0Ccd b n c f l κ }
def YR0d (b : Int) (n c f : Nat) (l : List Int) (s : LS) (v : Value) (H' : Heap) : Prop :=
 v = .bool true∧∃ k,H' = EHLd b n c f l s.no k s.st ++ H'.drop 11∧k < H'.length
noncomputable def g0Vd0  : Array Value := { toList := [Value.func (Fn.func (123 : FuncId)) { toList := [] } { toList := [ptr0 2] },Value.func (Fn.func (109 : FuncId)) { toList := [ptr0 1] } { toList := [] },junk,ptr0 3,ptr0 4,ptr0 5,ptr0 6,junk,Value.func (Fn.func (123 : FuncId)) { toList := [] } { toList := [ptr0 2] },junk,junk,junk,junk,junk,junk,junk,junk,junk,junk,junk,junk,junk] }
noncomputable def g0Vd1  : Array Value := { toList := [Value.func (Fn.yield (7 : Nat)) { toList := [] } { toList := [] },ptr0 2,ptr0 8,junk,ptr0 1,Value.func (Fn.func (133 : FuncId)) { toList := [] } { toList := [ptr0 9] },junk,junk,junk,junk,junk,junk,junk] }
noncomputable def g0Vd2 (b:Int) (n:Nat) (c:Nat) (f:Nat) (l:List Int) (κ:Nat) (f1:Nat) (m2:List Int) (no_1:Bool) (o16:AObj) (st_1:Nat→Int) (t1:Nat):List AObj := [AObj.ro (List.map (Value.int IntKind.i64) l),AObj.rw (vi b::Value.slice (some (ad0 0)) n c::vi (f:Int)::B10 (tmd n) []) none,AObj.rw [ptr0 1] none,AObj.rw [Value.func (Fn.func (109:FuncId)) ⟨[ptr0 1]⟩ ⟨[]⟩] none,AObj.rw (Value.slice none 0 0::I10 empI []) none,AObj.rw (slotV (fdRd b n l no_1 st_1 (rds n (κ-1) f1 t1 m2)).no 13 n::I10 ((fdRd b n l no_1 st_1 (rds n (κ-1) f1 t1 m2)).st) []) none,AObj.rw [Value.bool (fdRd b n l no_1 st_1 (rds n (κ-1) f1 t1 m2)).no] none,AObj.loop LoopState.ready none g0Vd0 ⟨[9]⟩ y1d_c0 y1d_c1,AObj.rw [Value.func (Fn.yield 7) ⟨[]⟩ ⟨[]⟩] none,AObj.rw [ptr0 1] none,AObj.loop LoopState.ready none g0Vd1 ⟨[6]⟩ y1d_c2 y1d_c3,o16,AObj.rw (List.map (Value.int IntKind.i64) m2) (some 1),AObj.gone]
noncomputable def g0Vd3 (b:Int) (n:Nat) (c:Nat) (f:Nat) (l:List Int) (m2:List Int) (no_1:Bool) (o16:AObj) (st_1:Nat→Int):List AObj := [AObj.ro (List.map (Value.int IntKind.i64) l),AObj.rw (vi b::Value.slice (some (ad0 0)) n c::vi (f:Int)::B10 (tmd n) []) none,AObj.rw [ptr0 1] none,AObj.rw [Value.func (Fn.func (109:FuncId)) ⟨[ptr0 1]⟩ ⟨[]⟩] none,AObj.rw (Value.slice none 0 0::I10 empI []) none,AObj.rw (slotV no_1 11 n::I10 st_1 []) none,AObj.rw [Value.bool no_1] none,AObj.loop LoopState.ready none g0Vd0 ⟨[9]⟩ y1d_c0 y1d_c1,AObj.rw [Value.func (Fn.yield 7) ⟨[]⟩ ⟨[]⟩] none,AObj.rw [ptr0 1] none,AObj.loop LoopState.ready none g0Vd1 ⟨[6]⟩ y1d_c2 y1d_c3,o16,AObj.rw (List.map (Value.int IntKind.i64) m2) (some 1)]
noncomputable def g0Vd4  := (andP (some ((0 : Nat) + (1 : Nat)≤(1 : Nat)∧true = true)) ((1 : Nat)≤(1099511627776 : Nat)∧(2064 : Nat)≤(281474976710656 : Nat)∧(1 : Nat) = (1 : Nat)∧(0 : Nat) = (0 : Nat)∧(0 : Nat) < (1 : Nat)))
noncomputable def g0Vd5  : List Value := [Value.func (Fn.func (109 : FuncId)) { toList := [ptr0 1] } { toList := [] }]
noncomputable def g0Vd6  : List Value := [Value.func (Fn.yield (7 : Nat)) { toList := [] } { toList := [] }]
noncomputable def g0Vd7 (b:Int) (n:Nat) (c:Nat) (f:Nat) := (vi b::Value.slice (some (ad0 0)) n c::vi (f:Int)::B10 (tmd n) [])
noncomputable def g0Vd8  := (Value.slice none (0 : Nat) (0 : Nat) :: I10 empI [])
noncomputable def g0Vd9  (f1:Nat) (m2:List Int) (t1:Nat):List Value := [ptr0 1,Value.slice (some ⟨12,0,some 0⟩) m2.length 0,vi (f1:Int),vi (t1:Int),Value.func (Fn.yield 10) ⟨[]⟩ ⟨[]⟩]
noncomputable def g0Vd10 (l:List Int) := (List.map (Value.int IntKind.i64) l)
noncomputable def g0Vd11 (g:Nat) := (IntKind.i64.wrap ((g:Int)-(1:Int)))
noncomputable def g0Vd :=
fun (b:Int) (n c f:Nat) (l:List Int) (no:Bool) (st:Nat→Int) (κ g:Nat)↦(((↑(0:Nat):Int)==(n:Int))=true→False)∧(((↑(0:Nat):Int)==(n:Int))=false→(decide ((0:Int)<(g:Int))=true→Ob g0Vd4∧∃ (m2:List Int),∃ (f1:Nat),∃ (t1:Nat),∃ (no_1:Bool),∃ (st_1:Nat→Int),∃ (o16:AObj),Ob ([ptr0 1,Value.slice (some ⟨12,0,some 0⟩) 1 0,vi (g0Vd11 g),vi (g:Int),Value.func (Fn.yield 10) ⟨[]⟩ ⟨[]⟩]=(g0Vd9 f1 m2 t1)∧[AObj.ro (g0Vd10 l),AObj.rw (g0Vd7 b n c f) none,AObj.rw [ptr0 1] none,AObj.rw g0Vd5 none,AObj.rw g0Vd8 none,AObj.rw (slotV no 11 n::I10 st []) none,AObj.rw [Value.bool no] none,AObj.loop LoopState.ready none g0Vd0 ⟨[9]⟩ y1d_c0 y1d_c1,AObj.rw g0Vd6 none,AObj.rw [ptr0 1] none,AObj.loop LoopState.ready none g0Vd1 ⟨[6]⟩ y1d_c2 y1d_c3,AObj.rw [vi (g0Vd11 g)] none,AObj.rw [vi (g0Vd11 g)] (some 1)]=(g0Vd3 b n c f l m2 no_1 o16 st_1)∧Begun n f1 t1 m2∧f1+(n-t1)+1=κ∧(no_1=true→st_1=empI))∧(false=true→True∧Ob (YR0d b n c f l (fdRd b n l no st (rds n κ g g [])) (Value.bool false) (g0Vd2 b n c f l κ f1 m2 no_1 o16 st_1 t1)))∧(false=false→(((g:Int)==(n:Int))=false→Ob g0Vd4∧∃ (m2_1:List Int),∃ (f1_1:Nat),∃ (t1_1:Nat),∃ (no_2:Bool),∃ (st_2:Nat→Int),∃ (o16_1:AObj),∃ (o17:AObj),∃ (o19:AObj),Ob ([ptr0 1,Value.slice (some ⟨15,0,some 0⟩) 1 0,vi (g:Int),vi (IntKind.i64.wrap ((g:Int)+(1:Int))),Value.func (Fn.yield 10) ⟨[]⟩ ⟨[]⟩]=[ptr0 1,Value.slice (some ⟨15,0,some 0⟩) m2_1.length 0,vi (f1_1:Int),vi (t1_1:Int),Value.func (Fn.yield 10) ⟨[]⟩ ⟨[]⟩]∧[AObj.ro (g0Vd10 l),AObj.rw (g0Vd7 b n c f) none,AObj.rw [ptr0 1] none,AObj.rw g0Vd5 none,AObj.rw g0Vd8 none,AObj.rw (slotV (fdRd b n l no_1 st_1 (rds n (κ-1) f1 t1 m2)).no 13 n::I10 ((fdRd b n l no_1 st_1 (rds n (κ-1) f1 t1 m2)).st) []) none,AObj.rw [Value.bool (fdRd b n l no_1 st_1 (rds n (κ-1) f1 t1 m2)).no] none,AObj.loop LoopState.ready none g0Vd0 ⟨[9]⟩ y1d_c0 y1d_c1,AObj.rw g0Vd6 none,AObj.rw [ptr0 1] none,AObj.loop LoopState.ready none g0Vd1 ⟨[6]⟩ y1d_c2 y1d_c3,o16,AObj.rw (List.map (Value.int IntKind.i64) m2) (some 1),AObj.gone,AObj.rw [vi (g:Int)] none,AObj.rw [vi (g:Int)] (some 1)]=[AObj.ro (g0Vd10 l),AObj.rw (g0Vd7 b n c f) none,AObj.rw [ptr0 1] none,AObj.rw g0Vd5 none,AObj.rw g0Vd8 none,AObj.rw (slotV no_2 13 n::I10 st_2 []) none,AObj.rw [Value.bool no_2] none,AObj.loop LoopState.ready none g0Vd0 ⟨[9]⟩ y1d_c0 y1d_c1,AObj.rw g0Vd6 none,AObj.rw [ptr0 1] none,AObj.loop LoopState.ready none g0Vd1 ⟨[6]⟩ y1d_c2 y1d_c3,o16_1,o17,AObj.gone,o19,AObj.rw (List.map (Value.int IntKind.i64) m2_1) (some 1)]∧Begun n f1_1 t1_1 m2_1∧f1_1+(n-t1_1)+1=κ∧(no_2=true→st_2=empI))∧True∧Ob (YR0d b n c f l (fdRd b n l no st (rds n κ g g [])) (Value.bool true) [AObj.ro (g0Vd10 l),AObj.rw (g0Vd7 b n c f) none,AObj.rw [ptr0 1] none,AObj.rw g0Vd5 none,AObj.rw g0Vd8 none,AObj.rw (slotV (fdRd b n l no_2 st_2 (rds n (κ-1) f1_1 t1_1 m2_1)).no 16 n::I10 ((fdRd b n l no_2 st_2 (rds n (κ-1) f1_1 t1_1 m2_1)).st) []) none,AObj.rw [Value.bool (fdRd b n l no_2 st_2 (rds n (κ-1) f1_1 t1_1 m2_1)).no] none,AObj.loop LoopState.ready none g0Vd0 ⟨[9]⟩ y1d_c0 y1d_c1,AObj.rw g0Vd6 none,AObj.rw [ptr0 1] none,AObj.loop LoopState.ready none g0Vd1 ⟨[6]⟩ y1d_c2 y1d_c3,o16_1,o17,AObj.gone,o19,AObj.rw (List.map (Value.int IntKind.i64) m2_1) (some 1),AObj.gone]))∧(((g:Int)==(n:Int))=true→True∧Ob (YR0d b n c f l (fdRd b n l no st (rds n κ g g [])) (Value.bool true) (g0Vd2 b n c f l κ f1 m2 no_1 o16 st_1 t1)))))∧(decide ((0:Int)<(g:Int))=false→(((g:Int)==(n:Int))=false→Ob g0Vd4∧∃ (m2:List Int),∃ (f1:Nat),∃ (t1:Nat),∃ (no_1:Bool),∃ (st_1:Nat→Int),∃ (o16:AObj),Ob ([ptr0 1,Value.slice (some ⟨12,0,some 0⟩) 1 0,vi (g:Int),vi (IntKind.i64.wrap ((g:Int)+(1:Int))),Value.func (Fn.yield 10) ⟨[]⟩ ⟨[]⟩]=(g0Vd9 f1 m2 t1)∧[AObj.ro (g0Vd10 l),AObj.rw (g0Vd7 b n c f) none,AObj.rw [ptr0 1] none,AObj.rw g0Vd5 none,AObj.rw g0Vd8 none,AObj.rw (slotV no 11 n::I10 st []) none,AObj.rw [Value.bool no] none,AObj.loop LoopState.ready none g0Vd0 ⟨[9]⟩ y1d_c0 y1d_c1,AObj.rw g0Vd6 none,AObj.rw [ptr0 1] none,AObj.loop LoopState.ready none g0Vd1 ⟨[6]⟩ y1d_c2 y1d_c3,AObj.rw [vi (g:Int)] none,AObj.rw [vi (g:Int)] (some 1)]=(g0Vd3 b n c f l m2 no_1 o16 st_1)∧Begun n f1 t1 m2∧f1+(n-t1)+1=κ∧(no_1=true→st_1=empI))∧True∧Ob (YR0d b n c f l (fdRd b n l no st (rds n κ g g [])) (Value.bool true) (g0Vd2 b n c f l κ f1 m2 no_1 o16 st_1 t1)))∧(((g:Int)==(n:Int))=true→True∧Ob (YR0d b n c f l (fdRd b n l no st (rds n κ g g [])) (Value.bool true) [AObj.ro (g0Vd10 l),AObj.rw (g0Vd7 b n c f) none,AObj.rw [ptr0 1] none,AObj.rw g0Vd5 none,AObj.rw g0Vd8 none,AObj.rw (slotV no 11 n::I10 st []) none,AObj.rw [Value.bool no] none,AObj.loop LoopState.ready none g0Vd0 ⟨[9]⟩ y1d_c0 y1d_c1,AObj.rw g0Vd6 none,AObj.rw [ptr0 1] none,AObj.loop LoopState.ready none g0Vd1 ⟨[6]⟩ y1d_c2 y1d_c3]))))
theorem g0Vd_eq : g0Vd = fun (b : Int) (n c f : Nat) (l : List Int) (no : Bool) (st : Nat→Int) (κ g : Nat) => vc Try.prog (g0Ed b n c f l κ) 11 66 true (fun _ => none) grBd [] (argFr 0 [ptr0 1,nilS,vi g,vi g,yv 10]) (EHLd b n c f l no 11 st) (retK Try.prog Try.f134 (YR0d b n c f l (fdRd b n l no st (rds n κ g g [])))) := by kernel_rfl
theorem g0V_okd (b : Int) (n c f : Nat) (l : List Int) (no : Bool) (st : Nat→Int) (κ g : Nat) (hn : n≤10) (hn1 : 1≤n) (hg : g≤n) (hk : g + (n - g) = κ) (hs : no = true→st = empI) : g0Vd b n c f l no st κ g := by
 unfold g0Vd g0Vd11 g0Vd10 g0Vd9 g0Vd8 g0Vd7 g0Vd6 g0Vd5 g0Vd4 g0Vd3 g0Vd2 g0Vd1 g0Vd0
 simp only [SS,reduceCtorEq,Arg.list,Arg.num,Arg.flag,intOf,andP,Nat.reduceLeDiff,Nat.reduceAdd,Nat.reduceMul,Nat.reduceLT,yv,newS]
 have hB := begun_nil hg
 have hk' : κ = (κ - 1) + 1 := by omega
 have w2 : IntKind.i64.wrap ((g : Int) + 1) = ((g + 1 : Nat) : Int) := by rw [wrap_in (by omega) (by omega)]; omega
 refine ⟨fun h => by omega,fun h => ⟨fun hg => ?_,fun hg => ?_⟩⟩
 · have hg' : 0 < g := by omega
   have w1 : IntKind.i64.wrap ((g : Int) - 1) = ((g - 1 : Nat) : Int) := by rw [wrap_in (by omega) (by omega)]; omega
   rw [w1]
   refine ⟨[((g - 1 : Nat) : Int)],g - 1,g,no,st,_,⟨⟨rfl,rfl,rfl⟩,⟨⟨rfl,rfl⟩,rfl,rfl,rfl⟩,hB.left hg',by omega,hs⟩,fun ht => ?_,fun ht => ?_⟩
   · rw [w2]
     have ht' : g < n := by omega
     refine ⟨[(g : Int)],g,g + 1,_,_,_,_,_,⟨⟨rfl,rfl,rfl⟩,⟨⟨rfl,rfl⟩,rfl,rfl,rfl,rfl,rfl⟩,hB.right ht',by omega,fdR_empd hs⟩,?_⟩
     rw [show rds n κ g g [] = rds n (κ - 1) (g - 1) g [((g - 1 : Nat) : Int)] ++ rds n (κ - 1) g (g + 1) [(g : Int)] by conv => lhs; rw [hk',rds,if_pos hg',if_pos ht',List.nil_append,List.nil_append],fdR_appendd]
     exact ⟨rfl,16,by kernel_rfl,by simp⟩
   · have ht' : ¬ g < n := by omega
     rw [show rds n κ g g [] = rds n (κ - 1) (g - 1) g [((g - 1 : Nat) : Int)] by conv => lhs; rw [hk',rds,if_pos hg',if_neg ht',List.append_nil,List.nil_append]]
     exact ⟨rfl,13,by kernel_rfl,by simp⟩
 · have hg' : ¬ 0 < g := by omega
   have ht' : g < n := by omega
   rw [w2]
   refine ⟨fun ht => ⟨[(g : Int)],g,g + 1,no,st,_,⟨⟨rfl,rfl,rfl⟩,⟨⟨rfl,rfl⟩,rfl,rfl,rfl⟩,hB.right ht',by omega,hs⟩,?_⟩,fun ht => by omega⟩
   rw [show rds n κ g g [] = rds n (κ - 1) g (g + 1) [(g : Int)] by conv => lhs; rw [hk',rds,if_neg hg',if_pos ht',List.nil_append,List.nil_append]]
   exact ⟨rfl,13,by kernel_rfl,by simp⟩
theorem g0_site1d {b : Int} {n c f : Nat} {l m2 : List Int} {no : Bool} {st : Nat→Int} {S : LS} {a t : Int} {o16 : AObj} (h : GrowAtd b n c f l m2 no st S a t) :
   Call Try.prog 134 [ptr0 1,newS 12 m2.length,vi a,vi t,yv 10] (EHLd b n c f l no 11 st ++ [o16,rws m2]) fun v H' => v = .bool true∧H' = EHLd b n c f l S.no 13 S.st ++ [o16,rws m2,.gone] := by
 have hmap : (EGrd b n c f laF .gone .ready).map (omap (nameL [0,1,2,3,4,5,6,7,8,9,10,11,12] 13 13)) = EGrd b n c f laF .gone .ready := by kernel_rfl
 have hF := EG_mapd (l := l) (m := m2) (k := 13) (no := S.no) (st := S.st) hmap
 have := (Call.frameG (H := EHLd b n c f l no 11 st ++ [o16,rws m2]) (Et := EGLd b n c f l m2 no 11 st) (Ft := EGLd b n c f l m2 S.no 13 S.st) (N := [.gone]) (L := [0,1,2,3,4,5,6,7,8,9,10,11,12]) (vs := [ptr0 1,newS 12 m2.length,vi a,vi t,yv 10]) rfl rfl (by decide) (getD_lt (by kernel_rfl))
   (EG_objd (σ := fun c => [0,1,2,3,4,5,6,7,8,9,10,11,12].getD c 0) rfl (by kernel_rfl) (fun c' o h1 h2 => by
     rcases c' with _ | _ | _ | _ | _ | _ | _ | _ | _ | _ | _ | _ | _ | _ | _ | _ | c' <;> first | exact h2 | omega) rfl)
   (EG_scNd (N := 13) (show 11 < 13 by omega) (by kernel_rfl)) (by kernel_rfl) (by kernel_rfl) h
   (fun o ho => by
     rcases List.mem_append.1 ho with h1 | h1
     · exact EG_nmd (by kernel_rfl) o h1
     · rw [List.mem_singleton.1 h1]; rfl)
   (fun o ho => by rw [List.mem_singleton.1 ho]; rfl) (by kernel_rfl)
   (fun o ho => by
     rcases List.mem_append.1 ho with h1 | h1
     · have h2 := List.mem_map_of_mem (f := omap (nameL [0,1,2,3,4,5,6,7,8,9,10,11,12] 13 13)) h1
       unfold EGLd at h2
       rw [hF] at h2
       exact EG_scNd (N := 14) (show 13 < 14 by omega) (by kernel_rfl) _ h2
     · rw [List.mem_singleton.1 h1]; rfl) (by kernel_rfl)).1
 refine this.mono fun v H' hh => ⟨hh.1,?_⟩
 rw [hh.2]
 show setG _ _ _ (List.map (omap (nameL [0,1,2,3,4,5,6,7,8,9,10,11,12] 13 13)) (EGd b n c f l m2 laF .gone .ready S.no 13 S.st)) ++ _ = _
 rw [hF]
 kernel_rfl
theorem g0_site2d {b : Int} {n c f : Nat} {l m2 : List Int} {no : Bool} {st : Nat→Int} {S : LS} {a t : Int} {o16 o17 o19 : AObj} (h : GrowAtd b n c f l m2 no st S a t) :
   Call Try.prog 134 [ptr0 1,newS 15 m2.length,vi a,vi t,yv 10] (EHLd b n c f l no 13 st ++ [o16,o17,.gone,o19,rws m2]) fun v H' => v = .bool true∧H' = EHLd b n c f l S.no 16 S.st ++ [o16,o17,.gone,o19,rws m2,.gone] := by
 have hmap : (EGrd b n c f laF .gone .ready).map (omap (nameL [0,1,2,3,4,5,6,7,8,9,10,13,15] 13 16)) = EGrd b n c f laF .gone .ready := by kernel_rfl
 have hF := EG_mapd (l := l) (m := m2) (k := 13) (no := S.no) (st := S.st) hmap
 have := (Call.frameG (H := EHLd b n c f l no 13 st ++ [o16,o17,.gone,o19,rws m2]) (Et := EGLd b n c f l m2 no 11 st) (Ft := EGLd b n c f l m2 S.no 13 S.st) (N := [.gone]) (L := [0,1,2,3,4,5,6,7,8,9,10,13,15]) (vs := [ptr0 1,newS 15 m2.length,vi a,vi t,yv 10]) rfl rfl (by decide) (getD_lt (by kernel_rfl))
   (EG_objd (σ := fun c => [0,1,2,3,4,5,6,7,8,9,10,13,15].getD c 0) rfl (by kernel_rfl) (fun c' o h1 h2 => by
     rcases c' with _ | _ | _ | _ | _ | _ | _ | _ | _ | _ | _ | _ | _ | _ | _ | _ | c' <;> first | exact h2 | omega) rfl)
   (EG_scNd (N := 13) (show 11 < 13 by omega) (by kernel_rfl)) (by kernel_rfl) (by kernel_rfl) h
   (fun o ho => by
     rcases List.mem_append.1 ho with h1 | h1
     · exact EG_nmd (by kernel_rfl) o h1
     · rw [List.mem_singleton.1 h1]; rfl)
   (fun o ho => by rw [List.mem_singleton.1 ho]; rfl) (by kernel_rfl)
   (fun o ho => by
     rcases List.mem_append.1 ho with h1 | h1
     · have h2 := List.mem_map_of_mem (f := omap (nameL [0,1,2,3,4,5,6,7,8,9,10,13,15] 13 16)) h1
       unfold EGLd at h2
       rw [hF] at h2
       exact EG_scNd (N := 17) (show 16 < 17 by omega) (by kernel_rfl) _ h2
     · rw [List.mem_singleton.1 h1]; rfl) (by kernel_rfl)).1
 refine this.mono fun v H' hh => ⟨hh.1,?_⟩
 rw [hh.2]
 show setG _ _ _ (List.map (omap (nameL [0,1,2,3,4,5,6,7,8,9,10,13,15] 13 16)) (EGd b n c f l m2 laF .gone .ready S.no 13 S.st)) ++ _ = _
 rw [hF]
 kernel_rfl
theorem g0Cc_okd (b : Int) (n c f : Nat) (l : List Int) (κ : Nat) (hl : l.length = n * 2) (hn : n≤10) (hn1 : 1≤n) (hr : rngP b n l) : CcOk Try.prog (g0Ccd b n c f l κ) := by
 have h : ∀ (m2 : List Int) (f1 t1 : Nat) (no : Bool) (st : Nat→Int),Begun n f1 t1 m2→f1 + (n - t1) + 1 = κ→(no = true→st = empI)→GrowAtd b n c f l m2 no st (fdRd b n l no st (rds n (κ - 1) f1 t1 m2)) f1 t1 := fun m2 f1 t1 no st h1 h2 h3 => grow_okd b n c f l hl hn hn1 hr (κ - 1) f1 t1 m2 no st h1 (by omega) h3
 intro fn args H T hT Q hQ
 unfold g0Ccd at hT
 split at hT <;> try (cases hT; done)
 rename_i hf
 obtain rfl := Nat.eq_of_beq_eq_true hf
 split at hT
 · cases hT
   obtain ⟨m2,f1,t1,no,st,o16,hO,hq⟩ := hQ
   obtain ⟨rfl,rfl,h1,h2,h3⟩ := hO.out
   exact (g0_site1d (h m2 f1 t1 no st h1 h2 h3)).mono fun v H' ⟨e1,e2⟩ => by subst e1; subst e2; exact hq
 · split at hT <;> cases hT
   obtain ⟨m2,f1,t1,no,st,o16,o17,o19,hO,hq⟩ := hQ
   obtain ⟨rfl,rfl,h1,h2,h3⟩ := hO.out
   exact (g0_site2d (h m2 f1 t1 no st h1 h2 h3)).mono fun v H' ⟨e1,e2⟩ => by subst e1; subst e2; exact hq
def σhd (k b : Nat) : Nat := if b = 11 then k else b
theorem EHL_mapd {σ : Nat→Nat} {b : Int} {n c f k : Nat} {l : List Int} {no : Bool} {st : Nat→Int} (h : (EGrd b n c f laF .gone .ready).map (omap σ) = EGrd b n c f laF .gone .ready) :
   (EHLd b n c f l no k st).map (omap σ) = EHLd b n c f l no (σ k) st := by
 have := EG_mapd (σ := σ) (b := b) (n := n) (c := c) (f := f) (k := k) (l := l) (m := []) (no := no) (st := st) h
 have h2 := congrArg (List.take 11) this
 exact h2
theorem EHL_scd {b : Int} {n c f k N : Nat} {l : List Int} {no : Bool} {st : Nat→Int} (hk : k < N) (h : (EGrd b n c f laF .gone .ready).all (AObj.sc N) = true) : ∀ o ∈ EHLd b n c f l no k st,o.sc N = true := fun o ho =>
 EG_scNd (l := l) (m := []) (no := no) (st := st) hk h o (List.mem_append_left _ ho)
theorem EHL_lend {b : Int} {n c f k : Nat} {l : List Int} {no : Bool} {st : Nat→Int} : (EHLd b n c f l no k st).length = 11 := rfl
theorem YR0_anewd {b : Int} {n c f : Nat} {l : List Int} {s : LS} {v : Value} {H' : Heap} (h : YR0d b n c f l s v H') :
   ∃ σ v2 H2,Anew 11 σ H' H2∧v = nmap σ v2∧sc H2.length v2 = true∧(v2 = .bool true∧H2 = EHLd b n c f l s.no 11 s.st ++ [.gone]) := by
 obtain ⟨rfl,k,he,hk⟩ := h
 have hm := EHL_mapd (σ := σhd k) (b := b) (n := n) (c := c) (f := f) (k := 11) (l := l) (no := s.no) (st := s.st) (by kernel_rfl)
 have hl : (EHLd b n c f l s.no 11 s.st ++ [AObj.gone]).length = 12 := rfl
 have g16 : (EHLd b n c f l s.no 11 s.st ++ [AObj.gone])[11]? = some .gone := rfl
 refine ⟨σhd k,.bool true,_,⟨?_,fun b' hb => ?_,fun b' o hb => ?_,fun b1 b2 o h1 h2 h3 h4 h5 h6 => ?_,fun b' o hb => ?_⟩,rfl,rfl,rfl,rfl⟩
 · rw [hl]; omega
 · unfold σhd; rw [if_neg (by omega)]
 · rcases Nat.lt_or_ge b' 11 with h1 | h1
   · right
     rw [List.getElem?_append_left (by rw [EHL_lend]; exact h1)] at hb
     rw [he,show σhd k b' = b' by unfold σhd; rw [if_neg (by omega)],List.getElem?_append_left (by rw [EHL_lend]; exact h1),show k = σhd k 11 from rfl,← hm,List.getElem?_map,hb]
     rfl
   · left
     have h2 := (List.getElem?_eq_some_iff.1 hb).1
     rw [hl] at h2
     obtain rfl : b' = 11 := by omega
     rw [g16] at hb
     exact (Option.some.inj hb).symm
 · rw [hl] at h1 h2
   have n1 : b1 ≠ 11 := fun e => by subst e; rw [g16] at h3; cases h3; exact h4 rfl
   have n2 : b2 ≠ 11 := fun e => by
     subst e
     rcases h5 with h5 | h5
     · exact h5 g16
     · omega
   unfold σhd at h6
   rw [if_neg n1,if_neg n2] at h6
   exact h6
 · rw [hl]
   rcases List.mem_append.1 (List.mem_of_getElem? hb) with h1 | h1
   · exact EHL_scd (show 11 < 12 by omega) (by kernel_rfl) o h1
   · rw [List.mem_singleton.1 h1]; rfl
theorem grow0_okd (b : Int) (n c f : Nat) (l : List Int) (hl : l.length = n * 2) (hn : n≤10) (hn1 : 1≤n) (hr : rngP b n l) (no : Bool) (st : Nat→Int) (κ g : Nat) (hg : g≤n) (hk : g + (n - g) = κ) (hs : no = true→st = empI) :
   Call Try.prog 134 [ptr0 1,nilS,vi g,vi g,yv 10] (EHLd b n c f l no 11 st) fun v H' => v = .bool true∧H' = EHLd b n c f l (fdRd b n l no st (rds n κ g g [])).no 11 (fdRd b n l no st (rds n κ g g [])).st ++ [.gone] := by
 have hv := g0V_okd b n c f l no st κ g hn hn1 hg hk hs
 rw [g0Vd_eq] at hv
 have hE : VOk Try.prog (g0Ed b n c f l κ) := ⟨CtOk.none,g0Cc_okd b n c f l κ hl hn hn1 hr,E0_ok.yc,orcOr_ok orcLim_ok prE1_ok.orc⟩
 refine Call.anew (Call.mono (Call.ofVc (H := EHLd b n c f l no 11 st) (args := [ptr0 1,nilS,vi g,vi g,yv 10]) hE mixed (c := grBd) (inv := fun _ => none) (R := YR0d b n c f l (fdRd b n l no st (rds n κ g g []))) Try.func134 (by kernel_rfl) (cast (by kernel_rfl) hv)) fun v H' hy => ?_)
 exact YR0_anewd hy
end Go.Pier.Rd
namespace Go.Pier.Rd
open Go Go.Pier Go.Proofs
noncomputable def dlL (b : Int) (n f : Nat) (l : List Int) : LS := fdRd b n l true empI (rds n n f f [])
noncomputable def g1Ctd (b : Int) (n c f : Nat) (l : List Int) (S : LS) : Ct := fun fn args H => match Nat.beq fn 134 with
 | true => some (some (args = [ptr0 1,nilS,vi f,vi f,yv 10]∧H = EHLd b n c f l true 11 empI),.bool true,EHLd b n c f l S.no 11 S.st ++ [.gone],[5,6])
 | false => none
noncomputable def ls1Ed (b : Int) (n c f : Nat) (l : List Int) (S : LS) : VEnv := { ct := g1Ctd b n c f l S,orc := prO }
noncomputable def ls2Ed (b : Int) (n c f : Nat) (l : List Int) (S : LS) : VEnv := { orc := prO,cc := ccIn Try.prog (ls1Ed b n c f l S) [⟨133,Try.f133,fun _ _ _ => none⟩,⟨124,Try.f124,fun _ _ _ => none⟩] }
noncomputable def ls3Ed (b : Int) (n c f : Nat) (l : List Int) (S : LS) : VEnv := { orc := prO,cc := ccIn Try.prog (ls2Ed b n c f l S) [⟨123,Try.f123,fun _ _ _ => none⟩] }
def B3 (b : Int) (n c f : Nat) (l : List Int) : Heap := [ros l,.rw (walkC b n c f (tmd n)) none,.rw [ptr0 1] none]
def LRd (b : Int) (n c f : Nat) (l : List Int) (s : LS) (v : Value) (H' : Heap) : Prop := ∃ k,v = .agg (slotV s.no k n :: I10 s.st []).toArray∧H' = B3 b n c f l ++ H'.drop 3∧k < H'.length
noncomputable def lsWd0  : Array Value := { toList := [Value.func (Fn.func (123 : FuncId)) { toList := [] } { toList := [ptr0 2] },Value.func (Fn.func (109 : FuncId)) { toList := [ptr0 1] } { toList := [] },junk,ptr0 3,ptr0 4,ptr0 5,ptr0 6,junk,Value.func (Fn.func (123 : FuncId)) { toList := [] } { toList := [ptr0 2] },junk,junk,junk,junk,junk,junk,junk,junk,junk,junk,junk,junk,junk] }
noncomputable def lsWd1 (n:Nat) (st:Nat→Int) := (Value.slice (some ⟨11,0,some 0⟩) n 0::I10 st [])
noncomputable def lsWd2  : List Value := [Value.func (Fn.func (109 : FuncId)) { toList := [ptr0 1] } { toList := [] }]
noncomputable def lsWd3  := (Value.slice none (0 : Nat) (0 : Nat) :: I10 empI [])
noncomputable def lsWd4 (f:Nat):List Value := [ptr0 1,Value.slice none 0 0,vi (f:Int),vi (f:Int),Value.func (Fn.yield 10) ⟨[]⟩ ⟨[]⟩]
noncomputable def lsWd5  : List Value := [Value.func (Fn.yield (7 : Nat)) { toList := [] } { toList := [] }]
noncomputable def lsWd6 (b:Int) (n:Nat) (c:Nat) (f:Nat) := (vi b::Value.slice (some (ad0 0)) n c::vi (f:Int)::B10 (tmd n) [])
noncomputable def lsWd :=
fun (b:Int) (n c f:Nat) (l:List Int) (st:Nat→Int)↦Ob (some (Value.bool false)=some (Value.bool false)∧some 1=some 1)∧Ob (some (vi (f:Int))=some (vi (f:Int)))∧Ob (some (vi (f:Int))=some (vi (f:Int)))∧Ob ((lsWd4 f)=(lsWd4 f)∧[AObj.ro (List.map (Value.int IntKind.i64) l),AObj.rw (lsWd6 b n c f) none,AObj.rw [ptr0 1] none,AObj.rw lsWd2 none,AObj.rw lsWd3 none,AObj.rw lsWd3 none,AObj.rw [Value.bool true] none,AObj.loop LoopState.ready none lsWd0 ⟨[9]⟩ y1d_c0 y1d_c1,AObj.rw lsWd5 none,AObj.rw [ptr0 1] none,AObj.loop LoopState.ready none ⟨[Value.func (Fn.yield 7) ⟨[]⟩ ⟨[]⟩,ptr0 2,ptr0 8,junk,ptr0 1,Value.func (Fn.func 133) ⟨[]⟩ ⟨[ptr0 9]⟩,junk,junk,junk,junk,junk,junk,junk]⟩ ⟨[6]⟩ y1d_c2 y1d_c3]=[AObj.ro (List.map (Value.int IntKind.i64) l),AObj.rw (lsWd6 b n c f) none,AObj.rw [ptr0 1] none,AObj.rw lsWd2 none,AObj.rw lsWd3 none,AObj.rw lsWd3 none,AObj.rw [Value.bool true] none,AObj.loop LoopState.ready none lsWd0 ⟨[9]⟩ y1d_c0 y1d_c1,AObj.rw lsWd5 none,AObj.rw [ptr0 1] none,AObj.loop LoopState.ready none ⟨[Value.func (Fn.yield 7) ⟨[]⟩ ⟨[]⟩,ptr0 2,ptr0 8,junk,ptr0 1,Value.func (Fn.func (133:FuncId)) ⟨[]⟩ ⟨[ptr0 9]⟩,junk,junk,junk,junk,junk,junk,junk]⟩ ⟨[6]⟩ y1d_c2 y1d_c3])∧Ob (0+11≤11)∧True∧Ob (LRd b n c f l { no := false,st := st } (Value.agg { toList := (lsWd1 n st) }) [AObj.ro (List.map (Value.int IntKind.i64) l),AObj.rw (lsWd6 b n c f) none,AObj.rw [ptr0 1] none,AObj.rw lsWd2 none,AObj.rw (lsWd1 n st) none,AObj.rw (lsWd1 n st) none,AObj.rw [Value.bool false] none,AObj.gone,AObj.rw lsWd5 none,AObj.rw [ptr0 1] none,AObj.gone,AObj.gone])
theorem lsWd_eq : lsWd = fun (b : Int) (n c f : Nat) (l : List Int) (st : Nat→Int) => vc Try.prog (ls3Ed b n c f l ⟨false,st⟩) 3 22 true (fun _ => none) lsB [] (argFr 0 [tripsF,laF]) (B3 b n c f l) (retK Try.prog Try.f102 (LRd b n c f l ⟨false,st⟩)) := by kernel_rfl
theorem lsWd_ok (b : Int) (n c f : Nat) (l : List Int) (st : Nat→Int) : lsWd b n c f l st := by
 unfold lsWd lsWd6 lsWd5 lsWd4 lsWd3 lsWd2 lsWd1 lsWd0
 simp only [SS,reduceCtorEq,Arg.list,Arg.num,Arg.flag,intOf,andP,Nat.reduceLeDiff,Nat.reduceAdd,Nat.reduceMul,Nat.reduceLT,yv]
 exact ⟨11,by kernel_rfl,by kernel_rfl,by simp⟩
theorem g1Ctd_ok (b : Int) (n c f : Nat) (l : List Int) (S : LS) (hl : l.length = n * 2) (hn : n≤10) (hr : rngP b n l) (hn1 : 1≤n) (hf : f≤n) (hS : S = dlL b n f l) : CtOk Try.prog (g1Ctd b n c f l S) := by
 intro fn args H φ v H' lg h hφ
 unfold g1Ctd at h
 split at h <;> cases h
 rename_i hb
 obtain rfl := Nat.eq_of_beq_eq_true hb
 obtain ⟨rfl,rfl⟩ := hφ
 subst hS
 refine ⟨grow0_okd b n c f l hl hn hn1 hr true empI n f hf (by omega) (fun _ => rfl),by rw [List.length_append,EHL_lend,EHL_lend]; omega,fun b1 h4 h5 => ?_⟩
 rw [EHL_lend] at h4
 rw [List.getElem?_append_left (by rw [EHL_lend]; exact h4)]
 have h8 : b1 ≠ 5 := fun e => h5 (by subst e; simp)
 have h9 : b1 ≠ 6 := fun e => h5 (by subst e; simp)
 unfold EHLd EHd
 rcases b1 with _ | _ | _ | _ | _ | _ | _ | _ | _ | _ | _ | b1 <;> first | rfl | omega
theorem ls3Ed_ok (b : Int) (n c f : Nat) (l : List Int) (S : LS) (hl : l.length = n * 2) (hn : n≤10) (hr : rngP b n l) (hn1 : 1≤n) (hf : f≤n) (hS : S = dlL b n f l) : VOk Try.prog (ls3Ed b n c f l S) := by
 have h1 : VOk Try.prog (ls1Ed b n c f l S) := ⟨g1Ctd_ok b n c f l S hl hn hr hn1 hf hS,E0_ok.cc,E0_ok.yc,prE1_ok.orc⟩
 have h2 : VOk Try.prog (ls2Ed b n c f l S) := ⟨CtOk.none,ccIn_ok h1 mixed (inl_two Try.func133 Try.func124),E0_ok.yc,prE1_ok.orc⟩
 exact ⟨CtOk.none,ccIn_ok h2 mixed (inl_one Try.func123),E0_ok.yc,prE1_ok.orc⟩
def σ3 (k b : Nat) : Nat := if b = 3 then k else b
theorem B3_at {σ : Nat→Nat} {b : Int} {n c f : Nat} {l : List Int} (h0 : σ 0 = 0) : (B3 b n c f l).map (omap σ) = [ros l,.rw (walkC b n c f (tmd n)) none,.rw [ptr0 (σ 1)] none] := by
 unfold B3
 simp only [List.map_cons,List.map_nil,ros_omap,walk_omap h0]
 rfl
theorem B3_sc {b : Int} {n c f : Nat} {l : List Int} : ∀ o ∈ B3 b n c f l,o.sc 3 = true := by
 refine List.all_eq_true.1 ?_
 unfold B3
 simp only [List.all_cons,List.all_nil,ros_sc,Bool.and_true,Bool.true_and]
 kernel_rfl
theorem LRd_anew {b : Int} {n c f : Nat} {l : List Int} {s : LS} {v : Value} {H' : Heap} (h : LRd b n c f l s v H') :
   ∃ σ v2 H2,Anew 3 σ H' H2∧v = nmap σ v2∧sc H2.length v2 = true∧(v2 = .agg (slotV s.no 3 n :: I10 s.st []).toArray∧H2 = B3 b n c f l ++ [.gone]) := by
 obtain ⟨k,rfl,he,hk⟩ := h
 have hl : (B3 b n c f l ++ [AObj.gone]).length = 4 := rfl
 have hb3 : (B3 b n c f l).length = 3 := rfl
 have g3 : (B3 b n c f l ++ [AObj.gone])[3]? = some .gone := rfl
 have hm : (B3 b n c f l).map (omap (σ3 k)) = B3 b n c f l := B3_at rfl
 refine ⟨σ3 k,_,_,⟨?_,fun b' hb => ?_,fun b' o hb => ?_,fun b1 b2 o h1 h2 h3 h4 h5 h6 => ?_,fun b' o hb => ?_⟩,?_,agg_slot_sc (show 3 < 4 by omega),rfl,rfl⟩
 · rw [hl]; omega
 · unfold σ3; rw [if_neg (by omega)]
 · rcases Nat.lt_or_ge b' 3 with h1 | h1
   · right
     rw [List.getElem?_append_left (by rw [hb3]; exact h1)] at hb
     rw [he,show σ3 k b' = b' by unfold σ3; rw [if_neg (by omega)],List.getElem?_append_left (by rw [hb3]; exact h1),← hm,List.getElem?_map,hb]
     rfl
   · left
     have h2 := (List.getElem?_eq_some_iff.1 hb).1
     rw [hl] at h2
     obtain rfl : b' = 3 := by omega
     rw [g3] at hb
     exact (Option.some.inj hb).symm
 · rw [hl] at h1 h2
   have n1 : b1 ≠ 3 := fun e => by subst e; rw [g3] at h3; cases h3; exact h4 rfl
   have n2 : b2 ≠ 3 := fun e => by
     subst e
     rcases h5 with h5 | h5
     · exact h5 g3
     · omega
   unfold σ3 at h6
   rw [if_neg n1,if_neg n2] at h6
   exact h6
 · rw [hl]
   rcases List.mem_append.1 (List.mem_of_getElem? hb) with h1 | h1
   · exact AObj.sc_mono (by omega) (B3_sc o h1)
   · rw [List.mem_singleton.1 h1]; rfl
 · rw [agg_slot]; rfl
theorem rds_some {n : Nat} : ∀ (k f t : Nat) (m : List Int),f + (n - t) = k→rds n k f t m ≠ []
 | 0,_,_,m,_ => by simp [rds]
 | k + 1,f,t,m,h => by
   rw [rds]
   intro e
   obtain ⟨e1,e2⟩ := List.append_eq_nil_iff.1 e
   by_cases hf : 0 < f
   · rw [if_pos hf] at e1
     exact rds_some k (f - 1) t _ (by omega) e1
   · rw [if_pos (by omega)] at e2
     exact rds_some k f (t + 1) _ (by omega) e2
theorem stepA_no {N : (Nat→Int)→Int} {n : Nat} {l : List Int} {s : LS} {x : Nat→Int} : (stepL (inA n l) N s x).no = false := by
 unfold stepL inA
 cases hs : s.no with
 | true => rfl
 | false =>
   cases hd : decide (N x < N s.st) with
   | true => rfl
   | false => exact hs
theorem foldA_no {b : Int} {l : List Int} {n : Nat} {N : (Nat→Int)→Int} : ∀ (r : List (List Int)) (s : LS),s.no = false∨r ≠ []→(foldR b l (inA n l) N s r).no = false
 | [],s,h => by
   rcases h with h | h
   · exact h
   · exact absurd rfl h
 | m :: r,s,_ => foldA_no r _ (.inl stepA_no)
theorem dlL_no {b : Int} {n f : Nat} {l : List Int} (hf : f≤n) : (dlL b n f l).no = false := foldA_no _ _ (.inr (rds_some n f f [] (by omega)))
theorem leastd_ok (b : Int) (n c f : Nat) (l : List Int) (hl : l.length = n * 2) (hn : n≤10) (hr : rngP b n l) (hn1 : 1≤n) (hf : f≤n) :
   Call Try.prog 102 [tripsF,laF] (B3 b n c f l) fun v H' => v = .agg (newS 3 n :: I10 (dlL b n f l).st []).toArray∧H' = B3 b n c f l ++ [.gone] := by
 have e := dlL_no (b := b) (n := n) (f := f) (l := l) hf
 generalize hS : dlL b n f l = S at *
 have hE := ls3Ed_ok b n c f l S hl hn hr hn1 hf hS.symm
 obtain ⟨no,st⟩ := S
 obtain rfl : no = false := e
 refine Call.anew (Call.mono (Q := LRd b n c f l ⟨false,st⟩) ?_ fun v H' hy => LRd_anew hy)
 have h := lsWd_ok b n c f l st
 rw [lsWd_eq] at h
 exact Call.ofVc (H := B3 b n c f l) (args := [tripsF,laF]) hE mixed (c := lsB) (inv := fun _ => none) (R := LRd b n c f l ⟨false,st⟩) Try.func102 (by kernel_rfl) (cast (by kernel_rfl) h)
end Go.Pier.Rd
namespace Go.Pier.Rd
open Go Go.Pier Go.Proofs
noncomputable def leastdCc (b:Int) (n c f:Nat) (l:List Int) (st:Nat→Int):Cc := fun fn args H => match Nat.beq fn 102 with
 | true => match args with
   | [.func (.func 123) ⟨[]⟩ ⟨[.pointer (some ⟨x,0,none⟩)]⟩,.func (.func 109) ⟨[.pointer (some ⟨w,0,none⟩)]⟩ ⟨[]⟩] => match nodupB [0,w,x] with
     | true => some fun Q => Ob (H[0]?=some (ros l)∧H[w]?=some (.rw (walkC b n c f (tmd n)) none)∧H[x]?=some (.rw [ptr0 w] none))∧Q (.agg (newS H.length n::I10 st []).toArray) (H++[.gone])
     | false => none
   | _ => none
 | false => none
noncomputable def laCc (b:Int) (n c f:Nat) (l:List Int):Cc := fun fn args H => match Nat.beq fn 109 with
 | true => match args with
   | [.pointer (some ⟨w,0,none⟩),.agg ⟨[.slice (some ⟨k,0,some 0⟩) _ 0,.int .i64 a0,.int .i64 a1,.int .i64 a2,.int .i64 a3,.int .i64 a4,.int .i64 a5,.int .i64 a6,.int .i64 a7,.int .i64 a8,.int .i64 a9]⟩] => match nodupB [0,w,k] with
     | true => some fun Q => Ob (H[0]?=some (ros l)∧H[w]?=some (.rw (walkC b n c f (tmd n)) none)∧l.length=n * 2∧n≤10∧1≤n)∧Q (vi (ltN l (l10 a0 a1 a2 a3 a4 a5 a6 a7 a8 a9) n)) H
     | false => none
   | _ => none
 | false => none
noncomputable def dlE1 (b : Int) (n c : Nat) (l : List Int) (st : Nat→Int) : VEnv := { ct := prT,orc := prO,cc := ccOr (leastdCc b n c (lg b l n) l st) (ccOr (laCc b n c (lg b l n) l) (ccIn Try.prog prE1 [⟨106,Try.f106,fun _ _ _ => none⟩])) }
noncomputable def dlE2 (b : Int) (n c : Nat) (l : List Int) (st : Nat→Int) : VEnv := { ct := prT,orc := prO,cc := ccIn Try.prog (dlE1 b n c l st) [⟨74,Try.f74,fun _ _ _ => none⟩,⟨57,Try.f57,inv57 b n c l⟩] }
noncomputable def dlB : Code := Try.f33.body.getD .skip
noncomputable def dlV0  (x:Nat) := (0+3+(x:Int).toNat * 1)
noncomputable def dlV1 (b:Int) (n:Nat) (c:Nat) (l:List Int) (x:Nat):List Value := [vi b,Value.slice (some (ad0 0)) n c,vi (↑(lg b l x):Int),Value.bool (bif Nat.beq 3 (dlV0 x) then true else tmd x 0),Value.bool (bif Nat.beq 4 (dlV0 x) then true else tmd x 1),Value.bool (bif Nat.beq 5 (dlV0 x) then true else tmd x 2),Value.bool (bif Nat.beq 6 (dlV0 x) then true else tmd x 3),Value.bool (bif Nat.beq 7 (dlV0 x) then true else tmd x 4),Value.bool (bif Nat.beq 8 (dlV0 x) then true else tmd x 5),Value.bool (bif Nat.beq 9 (dlV0 x) then true else tmd x 6),Value.bool (bif Nat.beq 10 (dlV0 x) then true else tmd x 7),Value.bool (bif Nat.beq 11 (dlV0 x) then true else tmd x 8),Value.bool (bif Nat.beq 12 (dlV0 x) then true else tmd x 9)]
noncomputable def dlV2 (l:List Int) := (List.map (Value.int IntKind.i64) l)
noncomputable def dlV3 (b:Int) (n:Nat) (c:Nat):Prop := (AObj.rw [vi b,Value.slice (some (ad0 0)) n c] none=AObj.rw [vi b,Value.slice (some (ad0 0)) n c] none∧true=true)
noncomputable def dlV4  : Prop := (Value.pointer (some { block := (2 : Nat) + (1 : Nat),off := (0 : Nat),spot := none }) = Value.pointer (some { block := (2 : Nat) + (1 : Nat),off := (0 : Nat),spot := none }))
noncomputable def dlV5  (x:Nat) := (0+(x:Int).toNat * 2)
noncomputable def dlV6  := (AObj.rw [Value.pointer (some { block := (2 : Nat) + (1 : Nat),off := (0 : Nat),spot := none })] none)
noncomputable def dlV7 (b:Int) (n:Nat) (c:Nat) (l:List Int) (y:Nat) := (vi b::Value.slice (some (ad0 0)) n c::vi (↑(lg b l y):Int)::B10 (tmd y) [])
noncomputable def dlV8 (b:Int) (n:Nat) (c:Nat) (l:List Int) (x:Nat) := (vi b::Value.slice (some (ad0 0)) n c::vi (↑(lg b l x):Int)::B10 (tmd x) [])
noncomputable def dlV9 (n:Nat) (c:Nat):Prop := (Value.slice (some (ad0 0)) n c=Value.slice (some (ad0 0)) n c)
noncomputable def dlV :=
fun (b:Int) (n c:Nat) (l:List Int) (st:Nat→Int)↦Ob ((true=true∧Flat (dlV2 l))∧okL (Leaf.view (dlV2 l) n false))∧((errP b n (intsOf (dlV2 l)) !=(0:Int))=true→((errP b n (intsOf (dlV2 l)) !=(0:Int))=true→True∧Ob (Value.tuple ⟨[vi (0:Int),vi (errP b n (intsOf (dlV2 l)))]⟩=Value.tuple ⟨[vi (ltN l st n),vi (0:Int)]⟩))∧((errP b n (intsOf (dlV2 l)) !=(0:Int))=false→False))∧((errP b n (intsOf (dlV2 l)) !=(0:Int))=false→(∃ (y:Nat),Ob (y≤n)∧(Ob (AObj.ro (dlV2 l)=AObj.ro (List.map (nmap1 fun (bq:Nat)↦bq) (dlV2 l))∧AObj.sc 4 (AObj.ro (dlV2 l))=true)∧Ob (dlV3 b n c)∧Ob (dlV3 b n c)∧Ob (AObj.rw (vi b::Value.slice (some (ad0 0)) n c::vi (0:Int)::B10 empB []) none=AObj.rw (dlV7 b n c l y) none∧true=true)∧True)∧Ob (ptr0 3=ptr0 3)∧Ob (dlV9 n c)∧Ob ((n:Int)=(n:Int))∧Ob ((0:Int)=(y:Int))∧True)∧∀ (x:Nat),Ob (x≤n)→(decide ((x:Int)<(n:Int))=true→Ob ((0:Int)≤(x:Int)∧(x:Int)<(n:Int)∧true=true)∧Ob (ckAsk [CK.i IntKind.i64,CK.i IntKind.i64] (dlV2 l) (dlV5 x))∧Ob (0+2≤2)∧Ob ((0:Int)≤(x:Int)∧(x:Int)<(↑(10:Nat):Int))∧Ob (BoolAt (dlV8 b n c l x) (dlV0 x)∧some 1=some 1)∧Ob (some (vi (getI (dlV2 l) (dlV5 x)))=some (vi (getI (dlV2 l) (dlV5 x))))∧Ob (some (vi b)=some (vi b))∧(decide (getI (dlV2 l) (dlV5 x)<b)=true→Ob (IntAt IntKind.i64 (dlV1 b n c l x) (0+2)∧some 1=some 1)∧∃ (y:Nat),Ob (y≤n)∧Ob (n-y<n-x)∧(Ob (AObj.ro (dlV2 l)=AObj.ro (List.map (nmap1 fun (bqq:Nat)↦bqq) (dlV2 l))∧AObj.sc 4 (AObj.ro (dlV2 l))=true)∧Ob (dlV3 b n c)∧Ob (dlV3 b n c)∧Ob (AObj.rw [vi (bif false then IntKind.i64.wrap ((x:Int)+(1:Int)) else b),Value.slice (some (ad0 0)) n c,vi (bif true then IntKind.i64.wrap ((x:Int)+(1:Int)) else (↑(lg b l x):Int)),Value.bool (bif Nat.beq 3 (dlV0 x) then true else tmd x 0),Value.bool (bif Nat.beq 4 (dlV0 x) then true else tmd x 1),Value.bool (bif Nat.beq 5 (dlV0 x) then true else tmd x 2),Value.bool (bif Nat.beq 6 (dlV0 x) then true else tmd x 3),Value.bool (bif Nat.beq 7 (dlV0 x) then true else tmd x 4),Value.bool (bif Nat.beq 8 (dlV0 x) then true else tmd x 5),Value.bool (bif Nat.beq 9 (dlV0 x) then true else tmd x 6),Value.bool (bif Nat.beq 10 (dlV0 x) then true else tmd x 7),Value.bool (bif Nat.beq 11 (dlV0 x) then true else tmd x 8),Value.bool (bif Nat.beq 12 (dlV0 x) then true else tmd x 9)] none=AObj.rw (dlV7 b n c l y) none∧true=true)∧True)∧Ob dlV4∧Ob (dlV9 n c)∧Ob ((n:Int)=(n:Int))∧Ob (IntKind.i64.wrap ((x:Int)+(1:Int))=(y:Int))∧True)∧(decide (getI (dlV2 l) (dlV5 x)<b)=false→∃ (y:Nat),Ob (y≤n)∧Ob (n-y<n-x)∧(Ob (AObj.ro (dlV2 l)=AObj.ro (List.map (nmap1 fun (bqqq:Nat)↦bqqq) (dlV2 l))∧AObj.sc 4 (AObj.ro (dlV2 l))=true)∧Ob (dlV3 b n c)∧Ob (dlV3 b n c)∧Ob (AObj.rw (dlV1 b n c l x) none=AObj.rw (dlV7 b n c l y) none∧true=true)∧True)∧Ob dlV4∧Ob (dlV9 n c)∧Ob ((n:Int)=(n:Int))∧Ob (IntKind.i64.wrap ((x:Int)+(1:Int))=(y:Int))∧True))∧(decide ((x:Int)<(n:Int))=false→(false=true→True∧Ob (Value.tuple ⟨[vi (0:Int),vi (0:Int)]⟩=Value.tuple ⟨[vi (ltN l st n),vi (0:Int)]⟩))∧(false=false→Ob (some (AObj.ro (dlV2 l))=some (AObj.ro (dlV2 l))∧some (AObj.rw (dlV8 b n c l x) none)=some (AObj.rw (vi b::Value.slice (some (ad0 0)) n c::vi (↑(lg b l n):Int)::B10 (tmd n) []) none)∧some dlV6=some dlV6)∧Ob (some (AObj.ro (dlV2 l))=some (AObj.ro (dlV2 l))∧some (AObj.rw (dlV8 b n c l x) none)=some (AObj.rw (vi b::Value.slice (some (ad0 0)) n c::vi (↑(lg b l n):Int)::B10 (tmd n) []) none)∧l.length=n * 2∧n≤10∧1≤n)∧True∧Ob (Value.tuple ⟨[vi (ltN l (l10 (st 0) (st 1) (st 2) (st 3) (st 4) (st 5) (st 6) (st 7) (st 8) (st 9)) n),vi (0:Int)]⟩=Value.tuple ⟨[vi (ltN l st n),vi (0:Int)]⟩))))
theorem dlV_eq : dlV = fun (b : Int) (n c : Nat) (l : List Int) (st : Nat→Int) => vc Try.prog (dlE2 b n c l st) 1 16 true (fun _ => none) dlB [] (argFr 0 [pierV b (some ⟨0,0,none⟩) n c]) [ros l] (retK Try.prog Try.f33 (fun v _ => v = .tuple #[vi (ltN l st n),vi 0])) := by kernel_rfl
theorem dlV_ok (b : Int) (n c : Nat) (l : List Int) (st : Nat→Int) (hl : l.length = n * 2) (hP : errP b n l = 0) : dlV b n c l st := by
 have hn : n≤1000000 := by have := (errP_cases hP).1; omega
 have fo : Flat (List.map (Value.int .i64) l)∧okL (.view (List.map (Value.int .i64) l) n false) := ⟨flat_ints,okL_ints hl hn⟩
 unfold dlV dlV9 dlV8 dlV7 dlV6 dlV5 dlV4 dlV3 dlV2 dlV1 dlV0
 simp only [SS,reduceCtorEq,Arg.list,Arg.num,Arg.flag,intOf,andP,Nat.reduceLeDiff,Nat.reduceAdd,Nat.reduceMul,Nat.reduceLT,errT,ckAsk,CK.ask,pl_fold,tw_fold,nb1_1,nb1_2,nb1_3,nb1_4,nb1_5,nb1_6,nb1_7,nb1_8,nb1_9,nb1_10,nb3_3,nb3_4,nb3_5,nb3_6,nb3_7,nb3_8,nb3_9,nb3_10,nb3_11,nb3_12,cond_true,cond_false,tmd_step,getI_2b,intAt_2b]
 refine ⟨fo,fun h1 => absurd hP h1,fun h1 => ?_⟩
 obtain ⟨⟨n1,n2⟩,hr,ho⟩ := errP_cases hP
 refine ⟨⟨0,by omega,⟨rfl,tmd_zero⟩,rfl⟩,fun x hx => ⟨fun h2 => ?_,fun h2 => ?_⟩⟩
 · have hx10 : x < 10 := by omega
   refine ⟨by omega,by omega,by omega,B10_at hx10,fun h3 => ⟨rfl,x + 1,by omega,by omega,⟨?_,rfl⟩,wrap_succ (n := n) (by omega) hn⟩,fun h3 => ⟨x + 1,by omega,by omega,⟨?_,rfl⟩,wrap_succ (n := n) (by omega) hn⟩⟩
   · rw [lg,if_pos h3]; exact wrap_succ (n := n) (by omega) hn
   · rw [lg,if_neg h3]
 have ex : x = n := by omega
 subst ex
 rw [ltN_l10 x n2]
 exact ⟨⟨rfl,rfl⟩,⟨⟨rfl,rfl⟩,hl,n2,n1⟩,rfl⟩
theorem leastd_at {b : Int} {n c f w x : Nat} {l : List Int} {H : Heap} (hl : l.length = n * 2) (hn : n≤10) (hr : rngP b n l) (hn1 : 1≤n) (hf : f≤n) (hnd : nodupB [0,w,x] = true)
   (h0 : H[0]? = some (ros l)) (hw : H[w]? = some (.rw (walkC b n c f (tmd n)) none)) (hx : H[x]? = some (.rw [ptr0 w] none)) :
   Call Try.prog 102 [.func (.func 123) #[] #[ptr0 x],.func (.func 109) #[ptr0 w] #[]] H fun v H' => v = .agg (newS H.length n :: I10 (dlL b n f l).st []).toArray∧H' = H ++ [.gone] := by
 have lt : ∀ {k : Nat} {o : AObj},H[k]? = some o→k < H.length := fun h => (List.getElem?_eq_some_iff.1 h).1
 have hlt : ∀ y ∈ [0,w,x],y < H.length := fun y hy => by
   simp only [List.mem_cons,List.not_mem_nil,or_false] at hy
   rcases hy with rfl | rfl | rfl
   · exact lt h0
   · exact lt hw
   · exact lt hx
 have hm1 : (B3 b n c f l).map (omap fun c => [0,w,x].getD c 0) = _ := B3_at rfl
 have hm2 : (B3 b n c f l).map (omap (nameL [0,w,x] 3 H.length)) = _ := B3_at rfl
 have hmem : ∀ (c' : Nat) (o : AObj),([ros l,.rw (walkC b n c f (tmd n)) none,.rw [ptr0 w] none] : Heap)[c']? = some o→H[[0,w,x].getD c' 0]? = some o := fun c' o hc => by
   rcases c' with _ | _ | _ | c'
   · cases hc; exact h0
   · cases hc; exact hw
   · cases hc; exact hx
   · simp at hc
 have hso : ∀ o ∈ ([ros l,.rw (walkC b n c f (tmd n)) none,.rw [ptr0 w] none] : Heap),o.sc H.length = true := fun o ho => by
   have hw' := lt hw
   have h0' := lt h0
   simp only [List.mem_cons,List.not_mem_nil,or_false] at ho
   rcases ho with rfl | rfl | rfl
   · exact ros_sc
   · show ((vi b :: sl0 n c :: vi f :: B10 (tmd n) []).all _) = true; simp [sl0,B10,sc1,sc0]; omega
   · simp [AObj.sc,sc1,sc0]; omega
 have hag : ∀ σ : Nat→Nat,nmap σ (.agg (newS 3 n :: I10 (dlL b n f l).st []).toArray) = .agg (newS (σ 3) n :: I10 (dlL b n f l).st []).toArray := fun σ => agg_nmap rfl
 have := (Call.frameG (H := H) (Et := B3 b n c f l) (Ft := B3 b n c f l) (N := [.gone]) (L := [0,w,x]) (vs := [.func (.func 123) #[] #[ptr0 x],.func (.func 109) #[ptr0 w] #[]]) rfl rfl (nodupB_ok hnd) hlt
   (fun c' o hc => by
     have h2 : ((B3 b n c f l).map (omap fun c => [0,w,x].getD c 0))[c']? = some (omap (fun c => [0,w,x].getD c 0) o) := by rw [List.getElem?_map,hc]; rfl
     rw [hm1] at h2
     exact .inr (hmem c' _ h2))
   (fun o ho => B3_sc o ho) (by simp [tripsF,laF,nmap,nmap2,nmap1,nmapFn,nmapA,nmap0,am]) (by kernel_rfl) (leastd_ok b n c f l hl hn hr hn1 hf)
   (fun o ho => by
     show o.nm (fun d => decide (d < 3) || decide (3≤d)) = true
     rw [any_nm rfl]
     rcases List.mem_append.1 ho with h2 | h2
     · unfold B3 at h2
       simp only [List.mem_cons,List.not_mem_nil,or_false] at h2
       rcases h2 with rfl | rfl | rfl
       · exact ros_nm
       · rfl
       · rfl
     · rw [List.mem_singleton.1 h2]; rfl)
   (fun o ho => by rw [List.mem_singleton.1 ho]; rfl)
   (by
     show nm (fun d => decide (d < 3) || decide (3≤d)) _ = true
     rw [any_nm rfl]
     exact agg_nm rfl rfl)
   (fun o ho => by
     rcases List.mem_append.1 ho with h2 | h2
     · have h3 := List.mem_map_of_mem (f := omap (nameL [0,w,x] 3 H.length)) h2
       rw [hm2] at h3
       exact AObj.sc_mono (Nat.le_add_right _ _) (hso _ h3)
     · rw [List.mem_singleton.1 h2]; rfl)
   (by
     rw [hag]
     exact agg_sc (show H.length + (3 - 3) < H.length + 1 by omega) rfl)).1
 refine this.mono fun v H' hh => ⟨by rw [hh.1,hag]; rfl,?_⟩
 rw [hh.2]
 congr 1
 refine setG_same _ _ _ _ fun c' b' e o k1 k2 k3 k4 => ?_
 have h2 : (List.map (omap (nameL [0,w,x] 3 H.length)) (B3 b n c f l))[c']? = some o := k4
 rw [hm2] at h2
 have h3 := hmem c' o h2
 rwa [natD_of_get k3] at h3
theorem leastdCc_ok {b : Int} {n c f : Nat} {l : List Int} (hl : l.length = n * 2) (hn : n≤10) (hr : rngP b n l) (hn1 : 1≤n) (hf : f≤n) : CcOk Try.prog (leastdCc b n c f l (dlL b n f l).st) := by
 intro fn args H T hT Q hQ
 unfold leastdCc at hT
 split at hT <;> try (cases hT; done)
 rename_i hfn
 obtain rfl := Nat.eq_of_beq_eq_true hfn
 split at hT <;> try (cases hT; done)
 rename_i x w
 split at hT <;> cases hT
 rename_i hnd
 obtain ⟨hO,hq⟩ := hQ
 obtain ⟨h0,hw,hx⟩ := hO.out
 exact (leastd_at hl hn hr hn1 hf hnd h0 hw hx).mono fun v H' hh => by rw [hh.1,hh.2]; exact hq
theorem late_at {b : Int} {n c f w k y : Nat} {l : List Int} {x : Nat→Int} {H : Heap} (hl : l.length = n * 2) (hn : n≤10) (hn1 : 1≤n) (hnd : nodupB [0,w,k] = true)
   (h0 : H[0]? = some (ros l)) (hw : H[w]? = some (.rw (walkC b n c f (tmd n)) none)) (hk : k < H.length) :
   Call Try.prog 109 [ptr0 w,.agg (newS k y :: I10 x []).toArray] H fun v H' => v = vi (ltN l x n)∧H' = H := by
 have lt : ∀ {k : Nat} {o : AObj},H[k]? = some o→k < H.length := fun h => (List.getElem?_eq_some_iff.1 h).1
 have hw' := lt hw
 have h0' := lt h0
 have wsc : ∀ m,0 < m→AObj.sc m (.rw (walkC b n c f (tmd n)) none) = true := fun m hm => by
   show ((vi b :: sl0 n c :: vi f :: B10 (tmd n) []).all _) = true; simp [sl0,B10,sc1,sc0]; omega
 refine Call.frameP (Et := itE b n c f l [.gone]) (L := [0,w,k]) (args := [ptr0 1,.agg (newS 2 y :: I10 x []).toArray]) rfl (nodupB_ok hnd) (fun z hz => ?_) (fun c' o' hc => ?_) (fun o' ho' => ?_) (fun c' o' hc _ => ?_) (fun o' ho' => ?_) ?_ ?_ (laV_call b n c f y l x hl hn hn1) (fun o' ho' => ?_) rfl rfl
 · simp only [List.mem_cons,List.not_mem_nil,or_false] at hz
   rcases hz with rfl | rfl | rfl <;> assumption
 · match c',hc with
   | 0,hc => cases hc; exact .inr (by rw [ros_omap]; exact h0)
   | 1,hc => cases hc; exact .inr (by rw [walk_omap rfl]; exact hw)
   | 2,hc => cases hc; exact .inl rfl
   | c' + 3,hc => simp [itE] at hc
 · rcases List.mem_cons.1 ho' with rfl | ho'
   · exact ros_sc
   rcases List.mem_cons.1 ho' with rfl | ho'
   · exact wsc 3 (by decide)
   · rw [List.mem_singleton.1 ho']; rfl
 · match c',hc with
   | 0,hc => cases hc; exact ⟨by rw [ros_omap,ros_omap],by rw [ros_omap]; exact ros_sc⟩
   | 1,hc => cases hc; exact ⟨by rw [walk_omap rfl,walk_omap rfl],by rw [walk_omap rfl]; exact wsc _ (by omega)⟩
   | 2,hc => cases hc; exact ⟨rfl,rfl⟩
   | c' + 3,hc => simp [itE] at hc
 · rcases List.mem_cons.1 ho' with rfl | ho'
   · exact ros_sc
   rcases List.mem_cons.1 ho' with rfl | ho'
   · exact wsc _ (by omega)
   · rw [List.mem_singleton.1 ho']; rfl
 · rw [List.map_cons,List.map_cons,List.map_nil,agg_nmap rfl]; rfl
 · show [ptr0 1,Value.agg (newS 2 y :: I10 x []).toArray].all (sc 3) = true
   rw [List.all_cons,List.all_cons,agg_sc (show 2 < 3 by omega) rfl]; rfl
 · rcases List.mem_cons.1 ho' with rfl | ho'
   · exact ros_nm
   rcases List.mem_cons.1 ho' with rfl | ho'
   · rfl
   · rw [List.mem_singleton.1 ho']; rfl
theorem laCc_ok {b : Int} {n c f : Nat} {l : List Int} : CcOk Try.prog (laCc b n c f l) := by
 intro fn args H T hT Q hQ
 unfold laCc at hT
 split at hT <;> try (cases hT; done)
 rename_i hfn
 obtain rfl := Nat.eq_of_beq_eq_true hfn
 split at hT <;> try (cases hT; done)
 rename_i w k y a0 a1 a2 a3 a4 a5 a6 a7 a8 a9
 split at hT <;> cases hT
 rename_i hnd
 obtain ⟨hO,hq⟩ := hQ
 obtain ⟨h0,hw,h1,h2,h3⟩ := hO.out
 refine fun ρ wd R hs => ?_
 have hkH : k < H.length := ag_lt hs (List.mem_cons_of_mem _ List.mem_cons_self)
 exact ((late_at (x := l10 a0 a1 a2 a3 a4 a5 a6 a7 a8 a9) (y := y) h1 h2 h3 hnd h0 hw hkH).mono fun v H' hh => by rw [hh.1,hh.2]; exact hq) ρ wd R hs
theorem dlE2_ok {b : Int} {n c : Nat} {l : List Int} (hl : l.length = n * 2) (hP : errP b n l = 0) : VOk Try.prog (dlE2 b n c l (dlL b n (lg b l n) l).st) := by
 obtain ⟨⟨n1,n2⟩,hr,ho⟩ := errP_cases hP
 have h1 : VOk Try.prog (dlE1 b n c l (dlL b n (lg b l n) l).st) := ⟨prT_ok,ccOr_ok (leastdCc_ok hl n2 hr n1 (lg_spec n).1) (ccOr_ok laCc_ok (ccIn_ok prE1_ok mixed (inl_one Try.func106))),E0_ok.yc,prE1_ok.orc⟩
 exact ⟨prT_ok,ccIn_ok h1 mixed (inl_two Try.func74 Try.func57),E0_ok.yc,prE1_ok.orc⟩
noncomputable def dlyF (b : Int) (n : Nat) (l : List Int) : Int := ltN l (dlL b n (lefts b n l) l).st n
theorem dl_call (b : Int) (n c : Nat) (l : List Int) (hl : l.length = n * 2) (hP : errP b n l = 0) : Call Try.prog 33 [pierV b (some ⟨0,0,none⟩) n c] [ros l] fun v _ => v = .tuple #[vi (dlyF b n l),vi 0] := by
 obtain ⟨⟨n1,n2⟩,hr,ho⟩ := errP_cases hP
 have h := dlV_ok b n c l (dlL b n (lg b l n) l).st hl hP
 rw [dlV_eq] at h
 unfold dlyF
 rw [← lg_lefts ho]
 exact Call.ofVc (H := [ros l]) (args := [pierV b (some ⟨0,0,none⟩) n c]) (dlE2_ok (c := c) hl hP) mixed (c := dlB) (inv := fun _ => none) (R := fun v _ => v = .tuple #[vi (ltN l (dlL b n (lg b l n) l).st n),vi 0]) Try.func33 (by kernel_rfl) (cast (by kernel_rfl) h)
theorem dlG_ok : ∀ args H φ v H' l,pure3 psP (specQ fun b n l => .tuple #[vi (dlyF b n l),vi 0]) args H = some (φ,v,H',l)→Asks φ→Call Try.prog 33 args H (fun v' H2 => v' = v∧H2 = H')∧Kept H H' l :=
 specQ_ok (fun _ _ _ => by simp [sc,sc2,sc1,sc0]) dl_call
end Go.Pier.Rd
namespace Go.Pier.Rd
open Go Go.Pier Go.Proofs
noncomputable def lbB : Code := Try.f49.body.getD .skip
noncomputable def lbE : VEnv := { ct := Ct.none.add 64 (born3 psPL rsS),orc := prO }
def lbI (b : Int) (n c d : Nat) (l m : List Int) : Nat→Option LInv := invOf
 0 (LInv.one Nat (fun x => x≤n) (fun x => [(2,ptr0 2),(4,vi 0),(5,.slice (some ⟨3,0,none⟩) n n),(6,vi (ltN l (stp b l m) x)),(7,vi x)]) (fun _ => [ros l,ros m,boxP b n c,madeA (outL n (stp b l m))]) (fun x => n - x))
noncomputable def lbV0  := (Value.int IntKind.i64)
noncomputable def lbV1 (b:Int) (n:Nat) (l:List Int) (m:List Int) := (List.map lbV0 (outL n (sf b (intsOf (List.map lbV0 l)) (intsOf (List.map lbV0 m)) (intsOf (List.map lbV0 m)).length)))
noncomputable def lbV2 (b:Int) (n:Nat) (l:List Int) (m:List Int) := (List.map lbV0 (outL n (stp b l m)))
noncomputable def lbV3  (x:Nat) := (0+(x:Int).toNat * 2+1)
noncomputable def lbV4 (b:Int) (n:Nat) (c:Nat):Prop := (AObj.rw [vi b,Value.slice (some (ad0 0)) n c] none=AObj.rw [vi b,Value.slice (some (ad0 0)) n c] none∧true=true)
noncomputable def lbV5  (x:Nat) := (0+(x:Int).toNat * 1)
noncomputable def lbV :=
fun (b:Int) (n c d:Nat) (l m:List Int)↦Ob (((true=true∧Flat (List.map lbV0 l))∧true=true∧Flat (List.map lbV0 m))∧(okL (Leaf.view (List.map lbV0 l) n false)∧okM (Leaf.view (List.map lbV0 m) m.length false))∧stG b n (intsOf (List.map lbV0 l)) (intsOf (List.map lbV0 m)))∧Ob ((0:Int)≤(0:Int)∧(0:Int)<(n:Int)∧true=true)∧Ob (IntAt IntKind.i64 (lbV1 b n l m) (0+0))∧Ob ((0:Int)≤(0:Int)∧(0:Int)<(n:Int)∧true=true)∧Ob (IntAt IntKind.i64 (List.map lbV0 l) 1)∧(∃ (y:Nat),Ob (y≤n)∧(Ob (AObj.ro (List.map lbV0 l)=AObj.ro (List.map (nmap1 fun (bq:Nat)↦bq) (List.map lbV0 l))∧AObj.sc 4 (AObj.ro (List.map lbV0 l))=true)∧Ob (AObj.ro (List.map lbV0 m)=AObj.ro (List.map (nmap1 fun (bqq:Nat)↦bqq) (List.map lbV0 m))∧AObj.sc 4 (AObj.ro (List.map lbV0 m))=true)∧Ob (lbV4 b n c)∧Ob (AObj.rw (lbV1 b n l m) none=AObj.rw (List.map (nmap1 fun (bqqq:Nat)↦bqqq) (lbV2 b n l m)) none∧AObj.sc 4 (AObj.rw (lbV2 b n l m) none)=true)∧True)∧Ob (ptr0 2=ptr0 2)∧Ob ((0:Int)=(0:Int))∧Ob (Value.slice (some (ad0 3)) n n=Value.slice (some (ad0 3)) n n)∧Ob (IntKind.i64.wrap (getI (lbV1 b n l m) (0+0)-getI (List.map lbV0 l) 1)=ltN l (stp b l m) y)∧Ob ((0:Int)=(y:Int))∧True)∧∀ (x:Nat),Ob (x≤n)→(decide ((x:Int)<(n:Int))=true→Ob ((0:Int)≤(x:Int)∧(x:Int)<(n:Int)∧true=true)∧Ob (IntAt IntKind.i64 (lbV2 b n l m) (lbV5 x))∧Ob ((0:Int)≤(x:Int)∧(x:Int)<(n:Int)∧true=true)∧Ob (IntAt IntKind.i64 (List.map lbV0 l) (lbV3 x))∧∃ (y:Nat),Ob (y≤n)∧Ob (n-y<n-x)∧(Ob (AObj.ro (List.map lbV0 l)=AObj.ro (List.map (nmap1 fun (bqqqq:Nat)↦bqqqq) (List.map lbV0 l))∧AObj.sc 4 (AObj.ro (List.map lbV0 l))=true)∧Ob (AObj.ro (List.map lbV0 m)=AObj.ro (List.map (nmap1 fun (bqqqqq:Nat)↦bqqqqq) (List.map lbV0 m))∧AObj.sc 4 (AObj.ro (List.map lbV0 m))=true)∧Ob (lbV4 b n c)∧Ob (AObj.rw (lbV2 b n l m) none=AObj.rw (List.map (nmap1 fun (bqqqqqq:Nat)↦bqqqqqq) (lbV2 b n l m)) none∧AObj.sc 4 (AObj.rw (lbV2 b n l m) none)=true)∧True)∧Ob (ptr0 2=ptr0 2)∧Ob ((0:Int)=(0:Int))∧Ob (Value.slice (some (ad0 3)) n n=Value.slice (some (ad0 3)) n n)∧Ob ((if IntKind.i64.wrap (getI (lbV2 b n l m) (lbV5 x)-getI (List.map lbV0 l) (lbV3 x)) > ltN l (stp b l m) x then IntKind.i64.wrap (getI (lbV2 b n l m) (lbV5 x)-getI (List.map lbV0 l) (lbV3 x)) else ltN l (stp b l m) x)=ltN l (stp b l m) y)∧Ob (IntKind.i64.wrap ((x:Int)+(1:Int))=(y:Int))∧True)∧(decide ((x:Int)<(n:Int))=false→True∧Ob (vi (ltN l (stp b l m) x)=vi (ltN l (stp b l m) n)))
theorem lbV_eq : lbV = fun (b : Int) (n c d : Nat) (l m : List Int) => vc Try.prog lbE 2 40 true (lbI b n c d l m) lbB [] (argFr 0 [pierV b (some ⟨0,0,none⟩) n c,sl1 m.length d]) [ros l,ros m] (retK Try.prog Try.f49 (fun v _ => v = vi (ltN l (stp b l m) n))) := by kernel_rfl
theorem lbV_ok (b : Int) (n c d : Nat) (l m : List Int) (hl : l.length = n * 2) (hr : rngP b n l) (hn : n≤10) (hn1 : 1≤n) (hm : m.length = n) (ha : ∀ j,j < m.length→0≤m.getD j 0∧m.getD j 0 < n) : lbV b n c d l m := by
 unfold lbV lbV5 lbV4 lbV3 lbV2 lbV1 lbV0
 simp only [SS,reduceCtorEq,Arg.list,Arg.num,Arg.flag,intOf,andP,Nat.reduceLeDiff,Nat.reduceAdd,Nat.reduceMul,Nat.reduceLT,ckAsk,CK.ask,pl_fold,tw_fold,madeA,stG]
 have e1 : ∀ i,i < n→(outL n (stp b l m)).getD i 0 = stp b l m i := fun i hi => outL_get hi
 have e0 : (outL n (sf b l m m.length)).getD 0 0 = stp b l m 0 := outL_get (by omega)
 rw [outL_len,outL_len,e0]
 refine ⟨⟨⟨flat_ints,flat_ints⟩,⟨okL_ints hl (by omega),okM_ints (by omega)⟩,⟨hr,hn⟩,hm,ha⟩,by omega,by omega,by omega,by omega,⟨0,by omega,rfl,rfl,rfl⟩,fun x hx => ⟨fun h => ?_,fun h => by rw [show x = n by omega]⟩⟩
 rw [e1 x (by omega)]
 exact ⟨by omega,by omega,by omega,by omega,x + 1,by omega,by omega,rfl,wrap_succ (n := n) (by omega) (by omega)⟩
theorem lbE_ok : VOk Try.prog lbE := ⟨CtOk.none.add rsG_ok,E0_ok.cc,E0_ok.yc,prE1_ok.orc⟩
def lbG (b : Int) (n : Nat) (l m : List Int) : Prop := (rngP b n l∧n≤10)∧1≤n∧m.length = n∧∀ j,j < m.length→0≤m.getD j 0∧m.getD j 0 < n
def lbF (b : Int) (n : Nat) (l m : List Int) : Value := vi (ltN l (stp b l m) n)
theorem lbG_ok : ∀ args H φ v H' l,pure3 psPL (specW lbG lbF) args H = some (φ,v,H',l)→Asks φ→Call Try.prog 49 args H (fun v' H2 => v' = v∧H2 = H')∧Kept H H' l :=
 specW_ok (fun _ _ _ _ => rfl) fun b n c d l m h1 h2 h3 ⟨⟨h4,h5⟩,h6,h7,h8⟩ => by
   have h := lbV_ok b n c d l m h1 h4 h5 h6 h7 h8
   rw [lbV_eq] at h
   exact Call.ofVc lbE_ok mixed (c := lbB) (inv := lbI b n c d l m) Try.func49 (by kernel_rfl) h
theorem kept_app {H N : Heap} : Kept H (H ++ N) [] := ⟨by rw [List.length_append]; omega,fun b h _ => List.getElem?_append_left h⟩
theorem list_at1 {f : FuncId} {b : Int} {n k c : Nat} {l r : List Int} {az : List Value} {H : Heap} (has : az.all (sc 0) = true) (h0 : H[0]? = some (ros l))
   (h : Call Try.prog f (pierV b (some ⟨0,0,none⟩) n c :: az) [ros l] fun v H' => v = newS 1 k∧H' = [ros l,rws r]) :
   Call Try.prog f (pierV b (some ⟨0,0,none⟩) n c :: az) H fun v H' => v = newS H.length k∧H' = H ++ [rws r] := by
 have hlt : 0 < H.length := (List.getElem?_eq_some_iff.1 h0).1
 have hp : ∀ σ : Nat→Nat,σ 0 = 0→nmap σ (pierV b (some ⟨0,0,none⟩) n c) = pierV b (some ⟨0,0,none⟩) n c := fun σ h0 => by simp [pierV,nmap,nmap2,nmap1,nmap0,am,h0]
 have hm : ∀ σ : Nat→Nat,az.map (nmap σ) = az := fun σ => by
   conv => rhs; rw [← List.map_id az]
   exact List.map_congr_left fun u hu => nmap_closed (List.all_eq_true.1 has u hu)
 have := (Call.frameG (H := H) (Et := [ros l]) (Ft := [ros l]) (N := [rws r]) (L := [0]) (vs := pierV b (some ⟨0,0,none⟩) n c :: az) rfl rfl (by simp) (fun y hy => by rw [List.mem_singleton.1 hy]; exact hlt)
   (fun c' o hc => by
     cases c' with
     | zero => cases hc; exact .inr (by rw [ros_omap]; exact h0)
     | succ c' => simp at hc)
   (fun o ho => by rw [List.mem_singleton.1 ho]; exact ros_sc) (by rw [List.map_cons,hp _ rfl,hm])
   (by
     rw [List.all_cons,Bool.and_eq_true]
     exact ⟨by kernel_rfl,List.all_eq_true.2 fun u hu => sc_mono (Nat.zero_le _) (List.all_eq_true.1 has u hu)⟩) h
   (fun o ho => by
     rcases List.mem_append.1 ho with h2 | h2
     · rw [List.mem_singleton.1 h2]; exact ros_nm
     · rw [List.mem_singleton.1 h2]; exact rws_nm)
   (fun o ho => by rw [List.mem_singleton.1 ho]; rfl) (by kernel_rfl)
   (fun o ho => by
     rcases List.mem_append.1 ho with h2 | h2
     · rw [List.mem_singleton.1 h2,ros_omap]; exact ros_sc
     · rw [List.mem_singleton.1 h2,rws_omap]; exact rws_sc)
   (by show decide (H.length < H.length + 1) = true; simp)).1
 refine this.mono fun v H' hh => ⟨hh.1,?_⟩
 rw [hh.2]
 show H ++ [omap _ (rws r)] = _
 rw [rws_omap]
theorem roU_omap {σ : Nat→Nat} {q : List Int} : omap σ (roU q) = roU q := by
 show AObj.ro ((q.map (.int .u8)).map (nmap1 σ)) = _
 rw [nmap1_all (List.all_eq_true.2 fun u hu => by obtain ⟨x,_,rfl⟩ := List.mem_map.1 hu; rfl)]; rfl
theorem roU_sc {q : List Int} {n : Nat} : (roU q).sc n = true := List.all_eq_true.2 fun u hu => by
 obtain ⟨x,_,rfl⟩ := List.mem_map.1 hu; rfl
theorem roU_nm {q : List Int} {p : Nat→Bool} : (roU q).nm p = true := List.all_eq_true.2 fun u hu => by
 obtain ⟨x,_,rfl⟩ := List.mem_map.1 hu; rfl
theorem list_at2 {f : FuncId} {b : Int} {n k c : Nat} {l r : List Int} {o : AObj} {v1 : Value} {H : Heap} (ho : o = .gone∨∃ q,o = roU q) (hs : sc 2 v1 = true) (hv : ∀ σ : Nat→Nat,σ 1 = 1→nmap σ v1 = v1) (h0 : H[0]? = some (ros l)) (h1 : o = .gone∨H[1]? = some o) (hlt : 1 < H.length)
   (h : Call Try.prog f [pierV b (some ⟨0,0,none⟩) n c,v1] [ros l,o] fun v H' => v = newS 2 k∧H' = [ros l,o,rws r]) :
   Call Try.prog f [pierV b (some ⟨0,0,none⟩) n c,v1] H fun v H' => v = newS H.length k∧H' = H ++ [rws r] := by
 have hp : ∀ σ : Nat→Nat,σ 0 = 0→nmap σ (pierV b (some ⟨0,0,none⟩) n c) = pierV b (some ⟨0,0,none⟩) n c := fun σ h0 => by simp [pierV,nmap,nmap2,nmap1,nmap0,am,h0]
 have oo : ∀ σ : Nat→Nat,omap σ o = o := fun σ => by rcases ho with rfl | ⟨q,rfl⟩; exact rfl; exact roU_omap
 have os : ∀ n,o.sc n = true := fun n => by rcases ho with rfl | ⟨q,rfl⟩; exact rfl; exact roU_sc
 have on : ∀ p,o.nm p = true := fun p => by rcases ho with rfl | ⟨q,rfl⟩; exact rfl; exact roU_nm
 have := (Call.frameG (H := H) (Et := [ros l, o]) (Ft := [ros l, o]) (N := [rws r]) (L := [0, 1]) (vs := [pierV b (some ⟨0,0,none⟩) n c, v1]) rfl rfl (by decide) (fun y hy => by
     simp only [List.mem_cons,List.not_mem_nil,or_false] at hy; omega)
   (fun c' x hc => by
     rcases c' with _ | _ | c'
     · cases hc; exact .inr (by rw [ros_omap]; exact h0)
     · cases hc
       rcases h1 with h1 | h1
       · exact .inl h1
       · exact .inr (by rw [oo]; exact h1)
     · simp at hc)
   (fun x hx => by
     simp only [List.mem_cons,List.not_mem_nil,or_false] at hx
     rcases hx with rfl | rfl
     · exact ros_sc
     · exact os _)
   (by rw [List.map_cons,hp _ rfl,List.map_cons,hv _ rfl,List.map_nil])
   (by
     rw [List.all_cons,List.all_cons,Bool.and_eq_true,Bool.and_eq_true]
     exact ⟨by kernel_rfl,hs,rfl⟩) h
   (fun x hx => by
     simp only [List.mem_append,List.mem_cons,List.not_mem_nil,or_false] at hx
     rcases hx with (rfl | rfl) | rfl
     · exact ros_nm
     · exact on _
     · exact rws_nm)
   (fun x hx => by rw [List.mem_singleton.1 hx]; rfl) (by kernel_rfl)
   (fun x hx => by
     simp only [List.mem_append,List.mem_cons,List.not_mem_nil,or_false] at hx
     rcases hx with (rfl | rfl) | rfl
     · rw [ros_omap]; exact ros_sc
     · rw [oo]; exact os _
     · rw [rws_omap]; exact rws_sc)
   (by show decide (H.length < H.length + 1) = true; simp)).1
 refine this.mono fun v H' hh => ⟨hh.1,?_⟩
 rw [hh.2]
 rcases ho with rfl | ⟨q,rfl⟩
 · show H ++ [omap _ (rws r)] = _
   rw [rws_omap]
 · show H ++ [omap _ (rws r)] = _
   rw [rws_omap]
end Go.Pier.Rd
namespace Go.Pier.Rd
open Go Go.Pier Go.Proofs
def AtW3 (b : Int) (n c f : Nat) (l : List Int) (H : Heap) : Prop := H[0]? = some (ros l)∧H[3]? = some (.rw (walkC b n c f (tmd n)) none)
noncomputable def itCt3 (b : Int) (n c f : Nat) (l : List Int) : List Value→Heap→Option (Option Prop × Value × Heap × List Nat) := fun args H => match args with
 | [.pointer (some ⟨3,0,none⟩),.agg ⟨[.slice (some ⟨k,0,some 0⟩) _ 0,.int .i64 a0,.int .i64 a1,.int .i64 a2,.int .i64 a3,.int .i64 a4,.int .i64 a5,.int .i64 a6,.int .i64 a7,.int .i64 a8,.int .i64 a9]⟩] => match Nat.ble 4 k with
   | true => some (some (AtW3 b n c f l H∧l.length = n * 2∧n≤10),.bool (inTB n l (l10 a0 a1 a2 a3 a4 a5 a6 a7 a8 a9)),H,[])
   | false => none
 | _ => none
noncomputable def tpCt3 (b : Int) (n c f : Nat) (l m : List Int) : List Value→Heap→Option (Option Prop × Value × Heap × List Nat) := fun args H => match args with
 | [.pointer (some ⟨3,0,none⟩),.slice (some ⟨k,0,some 0⟩) y 0] => match Nat.ble 4 k with
   | true => some (some (AtW3 b n c f l H∧H[k]? = some (rws m)∧y = m.length∧l.length = n * 2∧n≤10∧rngP b n l∧m.length≤10∧∀ j,j < m.length→0≤m.getD j 0∧m.getD j 0 < n),.agg (newS k y :: I10 (stp b l m) []).toArray,H,[])
   | false => none
 | _ => none
theorem walk3_frame {fn : FuncId} {b : Int} {n c f : Nat} {l : List Int} {H : Heap} {o : AObj} {k : Nat} {args vs : List Value} {v : Value} (hA : AtW3 b n c f l H) (hk : 4≤k) (hkH : k < H.length) (ho : o = .gone∨(H[k]? = some o∧∀ σ,omap σ o = o)) (hos : ∀ n,o.sc n = true) (hon : ∀ p,o.nm p = true)
   (hargs : vs = args.map (nmap fun c => [0,3,k].getD c 0)) (hsa : args.all (sc 3) = true) (h : Call Try.prog fn args (itE b n c f l [o]) fun v' F' => v' = v∧F' = itE b n c f l [o])
   (hv : nm (fun d => decide (d < 3) || decide (3≤d)) v = true) (hvs : sc H.length (nmap (nameL [0,3,k] 3 H.length) v) = true) :
   Call Try.prog fn vs H fun v' H2 => v' = nmap (nameL [0,3,k] 3 H.length) v∧H2 = H := by
 have hH : 3 < H.length := by omega
 refine Call.frameP (Et := itE b n c f l [o]) (L := [0,3,k]) (args := args) rfl (by simp; omega) (fun x hx => by simp at hx; omega) (fun c' o' hc => ?_) (fun o' ho' => ?_) (fun c' o' hc _ => ?_) (fun o' ho' => ?_) hargs hsa h (fun o' ho' => ?_) hv hvs
 · match c',hc with
   | 0,hc => cases hc; exact .inr (by rw [ros_omap]; exact hA.1)
   | 1,hc => cases hc; exact .inr (by rw [walk_omap rfl]; exact hA.2)
   | 2,hc =>
     cases hc
     rcases ho with rfl | ⟨h1,h2⟩
     · exact .inl rfl
     · exact .inr (by rw [h2]; exact h1)
   | c' + 3,hc => simp [itE] at hc
 · rcases List.mem_cons.1 ho' with rfl | ho'
   · exact ros_sc
   rcases List.mem_cons.1 ho' with rfl | ho'
   · rfl
   · rw [List.mem_singleton.1 ho']; exact hos _
 · match c',hc with
   | 0,hc => cases hc; exact ⟨by rw [ros_omap,ros_omap],by rw [ros_omap]; exact ros_sc⟩
   | 1,hc => cases hc; exact ⟨by rw [walk_omap rfl,walk_omap rfl],by rw [walk_omap rfl]; show ((vi b :: sl0 n c :: vi f :: B10 (tmd n) []).all _) = true; simp [sl0,B10,sc1,sc0]; omega⟩
   | 2,hc =>
     cases hc
     rcases ho with rfl | ⟨h1,h2⟩
     · exact ⟨rfl,rfl⟩
     · exact ⟨by rw [h2,h2],by rw [h2]; exact hos _⟩
   | c' + 3,hc => simp [itE] at hc
 · rcases List.mem_cons.1 ho' with rfl | ho'
   · exact ros_sc
   rcases List.mem_cons.1 ho' with rfl | ho'
   · show ((vi b :: sl0 n c :: vi f :: B10 (tmd n) []).all _) = true; simp [sl0,B10,sc1,sc0]; omega
   · rw [List.mem_singleton.1 ho']; exact hos _
 · rcases List.mem_cons.1 ho' with rfl | ho'
   · exact ros_nm
   rcases List.mem_cons.1 ho' with rfl | ho'
   · rfl
   · rw [List.mem_singleton.1 ho']; exact hon _
theorem it3_ok (b : Int) (n c f : Nat) (l : List Int) : ∀ args H φ v H' lg,itCt3 b n c f l args H = some (φ,v,H',lg)→Asks φ→Call Try.prog 61 args H (fun v' H2 => v' = v∧H2 = H')∧Kept H H' lg := by
 intro args H φ v H' lg h hφ
 unfold itCt3 at h
 split at h <;> try (cases h; done)
 rename_i k y a0 a1 a2 a3 a4 a5 a6 a7 a8 a9
 split at h <;> cases h
 rename_i hk
 obtain ⟨h1,h2,h3⟩ := hφ
 refine ⟨fun ρ w R hs => ?_,Kept.refl _ _⟩
 have hkH : k < H.length := ag_lt hs (List.mem_cons_of_mem _ List.mem_cons_self)
 exact walk3_frame (o := .gone) h1 (Nat.le_of_ble_eq_true hk) hkH (.inl rfl) (fun _ => rfl) (fun _ => rfl) (args := [ptr0 1,.agg (newS 2 y :: I10 (l10 a0 a1 a2 a3 a4 a5 a6 a7 a8 a9) []).toArray]) (by rw [List.map_cons,List.map_cons,List.map_nil,agg_nmap rfl]; rfl) (by rw [List.all_cons,List.all_cons,agg_sc (by omega) rfl]; rfl) (itV_call b n c f y l _ h2 h3) rfl rfl ρ w R hs
theorem tp3_ok (b : Int) (n c f : Nat) (l m : List Int) : ∀ args H φ v H' lg,tpCt3 b n c f l m args H = some (φ,v,H',lg)→Asks φ→Call Try.prog 60 args H (fun v' H2 => v' = v∧H2 = H')∧Kept H H' lg := by
 intro args H φ v H' lg h hφ
 unfold tpCt3 at h
 split at h <;> try (cases h; done)
 rename_i k y
 split at h <;> cases h
 rename_i hk
 obtain ⟨h1,h2,h3,h4,h5,h6,h7,h8⟩ := hφ
 subst h3
 refine ⟨fun ρ w R hs => ?_,Kept.refl _ _⟩
 have hkH : k < H.length := sl_lt hs (List.mem_cons_of_mem _ List.mem_cons_self)
 have e : nmap (nameL [0,3,k] 3 H.length) (.agg (newS 2 m.length :: I10 (stp b l m) []).toArray) = .agg (newS k m.length :: I10 (stp b l m) []).toArray := agg_nmap rfl
 have hsv : sc H.length (.agg (newS k m.length :: I10 (stp b l m) []).toArray) = true := by
   exact agg_sc hkH rfl
 have := walk3_frame (fn := 60) (o := rws m) (vs := [ptr0 3,newS k m.length]) h1 (Nat.le_of_ble_eq_true hk) hkH (.inr ⟨h2,fun _ => rws_omap⟩) (fun _ => rws_sc) (fun _ => rws_nm) (args := [ptr0 1,newS 2 m.length]) rfl rfl (tpV_call b n c f l m h4 h5 h6 h7 h8) (agg_nm rfl rfl) (by rw [e]; exact hsv)
 rw [e] at this
 exact this ρ w R hs
end Go.Pier.Rd
namespace Go.Pier.Rd
open Go Go.Pier Go.Proofs
def tripsC : Value := .func (.func 123) #[] #[ptr0 5]
def pairV : Value := .tuple #[ptr0 3,vi 0]
noncomputable def C0 (b : Int) (n c : Nat) : AObj := lpO Try.f28 #[pierV b (some ⟨0,0,none⟩) n c,ptr0 1,vi 0,vi 0,ptr0 3,vi 0,ptr0 4,pairV,pierV b (some ⟨0,0,none⟩) n c,pairV,ptr0 3,vi 0,vi 0,.bool false,junk,ptr0 3,.func (.func 122) #[] #[ptr0 6,ptr0 7],junk,junk,junk,junk]
noncomputable def C1 : AObj := lpO Try.f122 #[yv 8,ptr0 6,ptr0 7,ptr0 9,junk,tripsC,junk,junk,junk,junk,junk,junk,junk,junk,junk,junk]
noncomputable def C2 (s : LoopState) : AObj := lpO Try.f123 #[yv 10,ptr0 5,ptr0 11,junk,ptr0 3,.func (.func 133) #[] #[ptr0 12],junk,junk,junk,junk,junk,junk,junk] s
noncomputable def EHc (b : Int) (n c f : Nat) (l : List Int) (s : LoopState) (k : Int) : Heap :=
 [ros l,boxP b n c,boxP b n c,.rw (walkC b n c f (tmd n)) none,.rw [vi k] none,.rw [ptr0 3] none,.rw [tripsC] none,.rw [.func (.func 61) #[ptr0 3] #[]] none,
  C0 b n c,.rw [yv 8] none,C1,.rw [yv 10] none,.rw [ptr0 3] none,C2 s]
noncomputable def EGc (b : Int) (n c f : Nat) (l m : List Int) (s : LoopState) (k : Int) : Heap := EHc b n c f l s k ++ [rws m]
def stepC (g : (Nat→Int)→Bool) (k : Int) (x : Nat→Int) : Int := bif g x then IntKind.i64.wrap (k + 1) else k
def foldC (b : Int) (l : List Int) (g : (Nat→Int)→Bool) : Int→List (List Int)→Int
 | k,[] => k
 | k,m :: r => foldC b l g (stepC g k (stp b l m)) r
theorem foldC_append {b : Int} {l : List Int} {g : (Nat→Int)→Bool} : ∀ {k : Int} {r r' : List (List Int)},foldC b l g k (r ++ r') = foldC b l g (foldC b l g k r) r'
 | _,[],_ => rfl
 | _,_ :: r,_ => foldC_append (r := r)
end Go.Pier.Rd
namespace Go.Pier.Rd
open Go Go.Pier Go.Proofs
noncomputable def y1c_c0 : Code := (Code.block (1 : Nat) (Code.region (6 : Nat) { toList := [{ dst := some (18 : Nat),op := Op.load (3 : Nat) (Operand.tmp (6 : Nat)),type := (3 : Nat),pos := "round.go:70",after := { toList := [] },guard := none },{ dst := some (19 : Nat),op := Op.binOp BinOp.add (3 : Nat) (Operand.tmp (18 : Nat)) (Operand.const (vi (1 : Int))) (3 : Nat),type := (3 : Nat),pos := "round.go:70",after := { toList := [{ on := (0 : Nat),ground := Ground.data }] },guard := none },{ dst := none,op := Op.store (3 : Nat) (Operand.tmp (6 : Nat)) (Operand.tmp (19 : Nat)),type := (0 : Nat),pos := "round.go:70",after := { toList := [{ on := (1 : Nat),ground := Ground.data },{ on := (0 : Nat),ground := Ground.phase },{ on := (1 : Nat),ground := Ground.phase }] },guard := none }] } false))
noncomputable def y1c_c1 : Code := (Code.region (2 : Nat) { toList := [{ dst := some (4 : Nat),op := Op.alloc (91 : Nat),type := (0 : Nat),pos := "trip.go:64",after := { toList := [] },guard := none },{ dst := none,op := Op.store (91 : Nat) (Operand.tmp (4 : Nat)) (Operand.tmp (6 : Nat)),type := (0 : Nat),pos := "trip.go:64",after := { toList := [{ on := (0 : Nat),ground := Ground.data },{ on := (0 : Nat),ground := Ground.phase }] },guard := none }] } false)
noncomputable def y1c_c2 : Code := (Code.block (1 : Nat) ((Code.region (3 : Nat) { toList := [{ dst := some (7 : Nat),op := Op.load (93 : Nat) (Operand.tmp (2 : Nat)),type := (93 : Nat),pos := "trip.go:65",after := { toList := [] },guard := none },{ dst := some (8 : Nat),op := Op.load (91 : Nat) (Operand.tmp (4 : Nat)),type := (91 : Nat),pos := "trip.go:65",after := { toList := [] },guard := none },{ dst := some (9 : Nat),op := Op.call { callee := Callee.value (Operand.tmp (7 : Nat)),args := { toList := [Operand.tmp (8 : Nat)] },argTypes := { toList := [(91 : Nat)] } },type := (4 : Nat),pos := "trip.go:65",after := { toList := [{ on := (0 : Nat),ground := Ground.data },{ on := (1 : Nat),ground := Ground.data }] },guard := none },{ dst := some (10 : Nat),op := Op.move (Operand.tmp (9 : Nat)),type := (4 : Nat),pos := "trip.go:65",after := { toList := [{ on := (2 : Nat),ground := Ground.data },{ on := (2 : Nat),ground := Ground.chain }] },guard := none },{ dst := some (11 : Nat),op := Op.load (93 : Nat) (Operand.tmp (3 : Nat)),type := (93 : Nat),pos := "trip.go:65",after := { toList := [{ on := (3 : Nat),ground := Ground.guard }] },guard := some ((3 : Nat),true) },{ dst := some (12 : Nat),op := Op.load (91 : Nat) (Operand.tmp (4 : Nat)),type := (91 : Nat),pos := "trip.go:65",after := { toList := [{ on := (3 : Nat),ground := Ground.guard }] },guard := some ((3 : Nat),true) },{ dst := some (13 : Nat),op := Op.call { callee := Callee.value (Operand.tmp (11 : Nat)),args := { toList := [Operand.tmp (12 : Nat)] },argTypes := { toList := [(91 : Nat)] } },type := (4 : Nat),pos := "trip.go:65",after := { toList := [{ on := (4 : Nat),ground := Ground.data },{ on := (5 : Nat),ground := Ground.data },{ on := (3 : Nat),ground := Ground.chain },{ on := (3 : Nat),ground := Ground.guard }] },guard := some ((3 : Nat),true) },{ dst := some (14 : Nat),op := Op.unOp UnOp.not (4 : Nat) (Operand.tmp (13 : Nat)),type := (4 : Nat),pos := "trip.go:65",after := { toList := [{ on := (6 : Nat),ground := Ground.data },{ on := (3 : Nat),ground := Ground.guard }] },guard := some ((3 : Nat),true) },{ dst := some (15 : Nat),op := Op.pick (Operand.tmp (10 : Nat)) (Operand.tmp (14 : Nat)) (Operand.const (Value.bool false)),type := (4 : Nat),pos := "trip.go:65",after := { toList := [{ on := (3 : Nat),ground := Ground.data },{ on := (7 : Nat),ground := Ground.data }] },guard := none }] } false).seq (Code.cond (Operand.tmp (15 : Nat)) Code.ret Code.skip)))
noncomputable def y1cE (b : Int) (n c f : Nat) (l : List Int) : VEnv := { ct := Ct.none.add 61 (itCt3 b n c f l),yc := ycIn Try.prog {} (fun _ => none) }
def YRc (b : Int) (n c f : Nat) (l m : List Int) (z : LoopState) (k : Int) (v : Value) (H' : Heap) : Prop := v = .bool true∧H' = EGc b n c f l m z k ++ H'.drop 15
noncomputable def y1C0 (b:Int) (n:Nat) (c:Nat):Array Value := ⟨[Value.agg ⟨[vi b,Value.slice (some (ad0 0)) n c]⟩,ptr0 1,vi (0:Int),vi (0:Int),ptr0 3,vi (0:Int),ptr0 4,Value.tuple ⟨[ptr0 3,vi (0:Int)]⟩,Value.agg ⟨[vi b,Value.slice (some (ad0 0)) n c]⟩,Value.tuple ⟨[ptr0 3,vi (0:Int)]⟩,ptr0 3,vi (0:Int),vi (0:Int),Value.bool false,junk,ptr0 3,Value.func (Fn.func (122:FuncId)) ⟨[]⟩ ⟨[ptr0 6,ptr0 7]⟩,junk,junk,junk,junk]⟩
noncomputable def y1C1  : Array Value := { toList := [Value.func (Fn.yield (8 : Nat)) { toList := [] } { toList := [] },ptr0 6,ptr0 7,ptr0 9,junk,Value.func (Fn.func (123 : FuncId)) { toList := [] } { toList := [ptr0 5] },junk,junk,junk,junk,junk,junk,junk,junk,junk,junk] }
noncomputable def y1C2  : Array Value := { toList := [Value.func (Fn.yield (10 : Nat)) { toList := [] } { toList := [] },ptr0 5,ptr0 11,junk,ptr0 3,Value.func (Fn.func (133 : FuncId)) { toList := [] } { toList := [ptr0 12] },junk,junk,junk,junk,junk,junk,junk] }
noncomputable def y1C3 (n:Nat) (x:Nat→Int) := (Value.slice (some ⟨14,0,some 0⟩) n 0::I10 x [])
noncomputable def y1C4  : List Value := [Value.func (Fn.func (123 : FuncId)) { toList := [] } { toList := [ptr0 5] }]
noncomputable def y1C5  : List Value := [Value.func (Fn.func (61 : FuncId)) { toList := [ptr0 3] } { toList := [] }]
noncomputable def y1C6  : List Value := [Value.func (Fn.yield (10 : Nat)) { toList := [] } { toList := [] }]
noncomputable def y1C7  : List Value := [Value.func (Fn.yield (8 : Nat)) { toList := [] } { toList := [] }]
noncomputable def y1C8 (b:Int) (n:Nat) (c:Nat):List Value := [vi b,Value.slice (some (ad0 0)) n c]
noncomputable def y1C9 (b:Int) (n:Nat) (c:Nat) (f:Nat) := (vi b::Value.slice (some (ad0 0)) n c::vi (f:Int)::B10 (tmd n) [])
noncomputable def y1C10 (x:Nat→Int) := (l10 (x 0) (x 1) (x 2) (x 3) (x 4) (x 5) (x 6) (x 7) (x 8) (x 9))
noncomputable def y1C11  := (Value.int IntKind.i64)
noncomputable def y1C :=
fun (b:Int) (n c f:Nat) (l m:List Int) (x:Nat→Int) (k:Int)↦Ob (0+11≤11)∧Ob (AtW3 b n c f l [AObj.ro (List.map y1C11 l),AObj.rw (y1C8 b n c) none,AObj.rw (y1C8 b n c) none,AObj.rw (y1C9 b n c f) none,AObj.rw [vi k] none,AObj.rw [ptr0 3] none,AObj.rw y1C4 none,AObj.rw y1C5 none,AObj.loop LoopState.ready none (y1C0 b n c) ⟨[17]⟩ Code.skip y1c_c0,AObj.rw y1C7 none,AObj.loop LoopState.busy none y1C1 ⟨[6]⟩ y1c_c1 y1c_c2,AObj.rw y1C6 none,AObj.rw [ptr0 3] none,AObj.loop LoopState.busy none y1C2 ⟨[6]⟩ y1d_c2 y1d_c3,AObj.rw (List.map y1C11 m) (some 1),AObj.rw (y1C3 n x) none]∧l.length=n * 2∧n≤10)∧(inTB n l (y1C10 x)=true→Ob (some (vi k)=some (vi k))∧Ob (1≤1)∧(false=true→Ob (YRc b n c f l m LoopState.busy (stepC (inTB n l) k x) (Value.bool false) [AObj.ro (List.map y1C11 l),AObj.rw (y1C8 b n c) none,AObj.rw (y1C8 b n c) none,AObj.rw (y1C9 b n c f) none,AObj.rw [vi (IntKind.i64.wrap (k+(1:Int)))] none,AObj.rw [ptr0 3] none,AObj.rw y1C4 none,AObj.rw y1C5 none,AObj.loop LoopState.ready none (y1C0 b n c) ⟨[17]⟩ Code.skip y1c_c0,AObj.rw y1C7 none,AObj.loop LoopState.done (some Code.ret) y1C1 ⟨[6]⟩ y1c_c1 y1c_c2,AObj.rw y1C6 none,AObj.rw [ptr0 3] none,AObj.loop LoopState.busy none y1C2 ⟨[6]⟩ y1d_c2 y1d_c3,AObj.rw (List.map y1C11 m) (some 1),AObj.rw (y1C3 n x) none]))∧(false=false→Ob (YRc b n c f l m LoopState.busy (stepC (inTB n l) k x) (Value.bool true) [AObj.ro (List.map y1C11 l),AObj.rw (y1C8 b n c) none,AObj.rw (y1C8 b n c) none,AObj.rw (y1C9 b n c f) none,AObj.rw [vi (IntKind.i64.wrap (k+(1:Int)))] none,AObj.rw [ptr0 3] none,AObj.rw y1C4 none,AObj.rw y1C5 none,AObj.loop LoopState.ready none (y1C0 b n c) ⟨[17]⟩ Code.skip y1c_c0,AObj.rw y1C7 none,AObj.loop LoopState.ready none y1C1 ⟨[6]⟩ y1c_c1 y1c_c2,AObj.rw y1C6 none,AObj.rw [ptr0 3] none,AObj.loop LoopState.busy none y1C2 ⟨[6]⟩ y1d_c2 y1d_c3,AObj.rw (List.map y1C11 m) (some 1),AObj.rw (y1C3 n x) none])))∧(inTB n l (y1C10 x)=false→Ob (YRc b n c f l m LoopState.busy (stepC (inTB n l) k x) (Value.bool true) [AObj.ro (List.map y1C11 l),AObj.rw (y1C8 b n c) none,AObj.rw (y1C8 b n c) none,AObj.rw (y1C9 b n c f) none,AObj.rw [vi k] none,AObj.rw [ptr0 3] none,AObj.rw y1C4 none,AObj.rw y1C5 none,AObj.loop LoopState.ready none (y1C0 b n c) ⟨[17]⟩ Code.skip y1c_c0,AObj.rw y1C7 none,AObj.loop LoopState.ready none y1C1 ⟨[6]⟩ y1c_c1 y1c_c2,AObj.rw y1C6 none,AObj.rw [ptr0 3] none,AObj.loop LoopState.busy none y1C2 ⟨[6]⟩ y1d_c2 y1d_c3,AObj.rw (List.map y1C11 m) (some 1),AObj.rw (y1C3 n x) none]))
theorem y1C_eq : y1C = fun (b : Int) (n c f : Nat) (l m : List Int) (x : Nat→Int) (k : Int) => ycT (ycIn Try.prog (y1cE b n c f l) (fun _ => none) 10 [.agg (newS 14 n :: I10 x []).toArray] (EGc b n c f l m .busy k)) (fun v H' => Ob (YRc b n c f l m .busy (stepC (inTB n l) k x) v H')) := by kernel_rfl
theorem y1C_ok (b : Int) (n c f : Nat) (l m : List Int) (x : Nat→Int) (k : Int) (hl : l.length = n * 2) (hn : n≤10) : y1C b n c f l m x k := by
 unfold y1C y1C11 y1C10 y1C9 y1C8 y1C7 y1C6 y1C5 y1C4 y1C3 y1C2 y1C1 y1C0
 simp only [SS,reduceCtorEq,Arg.list,Arg.num,Arg.flag,intOf,andP,Nat.reduceLeDiff,Nat.reduceAdd,Nat.reduceMul,Nat.reduceLT,inTB_l10 hn]
 refine ⟨⟨⟨rfl,rfl⟩,hl,hn⟩,fun h1 => ?_,fun h1 => ?_⟩
 · unfold stepC; rw [h1]
   exact ⟨rfl,by kernel_rfl⟩
 · unfold stepC; rw [h1]
   exact ⟨rfl,by kernel_rfl⟩
noncomputable def ECr (b : Int) (n c f : Nat) (k : Int) (z : LoopState) : Heap := [boxP b n c,boxP b n c,.rw (walkC b n c f (tmd n)) none,.rw [vi k] none,.rw [ptr0 3] none,.rw [tripsC] none,.rw [.func (.func 61) #[ptr0 3] #[]] none,C0 b n c,.rw [yv 8] none,C1,.rw [yv 10] none,.rw [ptr0 3] none,C2 z]
theorem EGc_all {b : Int} {n c f : Nat} {l m : List Int} {z : LoopState} {k : Int} {p : AObj→Bool} (h : (ECr b n c f k z).all p = true) (h0 : p (ros l) = true) (h4 : p (rws m) = true) : ∀ o ∈ EGc b n c f l m z k,p o = true := by
 refine List.all_eq_true.1 ?_
 show ((ros l :: ECr b n c f k z ++ [rws m]).all p) = true
 rw [List.all_append,List.all_cons,h0,h,List.all_cons,h4]; rfl
theorem EGc_map {σ : Nat→Nat} {b : Int} {n c f : Nat} {l m : List Int} {z : LoopState} {k : Int} (h : (ECr b n c f k z).map (omap σ) = ECr b n c f k z) : (EGc b n c f l m z k).map (omap σ) = EGc b n c f l m z k := by
 show ((ros l :: ECr b n c f k z ++ [rws m]).map (omap σ)) = ros l :: ECr b n c f k z ++ [rws m]
 rw [List.map_append,List.map_cons,ros_omap,h,List.map_cons,rws_omap]; rfl
theorem EGc_len {b : Int} {n c f : Nat} {l m : List Int} {z : LoopState} {k : Int} : (EGc b n c f l m z k).length = 15 := rfl
theorem cut_anew {E : Heap} {e : Nat} {v : Value} {H' : Heap} (hl : E.length = e) (hm : E.map (omap fun b => b) = E) (hs : ∀ o ∈ E,o.sc e = true) (hv : v = .bool true) (he : H' = E ++ H'.drop e) :
   ∃ σ v2 H2,Anew e σ H' H2∧v = nmap σ v2∧sc H2.length v2 = true∧(v2 = .bool true∧H2 = E) := by
 subst hv
 refine ⟨fun b => b,.bool true,E,⟨by omega,fun b _ => rfl,fun b o hb => .inr ?_,fun b1 b2 o h1 h2 h3 h4 h5 h6 => h6,fun b o hb => ?_⟩,rfl,rfl,rfl,rfl⟩
 · have h1 := (List.getElem?_eq_some_iff.1 hb).1
   rw [he,List.getElem?_append_left h1]
   conv => lhs; rw [← hm]
   rw [List.getElem?_map,hb]; rfl
 · rw [hl]; exact hs o (List.mem_of_getElem? hb)
theorem y1cE_ok (b : Int) (n c f : Nat) (l : List Int) : VOk Try.prog (y1cE b n c f l) := ⟨CtOk.none.add (it3_ok b n c f l),E0_ok.cc,ycIn_ok E0_ok mixed,E0_ok.orc⟩
theorem y1c_yield (b : Int) (n c f : Nat) (l m : List Int) (x : Nat→Int) (k : Int) (hl : l.length = n * 2) (hn : n≤10) :
   Yield Try.prog 10 [.agg (newS 14 n :: I10 x []).toArray] (EGc b n c f l m .busy k) fun v H' => v = .bool true∧H' = EGc b n c f l m .busy (stepC (inTB n l) k x) := by
 refine Yield.anew (Yield.mono (Q := YRc b n c f l m .busy (stepC (inTB n l) k x)) ?_ fun v H' h => cut_anew EGc_len (EGc_map (by kernel_rfl)) (EGc_all (by kernel_rfl) ros_sc rws_sc) h.1 h.2)
 have h := y1C_ok b n c f l m x k hl hn
 rw [y1C_eq] at h
 unfold ycT at h
 split at h
 · rename_i T hT
   exact (ycIn_ok (y1cE_ok b n c f l) mixed _ _ _ _ hT _ h).mono fun v H' k => k.out
 · exact h.elim
end Go.Pier.Rd
namespace Go.Pier.Rd
open Go Go.Pier Go.Proofs
noncomputable def nxC (b : Int) (n : Nat) (l m : List Int) (k : Int) : Int := stepC (inTB n l) k (stp b l m)
noncomputable def y1cYt (b : Int) (n c f : Nat) (l m : List Int) (k : Int) : Yt := fun b' args H => match Nat.beq b' 10 with
 | true => some (some (args = [.agg (newS 14 n :: I10 (stp b l m) []).toArray]∧H = EGc b n c f l m .busy k∧l.length = n * 2∧n≤10),.bool true,EGc b n c f l m .busy (nxC b n l m k),[4])
 | false => none
noncomputable def y2cE (b : Int) (n c f : Nat) (l m : List Int) : VEnv := { ct := Ct.none.add 60 (tpCt3 b n c f l m) }
noncomputable def y2C :=
fun (b:Int) (n c f:Nat) (l m:List Int) (k:Int)↦Ob (AtW3 b n c f l [AObj.ro (List.map (Value.int IntKind.i64) l),AObj.rw [vi b,Value.slice (some (ad0 0)) n c] none,AObj.rw [vi b,Value.slice (some (ad0 0)) n c] none,AObj.rw (vi b::Value.slice (some (ad0 0)) n c::vi (f:Int)::B10 (tmd n) []) none,AObj.rw [vi k] none,AObj.rw [ptr0 3] none,AObj.rw [Value.func (Fn.func (123:FuncId)) ⟨[]⟩ ⟨[ptr0 5]⟩] none,AObj.rw [Value.func (Fn.func (61:FuncId)) ⟨[ptr0 3]⟩ ⟨[]⟩] none,AObj.loop LoopState.ready none ⟨[Value.agg ⟨[vi b,Value.slice (some (ad0 0)) n c]⟩,ptr0 1,vi (0:Int),vi (0:Int),ptr0 3,vi (0:Int),ptr0 4,Value.tuple ⟨[ptr0 3,vi (0:Int)]⟩,Value.agg ⟨[vi b,Value.slice (some (ad0 0)) n c]⟩,Value.tuple ⟨[ptr0 3,vi (0:Int)]⟩,ptr0 3,vi (0:Int),vi (0:Int),Value.bool false,junk,ptr0 3,Value.func (Fn.func (122:FuncId)) ⟨[]⟩ ⟨[ptr0 6,ptr0 7]⟩,junk,junk,junk,junk]⟩ ⟨[17]⟩ Code.skip y1c_c0,AObj.rw [Value.func (Fn.yield 8) ⟨[]⟩ ⟨[]⟩] none,AObj.loop LoopState.ready none ⟨[Value.func (Fn.yield 8) ⟨[]⟩ ⟨[]⟩,ptr0 6,ptr0 7,ptr0 9,junk,Value.func (Fn.func (123:FuncId)) ⟨[]⟩ ⟨[ptr0 5]⟩,junk,junk,junk,junk,junk,junk,junk,junk,junk,junk]⟩ ⟨[6]⟩ y1c_c1 y1c_c2,AObj.rw [Value.func (Fn.yield 10) ⟨[]⟩ ⟨[]⟩] none,AObj.rw [ptr0 3] none,AObj.loop LoopState.busy none ⟨[Value.func (Fn.yield 10) ⟨[]⟩ ⟨[]⟩,ptr0 5,ptr0 11,junk,ptr0 3,Value.func (Fn.func (133:FuncId)) ⟨[]⟩ ⟨[ptr0 12]⟩,junk,junk,junk,junk,junk,junk,junk]⟩ ⟨[6]⟩ y1d_c2 y1d_c3,AObj.rw (List.map (Value.int IntKind.i64) m) (some 1)]∧some (AObj.rw (List.map (Value.int IntKind.i64) m) (some 1))=some (AObj.rw (List.map (Value.int IntKind.i64) m) (some 1))∧n=m.length∧l.length=n * 2∧n≤10∧rngP b n l∧m.length≤10∧∀ (j:Nat),j<m.length→(0:Int)≤m.getD j (0:Int)∧m.getD j (0:Int)<(n:Int))∧Ob ([Value.agg { toList := (Value.slice (some ⟨14,0,some 0⟩) n 0::I10 (stp b l m) []) }]=[Value.agg { toList := (Value.slice (some ⟨14,0,some 0⟩) n 0::I10 (stp b l m) []) }]∧[AObj.ro (List.map (Value.int IntKind.i64) l),AObj.rw [vi b,Value.slice (some (ad0 0)) n c] none,AObj.rw [vi b,Value.slice (some (ad0 0)) n c] none,AObj.rw (vi b::Value.slice (some (ad0 0)) n c::vi (f:Int)::B10 (tmd n) []) none,AObj.rw [vi k] none,AObj.rw [ptr0 3] none,AObj.rw [Value.func (Fn.func (123:FuncId)) ⟨[]⟩ ⟨[ptr0 5]⟩] none,AObj.rw [Value.func (Fn.func (61:FuncId)) ⟨[ptr0 3]⟩ ⟨[]⟩] none,AObj.loop LoopState.ready none ⟨[Value.agg ⟨[vi b,Value.slice (some (ad0 0)) n c]⟩,ptr0 1,vi (0:Int),vi (0:Int),ptr0 3,vi (0:Int),ptr0 4,Value.tuple ⟨[ptr0 3,vi (0:Int)]⟩,Value.agg ⟨[vi b,Value.slice (some (ad0 0)) n c]⟩,Value.tuple ⟨[ptr0 3,vi (0:Int)]⟩,ptr0 3,vi (0:Int),vi (0:Int),Value.bool false,junk,ptr0 3,Value.func (Fn.func (122:FuncId)) ⟨[]⟩ ⟨[ptr0 6,ptr0 7]⟩,junk,junk,junk,junk]⟩ ⟨[17]⟩ Code.skip y1c_c0,AObj.rw [Value.func (Fn.yield 8) ⟨[]⟩ ⟨[]⟩] none,AObj.loop LoopState.ready none ⟨[Value.func (Fn.yield 8) ⟨[]⟩ ⟨[]⟩,ptr0 6,ptr0 7,ptr0 9,junk,Value.func (Fn.func (123:FuncId)) ⟨[]⟩ ⟨[ptr0 5]⟩,junk,junk,junk,junk,junk,junk,junk,junk,junk,junk]⟩ ⟨[6]⟩ y1c_c1 y1c_c2,AObj.rw [Value.func (Fn.yield 10) ⟨[]⟩ ⟨[]⟩] none,AObj.rw [ptr0 3] none,AObj.loop LoopState.busy none ⟨[Value.func (Fn.yield 10) ⟨[]⟩ ⟨[]⟩,ptr0 5,ptr0 11,junk,ptr0 3,Value.func (Fn.func (133:FuncId)) ⟨[]⟩ ⟨[ptr0 12]⟩,junk,junk,junk,junk,junk,junk,junk]⟩ ⟨[6]⟩ y1d_c2 y1d_c3,AObj.rw (List.map (Value.int IntKind.i64) m) (some 1)]=[AObj.ro (List.map (Value.int IntKind.i64) l),AObj.rw [vi b,Value.slice (some (ad0 0)) n c] none,AObj.rw [vi b,Value.slice (some (ad0 0)) n c] none,AObj.rw (vi b::Value.slice (some (ad0 0)) n c::vi (f:Int)::B10 (tmd n) []) none,AObj.rw [vi k] none,AObj.rw [ptr0 3] none,AObj.rw [Value.func (Fn.func (123:FuncId)) ⟨[]⟩ ⟨[ptr0 5]⟩] none,AObj.rw [Value.func (Fn.func (61:FuncId)) ⟨[ptr0 3]⟩ ⟨[]⟩] none,AObj.loop LoopState.ready none ⟨[Value.agg ⟨[vi b,Value.slice (some (ad0 0)) n c]⟩,ptr0 1,vi (0:Int),vi (0:Int),ptr0 3,vi (0:Int),ptr0 4,Value.tuple ⟨[ptr0 3,vi (0:Int)]⟩,Value.agg ⟨[vi b,Value.slice (some (ad0 0)) n c]⟩,Value.tuple ⟨[ptr0 3,vi (0:Int)]⟩,ptr0 3,vi (0:Int),vi (0:Int),Value.bool false,junk,ptr0 3,Value.func (Fn.func (122:FuncId)) ⟨[]⟩ ⟨[ptr0 6,ptr0 7]⟩,junk,junk,junk,junk]⟩ ⟨[17]⟩ Code.skip y1c_c0,AObj.rw [Value.func (Fn.yield 8) ⟨[]⟩ ⟨[]⟩] none,AObj.loop LoopState.ready none ⟨[Value.func (Fn.yield 8) ⟨[]⟩ ⟨[]⟩,ptr0 6,ptr0 7,ptr0 9,junk,Value.func (Fn.func (123:FuncId)) ⟨[]⟩ ⟨[ptr0 5]⟩,junk,junk,junk,junk,junk,junk,junk,junk,junk,junk]⟩ ⟨[6]⟩ y1c_c1 y1c_c2,AObj.rw [Value.func (Fn.yield 10) ⟨[]⟩ ⟨[]⟩] none,AObj.rw [ptr0 3] none,AObj.loop LoopState.busy none ⟨[Value.func (Fn.yield 10) ⟨[]⟩ ⟨[]⟩,ptr0 5,ptr0 11,junk,ptr0 3,Value.func (Fn.func (133:FuncId)) ⟨[]⟩ ⟨[ptr0 12]⟩,junk,junk,junk,junk,junk,junk,junk]⟩ ⟨[6]⟩ y1d_c2 y1d_c3,AObj.rw (List.map (Value.int IntKind.i64) m) (some 1)]∧l.length=n * 2∧n≤10)∧(false=true→Ob (Value.bool false=Value.bool true∧[AObj.ro (List.map (Value.int IntKind.i64) l),AObj.rw [vi b,Value.slice (some (ad0 0)) n c] none,AObj.rw [vi b,Value.slice (some (ad0 0)) n c] none,AObj.rw (vi b::Value.slice (some (ad0 0)) n c::vi (f:Int)::B10 (tmd n) []) none,AObj.rw [vi (nxC b n l m k)] none,AObj.rw [ptr0 3] none,AObj.rw [Value.func (Fn.func (123:FuncId)) ⟨[]⟩ ⟨[ptr0 5]⟩] none,AObj.rw [Value.func (Fn.func (61:FuncId)) ⟨[ptr0 3]⟩ ⟨[]⟩] none,AObj.loop LoopState.ready none ⟨[Value.agg ⟨[vi b,Value.slice (some (ad0 0)) n c]⟩,ptr0 1,vi (0:Int),vi (0:Int),ptr0 3,vi (0:Int),ptr0 4,Value.tuple ⟨[ptr0 3,vi (0:Int)]⟩,Value.agg ⟨[vi b,Value.slice (some (ad0 0)) n c]⟩,Value.tuple ⟨[ptr0 3,vi (0:Int)]⟩,ptr0 3,vi (0:Int),vi (0:Int),Value.bool false,junk,ptr0 3,Value.func (Fn.func (122:FuncId)) ⟨[]⟩ ⟨[ptr0 6,ptr0 7]⟩,junk,junk,junk,junk]⟩ ⟨[17]⟩ Code.skip y1c_c0,AObj.rw [Value.func (Fn.yield 8) ⟨[]⟩ ⟨[]⟩] none,AObj.loop LoopState.ready none ⟨[Value.func (Fn.yield 8) ⟨[]⟩ ⟨[]⟩,ptr0 6,ptr0 7,ptr0 9,junk,Value.func (Fn.func (123:FuncId)) ⟨[]⟩ ⟨[ptr0 5]⟩,junk,junk,junk,junk,junk,junk,junk,junk,junk,junk]⟩ ⟨[6]⟩ y1c_c1 y1c_c2,AObj.rw [Value.func (Fn.yield 10) ⟨[]⟩ ⟨[]⟩] none,AObj.rw [ptr0 3] none,AObj.loop LoopState.done (some Code.ret) ⟨[Value.func (Fn.yield 10) ⟨[]⟩ ⟨[]⟩,ptr0 5,ptr0 11,junk,ptr0 3,Value.func (Fn.func (133:FuncId)) ⟨[]⟩ ⟨[ptr0 12]⟩,junk,junk,junk,junk,junk,junk,junk]⟩ ⟨[6]⟩ y1d_c2 y1d_c3,AObj.rw (List.map (Value.int IntKind.i64) m) (some 1)]=[AObj.ro (List.map (Value.int IntKind.i64) l),AObj.rw [vi b,Value.slice (some (ad0 0)) n c] none,AObj.rw [vi b,Value.slice (some (ad0 0)) n c] none,AObj.rw (vi b::Value.slice (some (ad0 0)) n c::vi (f:Int)::B10 (tmd n) []) none,AObj.rw [vi (nxC b n l m k)] none,AObj.rw [ptr0 3] none,AObj.rw [Value.func (Fn.func (123:FuncId)) ⟨[]⟩ ⟨[ptr0 5]⟩] none,AObj.rw [Value.func (Fn.func (61:FuncId)) ⟨[ptr0 3]⟩ ⟨[]⟩] none,AObj.loop LoopState.ready none ⟨[Value.agg ⟨[vi b,Value.slice (some (ad0 0)) n c]⟩,ptr0 1,vi (0:Int),vi (0:Int),ptr0 3,vi (0:Int),ptr0 4,Value.tuple ⟨[ptr0 3,vi (0:Int)]⟩,Value.agg ⟨[vi b,Value.slice (some (ad0 0)) n c]⟩,Value.tuple ⟨[ptr0 3,vi (0:Int)]⟩,ptr0 3,vi (0:Int),vi (0:Int),Value.bool false,junk,ptr0 3,Value.func (Fn.func (122:FuncId)) ⟨[]⟩ ⟨[ptr0 6,ptr0 7]⟩,junk,junk,junk,junk]⟩ ⟨[17]⟩ Code.skip y1c_c0,AObj.rw [Value.func (Fn.yield 8) ⟨[]⟩ ⟨[]⟩] none,AObj.loop LoopState.ready none ⟨[Value.func (Fn.yield 8) ⟨[]⟩ ⟨[]⟩,ptr0 6,ptr0 7,ptr0 9,junk,Value.func (Fn.func (123:FuncId)) ⟨[]⟩ ⟨[ptr0 5]⟩,junk,junk,junk,junk,junk,junk,junk,junk,junk,junk]⟩ ⟨[6]⟩ y1c_c1 y1c_c2,AObj.rw [Value.func (Fn.yield 10) ⟨[]⟩ ⟨[]⟩] none,AObj.rw [ptr0 3] none,AObj.loop LoopState.ready none ⟨[Value.func (Fn.yield 10) ⟨[]⟩ ⟨[]⟩,ptr0 5,ptr0 11,junk,ptr0 3,Value.func (Fn.func (133:FuncId)) ⟨[]⟩ ⟨[ptr0 12]⟩,junk,junk,junk,junk,junk,junk,junk]⟩ ⟨[6]⟩ y1d_c2 y1d_c3,AObj.rw (List.map (Value.int IntKind.i64) m) (some 1)]))∧(false=false→Ob (Value.bool true=Value.bool true∧[AObj.ro (List.map (Value.int IntKind.i64) l),AObj.rw [vi b,Value.slice (some (ad0 0)) n c] none,AObj.rw [vi b,Value.slice (some (ad0 0)) n c] none,AObj.rw (vi b::Value.slice (some (ad0 0)) n c::vi (f:Int)::B10 (tmd n) []) none,AObj.rw [vi (nxC b n l m k)] none,AObj.rw [ptr0 3] none,AObj.rw [Value.func (Fn.func (123:FuncId)) ⟨[]⟩ ⟨[ptr0 5]⟩] none,AObj.rw [Value.func (Fn.func (61:FuncId)) ⟨[ptr0 3]⟩ ⟨[]⟩] none,AObj.loop LoopState.ready none ⟨[Value.agg ⟨[vi b,Value.slice (some (ad0 0)) n c]⟩,ptr0 1,vi (0:Int),vi (0:Int),ptr0 3,vi (0:Int),ptr0 4,Value.tuple ⟨[ptr0 3,vi (0:Int)]⟩,Value.agg ⟨[vi b,Value.slice (some (ad0 0)) n c]⟩,Value.tuple ⟨[ptr0 3,vi (0:Int)]⟩,ptr0 3,vi (0:Int),vi (0:Int),Value.bool false,junk,ptr0 3,Value.func (Fn.func (122:FuncId)) ⟨[]⟩ ⟨[ptr0 6,ptr0 7]⟩,junk,junk,junk,junk]⟩ ⟨[17]⟩ Code.skip y1c_c0,AObj.rw [Value.func (Fn.yield 8) ⟨[]⟩ ⟨[]⟩] none,AObj.loop LoopState.ready none ⟨[Value.func (Fn.yield 8) ⟨[]⟩ ⟨[]⟩,ptr0 6,ptr0 7,ptr0 9,junk,Value.func (Fn.func (123:FuncId)) ⟨[]⟩ ⟨[ptr0 5]⟩,junk,junk,junk,junk,junk,junk,junk,junk,junk,junk]⟩ ⟨[6]⟩ y1c_c1 y1c_c2,AObj.rw [Value.func (Fn.yield 10) ⟨[]⟩ ⟨[]⟩] none,AObj.rw [ptr0 3] none,AObj.loop LoopState.ready none ⟨[Value.func (Fn.yield 10) ⟨[]⟩ ⟨[]⟩,ptr0 5,ptr0 11,junk,ptr0 3,Value.func (Fn.func (133:FuncId)) ⟨[]⟩ ⟨[ptr0 12]⟩,junk,junk,junk,junk,junk,junk,junk]⟩ ⟨[6]⟩ y1d_c2 y1d_c3,AObj.rw (List.map (Value.int IntKind.i64) m) (some 1)]=[AObj.ro (List.map (Value.int IntKind.i64) l),AObj.rw [vi b,Value.slice (some (ad0 0)) n c] none,AObj.rw [vi b,Value.slice (some (ad0 0)) n c] none,AObj.rw (vi b::Value.slice (some (ad0 0)) n c::vi (f:Int)::B10 (tmd n) []) none,AObj.rw [vi (nxC b n l m k)] none,AObj.rw [ptr0 3] none,AObj.rw [Value.func (Fn.func (123:FuncId)) ⟨[]⟩ ⟨[ptr0 5]⟩] none,AObj.rw [Value.func (Fn.func (61:FuncId)) ⟨[ptr0 3]⟩ ⟨[]⟩] none,AObj.loop LoopState.ready none ⟨[Value.agg ⟨[vi b,Value.slice (some (ad0 0)) n c]⟩,ptr0 1,vi (0:Int),vi (0:Int),ptr0 3,vi (0:Int),ptr0 4,Value.tuple ⟨[ptr0 3,vi (0:Int)]⟩,Value.agg ⟨[vi b,Value.slice (some (ad0 0)) n c]⟩,Value.tuple ⟨[ptr0 3,vi (0:Int)]⟩,ptr0 3,vi (0:Int),vi (0:Int),Value.bool false,junk,ptr0 3,Value.func (Fn.func (122:FuncId)) ⟨[]⟩ ⟨[ptr0 6,ptr0 7]⟩,junk,junk,junk,junk]⟩ ⟨[17]⟩ Code.skip y1c_c0,AObj.rw [Value.func (Fn.yield 8) ⟨[]⟩ ⟨[]⟩] none,AObj.loop LoopState.ready none ⟨[Value.func (Fn.yield 8) ⟨[]⟩ ⟨[]⟩,ptr0 6,ptr0 7,ptr0 9,junk,Value.func (Fn.func (123:FuncId)) ⟨[]⟩ ⟨[ptr0 5]⟩,junk,junk,junk,junk,junk,junk,junk,junk,junk,junk]⟩ ⟨[6]⟩ y1c_c1 y1c_c2,AObj.rw [Value.func (Fn.yield 10) ⟨[]⟩ ⟨[]⟩] none,AObj.rw [ptr0 3] none,AObj.loop LoopState.ready none ⟨[Value.func (Fn.yield 10) ⟨[]⟩ ⟨[]⟩,ptr0 5,ptr0 11,junk,ptr0 3,Value.func (Fn.func (133:FuncId)) ⟨[]⟩ ⟨[ptr0 12]⟩,junk,junk,junk,junk,junk,junk,junk]⟩ ⟨[6]⟩ y1d_c2 y1d_c3,AObj.rw (List.map (Value.int IntKind.i64) m) (some 1)]))
theorem y2C_eq : y2C = fun (b : Int) (n c f : Nat) (l m : List Int) (k : Int) => ycT (ycInY Try.prog (y2cE b n c f l m) (y1cYt b n c f l m k) (fun _ => none) 13 [newS 14 n] (EGc b n c f l m .ready k)) (fun v H' => Ob (v = .bool true∧H' = EGc b n c f l m .ready (nxC b n l m k))) := by kernel_rfl
theorem y2C_ok (b : Int) (n c f : Nat) (l m : List Int) (k : Int) (hl : l.length = n * 2) (hn : n≤10) (hr : rngP b n l) (hm : m.length = n) (ha : ∀ j,j < m.length→0≤m.getD j 0∧m.getD j 0 < n) : y2C b n c f l m k := by
 unfold y2C
 exact ⟨⟨⟨rfl,rfl⟩,rfl,hm.symm,hl,hn,hr,by omega,ha⟩,⟨rfl,by kernel_rfl,hl,hn⟩,fun h => absurd h (by decide),fun _ => ⟨rfl,by kernel_rfl⟩⟩
theorem y1cYt_ok (b : Int) (n c f : Nat) (l m : List Int) (k : Int) : YtOk Try.prog (y1cYt b n c f l m k) := by
 intro b' args H φ v H' lg h hφ
 unfold y1cYt at h
 split at h <;> cases h
 rename_i hb
 obtain rfl := Nat.eq_of_beq_eq_true hb
 obtain ⟨rfl,rfl,h1,h2⟩ := hφ
 refine ⟨y1c_yield b n c f l m _ k h1 h2,by rw [EGc_len,EGc_len]; omega,fun b1 h4 h5 => ?_⟩
 rw [EGc_len] at h4
 have h8 : b1 ≠ 4 := fun e => h5 (by subst e; simp)
 unfold EGc EHc
 rcases b1 with _ | _ | _ | _ | _ | _ | _ | _ | _ | _ | _ | _ | _ | _ | _ | b1 <;> first | rfl | omega
theorem y2cE_ok (b : Int) (n c f : Nat) (l m : List Int) : VOk Try.prog (y2cE b n c f l m) := VOk.ofCt (CtOk.none.add (tp3_ok b n c f l m))
theorem y2c_yield (b : Int) (n c f : Nat) (l m : List Int) (k : Int) (hl : l.length = n * 2) (hn : n≤10) (hr : rngP b n l) (hm : m.length = n) (ha : ∀ j,j < m.length→0≤m.getD j 0∧m.getD j 0 < n) :
   Yield Try.prog 13 [newS 14 n] (EGc b n c f l m .ready k) fun v H' => v = .bool true∧H' = EGc b n c f l m .ready (nxC b n l m k) := by
 have h := y2C_ok b n c f l m k hl hn hr hm ha
 rw [y2C_eq] at h
 unfold ycT at h
 split at h
 · rename_i T hT
   exact (ycIn_okY (y2cE_ok b n c f l m) (y1cYt_ok b n c f l m k) mixed _ _ _ _ hT _ h).mono fun v H' k => k.out
 · exact h.elim
end Go.Pier.Rd
namespace Go.Pier.Rd
open Go Go.Pier Go.Proofs
noncomputable def fdC (b : Int) (n : Nat) (l : List Int) (k : Int) (r : List (List Int)) : Int := foldC b l (inTB n l) k r
noncomputable def ECL (b : Int) (n c f : Nat) (l m : List Int) (k : Int) : Heap := EGc b n c f l m .ready k
noncomputable def gcCc (b:Int) (n c f:Nat) (l m:List Int) (κ:Nat):Cc := fun fn args H => match Nat.beq fn 134 with
 | true => match Nat.beq H.length 17 with
   | true => some fun Q => ∃ (m2:List Int) (f1 t1:Nat) (k:Int) (o15:AObj),Ob (args=[ptr0 3,newS 16 m2.length,vi f1,vi t1,yv 13]∧H=ECL b n c f l m k++[o15,rws m2]∧Begun n f1 t1 m2∧f1+(n-t1)+1=κ) ∧
       Q (.bool true) (ECL b n c f l m (fdC b n l k (rds n (κ-1) f1 t1 m2))++[o15,rws m2])
   | false => match Nat.beq H.length 19 with
     | true => some fun Q => ∃ (m2:List Int) (f1 t1:Nat) (k:Int) (o15 o16 o17:AObj),Ob (args=[ptr0 3,newS 18 m2.length,vi f1,vi t1,yv 13]∧H=ECL b n c f l m k++[o15,o16,o17,rws m2]∧Begun n f1 t1 m2∧f1+(n-t1)+1=κ) ∧
         Q (.bool true) (ECL b n c f l m (fdC b n l k (rds n (κ-1) f1 t1 m2))++[o15,o16,o17,rws m2])
     | false => none
 | false => none
noncomputable def gcYc (b:Int) (n c f:Nat) (l m:List Int) (k:Int):Yc := fun b1 args H => match Nat.beq b1 13 with
 | true => some fun Q => Ob (args=[newS 14 n]∧H=ECL b n c f l m k∧Whole n m)∧Q (.bool true) (ECL b n c f l m (nxC b n l m k))
 | false => none
noncomputable def gcE (b : Int) (n c f : Nat) (l m : List Int) (k : Int) (κ : Nat) : VEnv := { orc := orcOr (orcLim Try.prog) prO,cc := gcCc b n c f l m κ,yc := gcYc b n c f l m k }
noncomputable def gcV0 (b:Int) (n:Nat) (c:Nat):Array Value := ⟨[Value.agg ⟨[vi b,Value.slice (some (ad0 0)) n c]⟩,ptr0 1,vi (0:Int),vi (0:Int),ptr0 3,vi (0:Int),ptr0 4,Value.tuple ⟨[ptr0 3,vi (0:Int)]⟩,Value.agg ⟨[vi b,Value.slice (some (ad0 0)) n c]⟩,Value.tuple ⟨[ptr0 3,vi (0:Int)]⟩,ptr0 3,vi (0:Int),vi (0:Int),Value.bool false,junk,ptr0 3,Value.func (Fn.func (122:FuncId)) ⟨[]⟩ ⟨[ptr0 6,ptr0 7]⟩,junk,junk,junk,junk]⟩
noncomputable def gcV1  : Array Value := { toList := [Value.func (Fn.yield (8 : Nat)) { toList := [] } { toList := [] },ptr0 6,ptr0 7,ptr0 9,junk,Value.func (Fn.func (123 : FuncId)) { toList := [] } { toList := [ptr0 5] },junk,junk,junk,junk,junk,junk,junk,junk,junk,junk] }
noncomputable def gcV2  : Array Value := { toList := [Value.func (Fn.yield (10 : Nat)) { toList := [] } { toList := [] },ptr0 5,ptr0 11,junk,ptr0 3,Value.func (Fn.func (133 : FuncId)) { toList := [] } { toList := [ptr0 12] },junk,junk,junk,junk,junk,junk,junk] }
noncomputable def gcV3 (b:Int) (n:Nat) (c:Nat) (f:Nat) (l:List Int) (m:List Int) (κ:Nat) (f1:Nat) (k_1:Int) (m2:List Int) (o15:AObj) (t1:Nat):List AObj := [AObj.ro (List.map (Value.int IntKind.i64) l),AObj.rw [vi b,Value.slice (some (ad0 0)) n c] none,AObj.rw [vi b,Value.slice (some (ad0 0)) n c] none,AObj.rw (vi b::Value.slice (some (ad0 0)) n c::vi (f:Int)::B10 (tmd n) []) none,AObj.rw [vi (fdC b n l k_1 (rds n (κ-1) f1 t1 m2))] none,AObj.rw [ptr0 3] none,AObj.rw [Value.func (Fn.func (123:FuncId)) ⟨[]⟩ ⟨[ptr0 5]⟩] none,AObj.rw [Value.func (Fn.func (61:FuncId)) ⟨[ptr0 3]⟩ ⟨[]⟩] none,AObj.loop LoopState.ready none (gcV0 b n c) ⟨[17]⟩ Code.skip y1c_c0,AObj.rw [Value.func (Fn.yield 8) ⟨[]⟩ ⟨[]⟩] none,AObj.loop LoopState.ready none gcV1 ⟨[6]⟩ y1c_c1 y1c_c2,AObj.rw [Value.func (Fn.yield 10) ⟨[]⟩ ⟨[]⟩] none,AObj.rw [ptr0 3] none,AObj.loop LoopState.ready none gcV2 ⟨[6]⟩ y1d_c2 y1d_c3,AObj.rw (List.map (Value.int IntKind.i64) m) (some 1),o15,AObj.rw (List.map (Value.int IntKind.i64) m2) (some 1)]
noncomputable def gcV4 (b:Int) (n:Nat) (c:Nat) (f:Nat) (l:List Int) (m:List Int) (k:Int):List AObj := [AObj.ro (List.map (Value.int IntKind.i64) l),AObj.rw [vi b,Value.slice (some (ad0 0)) n c] none,AObj.rw [vi b,Value.slice (some (ad0 0)) n c] none,AObj.rw (vi b::Value.slice (some (ad0 0)) n c::vi (f:Int)::B10 (tmd n) []) none,AObj.rw [vi k] none,AObj.rw [ptr0 3] none,AObj.rw [Value.func (Fn.func (123:FuncId)) ⟨[]⟩ ⟨[ptr0 5]⟩] none,AObj.rw [Value.func (Fn.func (61:FuncId)) ⟨[ptr0 3]⟩ ⟨[]⟩] none,AObj.loop LoopState.ready none (gcV0 b n c) ⟨[17]⟩ Code.skip y1c_c0,AObj.rw [Value.func (Fn.yield 8) ⟨[]⟩ ⟨[]⟩] none,AObj.loop LoopState.ready none gcV1 ⟨[6]⟩ y1c_c1 y1c_c2,AObj.rw [Value.func (Fn.yield 10) ⟨[]⟩ ⟨[]⟩] none,AObj.rw [ptr0 3] none,AObj.loop LoopState.ready none gcV2 ⟨[6]⟩ y1d_c2 y1d_c3,AObj.rw (List.map (Value.int IntKind.i64) m) (some 1)]
noncomputable def gcV5 (b:Int) (n:Nat) (c:Nat) (f:Nat) (l:List Int) (m:List Int) (k_1:Int) (m2:List Int) (o15:AObj):List AObj := [AObj.ro (List.map (Value.int IntKind.i64) l),AObj.rw [vi b,Value.slice (some (ad0 0)) n c] none,AObj.rw [vi b,Value.slice (some (ad0 0)) n c] none,AObj.rw (vi b::Value.slice (some (ad0 0)) n c::vi (f:Int)::B10 (tmd n) []) none,AObj.rw [vi k_1] none,AObj.rw [ptr0 3] none,AObj.rw [Value.func (Fn.func (123:FuncId)) ⟨[]⟩ ⟨[ptr0 5]⟩] none,AObj.rw [Value.func (Fn.func (61:FuncId)) ⟨[ptr0 3]⟩ ⟨[]⟩] none,AObj.loop LoopState.ready none (gcV0 b n c) ⟨[17]⟩ Code.skip y1c_c0,AObj.rw [Value.func (Fn.yield 8) ⟨[]⟩ ⟨[]⟩] none,AObj.loop LoopState.ready none gcV1 ⟨[6]⟩ y1c_c1 y1c_c2,AObj.rw [Value.func (Fn.yield 10) ⟨[]⟩ ⟨[]⟩] none,AObj.rw [ptr0 3] none,AObj.loop LoopState.ready none gcV2 ⟨[6]⟩ y1d_c2 y1d_c3,AObj.rw (List.map (Value.int IntKind.i64) m) (some 1),o15,AObj.rw (List.map (Value.int IntKind.i64) m2) (some 1)]
noncomputable def gcV6 (m:List Int) := (andP (some (0+1≤1∧true=true)) (m.length+1≤1099511627776∧(2 * (m.length+1)+256) * 8≤281474976710656∧1=1∧m.length<m.length+1∧0+m.length * 1≤(List.map (Value.int IntKind.i64) m).length))
noncomputable def gcV7  : List Value := [Value.func (Fn.func (123 : FuncId)) { toList := [] } { toList := [ptr0 5] }]
noncomputable def gcV8  : List Value := [Value.func (Fn.func (61 : FuncId)) { toList := [ptr0 3] } { toList := [] }]
noncomputable def gcV9  : List Value := [Value.func (Fn.yield (10 : Nat)) { toList := [] } { toList := [] }]
noncomputable def gcV10  : List Value := [Value.func (Fn.yield (8 : Nat)) { toList := [] } { toList := [] }]
noncomputable def gcV11 (b:Int) (n:Nat) (c:Nat) (f:Nat) := (vi b::Value.slice (some (ad0 0)) n c::vi (f:Int)::B10 (tmd n) [])
noncomputable def gcV12  := (Value.int IntKind.i64)
noncomputable def gcV13 (b:Int) (n:Nat) (c:Nat):List Value := [vi b,Value.slice (some (ad0 0)) n c]
noncomputable def gcV14  (f1:Nat) (m2:List Int) (t1:Nat):List Value := [ptr0 3,Value.slice (some ⟨16,0,some 0⟩) m2.length 0,vi (f1:Int),vi (t1:Int),Value.func (Fn.yield 13) ⟨[]⟩ ⟨[]⟩]
noncomputable def gcV15 (m:List Int) (t:Nat) := (List.take (m.length * 1) (List.drop 0 (List.map gcV12 m))++[vi (t:Int)])
noncomputable def gcV16 (g:Nat) := (IntKind.i64.wrap ((g:Int)-(1:Int)))
noncomputable def gcV :=
fun (b:Int) (n c f:Nat) (l m:List Int) (k:Int) (κ g t:Nat)↦(((m.length:Int)==(n:Int))=true→Ob ([Value.slice (some ⟨14,0,some 0⟩) m.length 0]=[Value.slice (some ⟨14,0,some 0⟩) n 0]∧(gcV4 b n c f l m k)=(gcV4 b n c f l m k)∧Whole n m)∧True∧Ob (YRc b n c f l m LoopState.ready (fdC b n l k (rds n κ g t m)) (Value.bool true) [AObj.ro (List.map gcV12 l),AObj.rw (gcV13 b n c) none,AObj.rw (gcV13 b n c) none,AObj.rw (gcV11 b n c f) none,AObj.rw [vi (nxC b n l m k)] none,AObj.rw [ptr0 3] none,AObj.rw gcV7 none,AObj.rw gcV8 none,AObj.loop LoopState.ready none (gcV0 b n c) ⟨[17]⟩ Code.skip y1c_c0,AObj.rw gcV10 none,AObj.loop LoopState.ready none gcV1 ⟨[6]⟩ y1c_c1 y1c_c2,AObj.rw gcV9 none,AObj.rw [ptr0 3] none,AObj.loop LoopState.ready none gcV2 ⟨[6]⟩ y1d_c2 y1d_c3,AObj.rw (List.map gcV12 m) (some 1)]))∧(((m.length:Int)==(n:Int))=false→Ob (m.length≤(List.map gcV12 m).length∧(m.length:Int)=(m.length:Int)∧(m.length:Int)=(m.length:Int))∧(decide ((0:Int)<(g:Int))=true→Ob (gcV6 m)∧∃ (m2:List Int),∃ (f1:Nat),∃ (t1:Nat),∃ (k_1:Int),∃ (o15:AObj),Ob ([ptr0 3,Value.slice (some ⟨16,0,some 0⟩) (m.length+1) 0,vi (gcV16 g),vi (t:Int),Value.func (Fn.yield 13) ⟨[]⟩ ⟨[]⟩]=(gcV14 f1 m2 t1)∧[AObj.ro (List.map gcV12 l),AObj.rw (gcV13 b n c) none,AObj.rw (gcV13 b n c) none,AObj.rw (gcV11 b n c f) none,AObj.rw [vi k] none,AObj.rw [ptr0 3] none,AObj.rw gcV7 none,AObj.rw gcV8 none,AObj.loop LoopState.ready none (gcV0 b n c) ⟨[17]⟩ Code.skip y1c_c0,AObj.rw gcV10 none,AObj.loop LoopState.ready none gcV1 ⟨[6]⟩ y1c_c1 y1c_c2,AObj.rw gcV9 none,AObj.rw [ptr0 3] none,AObj.loop LoopState.ready none gcV2 ⟨[6]⟩ y1d_c2 y1d_c3,AObj.rw (List.map gcV12 m) (some 1),AObj.rw [vi (gcV16 g)] none,AObj.rw (List.take (m.length * 1) (List.drop 0 (List.map gcV12 m))++[vi (gcV16 g)]) (some 1)]=(gcV5 b n c f l m k_1 m2 o15)∧Begun n f1 t1 m2∧f1+(n-t1)+1=κ)∧(false=true→True∧Ob (YRc b n c f l m LoopState.ready (fdC b n l k (rds n κ g t m)) (Value.bool false) (gcV3 b n c f l m κ f1 k_1 m2 o15 t1)))∧(false=false→(((t:Int)==(n:Int))=false→Ob (gcV6 m)∧∃ (m2_1:List Int),∃ (f1_1:Nat),∃ (t1_1:Nat),∃ (k_2:Int),∃ (o15_1:AObj),∃ (o16:AObj),∃ (o17:AObj),Ob ([ptr0 3,Value.slice (some ⟨18,0,some 0⟩) (m.length+1) 0,vi (g:Int),vi (IntKind.i64.wrap ((t:Int)+(1:Int))),Value.func (Fn.yield 13) ⟨[]⟩ ⟨[]⟩]=[ptr0 3,Value.slice (some ⟨18,0,some 0⟩) m2_1.length 0,vi (f1_1:Int),vi (t1_1:Int),Value.func (Fn.yield 13) ⟨[]⟩ ⟨[]⟩]∧[AObj.ro (List.map gcV12 l),AObj.rw (gcV13 b n c) none,AObj.rw (gcV13 b n c) none,AObj.rw (gcV11 b n c f) none,AObj.rw [vi (fdC b n l k_1 (rds n (κ-1) f1 t1 m2))] none,AObj.rw [ptr0 3] none,AObj.rw gcV7 none,AObj.rw gcV8 none,AObj.loop LoopState.ready none (gcV0 b n c) ⟨[17]⟩ Code.skip y1c_c0,AObj.rw gcV10 none,AObj.loop LoopState.ready none gcV1 ⟨[6]⟩ y1c_c1 y1c_c2,AObj.rw gcV9 none,AObj.rw [ptr0 3] none,AObj.loop LoopState.ready none gcV2 ⟨[6]⟩ y1d_c2 y1d_c3,AObj.rw (List.map gcV12 m) (some 1),o15,AObj.rw (List.map gcV12 m2) (some 1),AObj.rw [vi (t:Int)] none,AObj.rw (gcV15 m t) (some 1)]=[AObj.ro (List.map gcV12 l),AObj.rw (gcV13 b n c) none,AObj.rw (gcV13 b n c) none,AObj.rw (gcV11 b n c f) none,AObj.rw [vi k_2] none,AObj.rw [ptr0 3] none,AObj.rw gcV7 none,AObj.rw gcV8 none,AObj.loop LoopState.ready none (gcV0 b n c) ⟨[17]⟩ Code.skip y1c_c0,AObj.rw gcV10 none,AObj.loop LoopState.ready none gcV1 ⟨[6]⟩ y1c_c1 y1c_c2,AObj.rw gcV9 none,AObj.rw [ptr0 3] none,AObj.loop LoopState.ready none gcV2 ⟨[6]⟩ y1d_c2 y1d_c3,AObj.rw (List.map gcV12 m) (some 1),o15_1,o16,o17,AObj.rw (List.map gcV12 m2_1) (some 1)]∧Begun n f1_1 t1_1 m2_1∧f1_1+(n-t1_1)+1=κ)∧True∧Ob (YRc b n c f l m LoopState.ready (fdC b n l k (rds n κ g t m)) (Value.bool true) [AObj.ro (List.map gcV12 l),AObj.rw (gcV13 b n c) none,AObj.rw (gcV13 b n c) none,AObj.rw (gcV11 b n c f) none,AObj.rw [vi (fdC b n l k_2 (rds n (κ-1) f1_1 t1_1 m2_1))] none,AObj.rw [ptr0 3] none,AObj.rw gcV7 none,AObj.rw gcV8 none,AObj.loop LoopState.ready none (gcV0 b n c) ⟨[17]⟩ Code.skip y1c_c0,AObj.rw gcV10 none,AObj.loop LoopState.ready none gcV1 ⟨[6]⟩ y1c_c1 y1c_c2,AObj.rw gcV9 none,AObj.rw [ptr0 3] none,AObj.loop LoopState.ready none gcV2 ⟨[6]⟩ y1d_c2 y1d_c3,AObj.rw (List.map gcV12 m) (some 1),o15_1,o16,o17,AObj.rw (List.map gcV12 m2_1) (some 1)]))∧(((t:Int)==(n:Int))=true→True∧Ob (YRc b n c f l m LoopState.ready (fdC b n l k (rds n κ g t m)) (Value.bool true) (gcV3 b n c f l m κ f1 k_1 m2 o15 t1)))))∧(decide ((0:Int)<(g:Int))=false→(((t:Int)==(n:Int))=false→Ob (gcV6 m)∧∃ (m2:List Int),∃ (f1:Nat),∃ (t1:Nat),∃ (k_1:Int),∃ (o15:AObj),Ob ([ptr0 3,Value.slice (some ⟨16,0,some 0⟩) (m.length+1) 0,vi (g:Int),vi (IntKind.i64.wrap ((t:Int)+(1:Int))),Value.func (Fn.yield 13) ⟨[]⟩ ⟨[]⟩]=(gcV14 f1 m2 t1)∧[AObj.ro (List.map gcV12 l),AObj.rw (gcV13 b n c) none,AObj.rw (gcV13 b n c) none,AObj.rw (gcV11 b n c f) none,AObj.rw [vi k] none,AObj.rw [ptr0 3] none,AObj.rw gcV7 none,AObj.rw gcV8 none,AObj.loop LoopState.ready none (gcV0 b n c) ⟨[17]⟩ Code.skip y1c_c0,AObj.rw gcV10 none,AObj.loop LoopState.ready none gcV1 ⟨[6]⟩ y1c_c1 y1c_c2,AObj.rw gcV9 none,AObj.rw [ptr0 3] none,AObj.loop LoopState.ready none gcV2 ⟨[6]⟩ y1d_c2 y1d_c3,AObj.rw (List.map gcV12 m) (some 1),AObj.rw [vi (t:Int)] none,AObj.rw (gcV15 m t) (some 1)]=(gcV5 b n c f l m k_1 m2 o15)∧Begun n f1 t1 m2∧f1+(n-t1)+1=κ)∧True∧Ob (YRc b n c f l m LoopState.ready (fdC b n l k (rds n κ g t m)) (Value.bool true) (gcV3 b n c f l m κ f1 k_1 m2 o15 t1)))∧(((t:Int)==(n:Int))=true→True∧Ob (YRc b n c f l m LoopState.ready (fdC b n l k (rds n κ g t m)) (Value.bool true) (gcV4 b n c f l m k)))))
theorem gcV_eq : gcV = fun (b : Int) (n c f : Nat) (l m : List Int) (k : Int) (κ g t : Nat) => vc Try.prog (gcE b n c f l m k κ) 15 66 true (fun _ => none) grB [] (argFr 0 [ptr0 3,newS 14 m.length,vi g,vi t,yv 13]) (ECL b n c f l m k) (retK Try.prog Try.f134 (YRc b n c f l m .ready (fdC b n l k (rds n κ g t m)))) := by kernel_rfl
theorem fdC_one {b : Int} {n : Nat} {l m : List Int} {k : Int} : fdC b n l k [m] = nxC b n l m k := rfl
theorem fdC_append {b : Int} {n : Nat} {l : List Int} {k : Int} {r r' : List (List Int)} : fdC b n l k (r ++ r') = fdC b n l (fdC b n l k r) r' := foldC_append
theorem gcV_ok (b : Int) (n c f : Nat) (l m : List Int) (k : Int) (κ g t : Nat) (hn : n≤10) (hB : Begun n g t m) (hk : g + (n - t) = κ) : gcV b n c f l m k κ g t := by
 unfold gcV gcV16 gcV15 gcV14 gcV13 gcV12 gcV11 gcV10 gcV9 gcV8 gcV7 gcV6 gcV5 gcV4 gcV3 gcV2 gcV1 gcV0
 simp only [SS,reduceCtorEq,Arg.list,Arg.num,Arg.flag,intOf,andP,Nat.reduceLeDiff,Nat.reduceAdd,Nat.reduceMul,Nat.reduceLT,yv,newS]
 have h1 := hB.len
 have h2 := hB.le
 have w2 : IntKind.i64.wrap ((t : Int) + 1) = ((t + 1 : Nat) : Int) := by rw [wrap_in (by omega) (by omega)]; omega
 refine ⟨fun h => ?_,fun h => ⟨fun hg => ?_,fun hg => ?_⟩⟩
 · obtain rfl : g = 0 := by omega
   obtain rfl : t = n := by omega
   refine ⟨⟨by omega,hB⟩,?_⟩
   rw [show κ = 0 by omega,rds,fdC_one]
   exact ⟨rfl,by kernel_rfl⟩
 · have hg' : 0 < g := by omega
   have hk' : κ = (κ - 1) + 1 := by omega
   have w1 : IntKind.i64.wrap ((g : Int) - 1) = ((g - 1 : Nat) : Int) := by rw [wrap_in (by omega) (by omega)]; omega
   rw [w1]
   refine ⟨by omega,m ++ [((g - 1 : Nat) : Int)],g - 1,t,k,_,⟨⟨by simp,rfl,rfl⟩,⟨rfl,rfl,rfl⟩,hB.left hg',by omega⟩,fun ht => ?_,fun ht => ?_⟩
   · rw [w2]
     have ht' : t < n := by omega
     refine ⟨by omega,m ++ [(t : Int)],g,t + 1,_,_,_,_,⟨⟨by simp,rfl,rfl⟩,⟨rfl,rfl,rfl,rfl,rfl⟩,hB.right ht',by omega⟩,?_⟩
     rw [show rds n κ g t m = rds n (κ - 1) (g - 1) t (m ++ [((g - 1 : Nat) : Int)]) ++ rds n (κ - 1) g (t + 1) (m ++ [(t : Int)]) by conv => lhs; rw [hk',rds,if_pos hg',if_pos ht'],fdC_append]
     exact ⟨rfl,by kernel_rfl⟩
   · have ht' : ¬ t < n := by omega
     rw [show rds n κ g t m = rds n (κ - 1) (g - 1) t (m ++ [((g - 1 : Nat) : Int)]) by conv => lhs; rw [hk',rds,if_pos hg',if_neg ht',List.append_nil]]
     exact ⟨rfl,by kernel_rfl⟩
 · have hg' : ¬ 0 < g := by omega
   have ht' : t < n := by omega
   have hk' : κ = (κ - 1) + 1 := by omega
   rw [w2]
   refine ⟨fun ht => ⟨by omega,m ++ [(t : Int)],g,t + 1,k,_,⟨⟨by simp,rfl,rfl⟩,⟨rfl,rfl,rfl⟩,hB.right ht',by omega⟩,?_⟩,fun ht => by omega⟩
   rw [show rds n κ g t m = rds n (κ - 1) g (t + 1) (m ++ [(t : Int)]) by conv => lhs; rw [hk',rds,if_neg hg',if_pos ht',List.nil_append]]
   exact ⟨rfl,by kernel_rfl⟩
def GrowC (b : Int) (n c f : Nat) (l m : List Int) (k K a t : Int) : Prop :=
 Call Try.prog 134 [ptr0 3,newS 14 m.length,vi a,vi t,yv 13] (ECL b n c f l m k) fun v H' => v = .bool true∧H' = ECL b n c f l m K
theorem ECL_obj {b : Int} {n c f : Nat} {l m : List Int} {k : Int} {L : List Nat} {H : Heap} (h : (ECr b n c f k .ready).map (omap fun c => L.getD c 0) = ECr b n c f k .ready)
   (hH : ∀ (c' : Nat) (o : AObj),c' < 14→(ECL b n c f l m k)[c']? = some o→H[L.getD c' 0]? = some o) (h14 : H[L.getD 14 0]? = some (rws m)) :
   ∀ (c' : Nat) (o : AObj),(ECL b n c f l m k)[c']? = some o→o = .gone∨H[L.getD c' 0]? = some (omap (fun c => L.getD c 0) o) := fun c' o hc => by
 right
 rcases Nat.lt_or_ge c' 14 with h1 | h1
 · refine hH c' _ h1 ?_
   have := EGc_map (l := l) (m := m) h
   unfold ECL at hc ⊢
   conv => lhs; rw [← this]
   rw [List.getElem?_map,hc]; rfl
 · have h2 : c' < 15 := (List.getElem?_eq_some_iff.1 hc).1
   obtain rfl : c' = 14 := by omega
   have e : o = rws m := by cases hc; rfl
   rw [h14,e,rws_omap]
theorem gc_site1 {b : Int} {n c f : Nat} {l m m2 : List Int} {k K a t : Int} {o15 : AObj} (h : GrowC b n c f l m2 k K a t) :
   Call Try.prog 134 [ptr0 3,newS 16 m2.length,vi a,vi t,yv 13] (ECL b n c f l m k ++ [o15,rws m2]) fun v H' => v = .bool true∧H' = ECL b n c f l m K ++ [o15,rws m2] := by
 have hF := EGc_map (l := l) (m := m2) (σ := nameL [0,1,2,3,4,5,6,7,8,9,10,11,12,13,16] 15 17) (b := b) (n := n) (c := c) (f := f) (z := .ready) (k := K) (by kernel_rfl)
 have := (Call.frameG (H := ECL b n c f l m k ++ [o15,rws m2]) (Et := ECL b n c f l m2 k) (Ft := ECL b n c f l m2 K) (N := []) (L := [0,1,2,3,4,5,6,7,8,9,10,11,12,13,16]) (vs := [ptr0 3,newS 16 m2.length,vi a,vi t,yv 13]) rfl rfl (by decide) (getD_lt (by kernel_rfl))
   (ECL_obj (by kernel_rfl) (fun c' o h1 h2 => by
     rcases c' with _ | _ | _ | _ | _ | _ | _ | _ | _ | _ | _ | _ | _ | _ | c' <;> first | exact h2 | omega) rfl)
   (EGc_all (by kernel_rfl) ros_sc rws_sc) (by kernel_rfl) (by kernel_rfl) (h.mono fun v H' hh => ⟨hh.1,by rw [hh.2,List.append_nil]⟩)
   (fun o ho => by
     rw [List.append_nil] at ho
     exact EGc_all (p := fun o => o.nm _) (by kernel_rfl) ros_nm rws_nm o ho)
   (fun o ho => by cases ho) (by kernel_rfl)
   (fun o ho => by
     rw [List.append_nil] at ho
     have h2 := List.mem_map_of_mem (f := omap (nameL [0,1,2,3,4,5,6,7,8,9,10,11,12,13,16] 15 17)) ho
     unfold ECL at h2
     rw [hF] at h2
     exact EGc_all (p := fun o => o.sc 17) (by kernel_rfl) ros_sc rws_sc _ h2) (by kernel_rfl)).1
 refine this.mono fun v H' hh => ⟨hh.1,?_⟩
 rw [hh.2]
 show setG _ _ _ (List.map (omap (nameL [0,1,2,3,4,5,6,7,8,9,10,11,12,13,16] 15 17)) (EGc b n c f l m2 .ready K)) ++ _ = _
 rw [hF]
 kernel_rfl
theorem gc_site2 {b : Int} {n c f : Nat} {l m m2 : List Int} {k K a t : Int} {o15 o16 o17 : AObj} (h : GrowC b n c f l m2 k K a t) :
   Call Try.prog 134 [ptr0 3,newS 18 m2.length,vi a,vi t,yv 13] (ECL b n c f l m k ++ [o15,o16,o17,rws m2]) fun v H' => v = .bool true∧H' = ECL b n c f l m K ++ [o15,o16,o17,rws m2] := by
 have hF := EGc_map (l := l) (m := m2) (σ := nameL [0,1,2,3,4,5,6,7,8,9,10,11,12,13,18] 15 19) (b := b) (n := n) (c := c) (f := f) (z := .ready) (k := K) (by kernel_rfl)
 have := (Call.frameG (H := ECL b n c f l m k ++ [o15,o16,o17,rws m2]) (Et := ECL b n c f l m2 k) (Ft := ECL b n c f l m2 K) (N := []) (L := [0,1,2,3,4,5,6,7,8,9,10,11,12,13,18]) (vs := [ptr0 3,newS 18 m2.length,vi a,vi t,yv 13]) rfl rfl (by decide) (getD_lt (by kernel_rfl))
   (ECL_obj (by kernel_rfl) (fun c' o h1 h2 => by
     rcases c' with _ | _ | _ | _ | _ | _ | _ | _ | _ | _ | _ | _ | _ | _ | c' <;> first | exact h2 | omega) rfl)
   (EGc_all (by kernel_rfl) ros_sc rws_sc) (by kernel_rfl) (by kernel_rfl) (h.mono fun v H' hh => ⟨hh.1,by rw [hh.2,List.append_nil]⟩)
   (fun o ho => by
     rw [List.append_nil] at ho
     exact EGc_all (p := fun o => o.nm _) (by kernel_rfl) ros_nm rws_nm o ho)
   (fun o ho => by cases ho) (by kernel_rfl)
   (fun o ho => by
     rw [List.append_nil] at ho
     have h2 := List.mem_map_of_mem (f := omap (nameL [0,1,2,3,4,5,6,7,8,9,10,11,12,13,18] 15 19)) ho
     unfold ECL at h2
     rw [hF] at h2
     exact EGc_all (p := fun o => o.sc 19) (by kernel_rfl) ros_sc rws_sc _ h2) (by kernel_rfl)).1
 refine this.mono fun v H' hh => ⟨hh.1,?_⟩
 rw [hh.2]
 show setG _ _ _ (List.map (omap (nameL [0,1,2,3,4,5,6,7,8,9,10,11,12,13,18] 15 19)) (EGc b n c f l m2 .ready K)) ++ _ = _
 rw [hF]
 kernel_rfl
theorem gcCc_ok (b : Int) (n c f : Nat) (l m : List Int) (κ : Nat) (h : ∀ (m2 : List Int) (f1 t1 : Nat) (k : Int),Begun n f1 t1 m2→f1 + (n - t1) + 1 = κ→GrowC b n c f l m2 k (fdC b n l k (rds n (κ - 1) f1 t1 m2)) f1 t1) : CcOk Try.prog (gcCc b n c f l m κ) := by
 intro fn args H T hT Q hQ
 unfold gcCc at hT
 split at hT <;> try (cases hT; done)
 rename_i hf
 obtain rfl := Nat.eq_of_beq_eq_true hf
 split at hT
 · cases hT
   obtain ⟨m2,f1,t1,k,o15,hO,hq⟩ := hQ
   obtain ⟨rfl,rfl,h1,h2⟩ := hO.out
   exact (gc_site1 (h m2 f1 t1 k h1 h2)).mono fun v H' ⟨e1,e2⟩ => by subst e1; subst e2; exact hq
 · split at hT <;> cases hT
   obtain ⟨m2,f1,t1,k,o15,o16,o17,hO,hq⟩ := hQ
   obtain ⟨rfl,rfl,h1,h2⟩ := hO.out
   exact (gc_site2 (h m2 f1 t1 k h1 h2)).mono fun v H' ⟨e1,e2⟩ => by subst e1; subst e2; exact hq
theorem gcYc_ok (b : Int) (n c f : Nat) (l m : List Int) (k : Int) (hl : l.length = n * 2) (hn : n≤10) (hr : rngP b n l) : YcOk Try.prog (gcYc b n c f l m k) := by
 intro b1 args H T hT Q hQ
 unfold gcYc at hT
 split at hT <;> cases hT
 rename_i hb
 obtain rfl := Nat.eq_of_beq_eq_true hb
 obtain ⟨hO,hq⟩ := hQ
 obtain ⟨rfl,rfl,hw⟩ := hO.out
 exact (y2c_yield b n c f l m k hl hn hr (whole_len hw) (whole_mem hw)).mono fun v H' ⟨e1,e2⟩ => by subst e1; subst e2; exact hq
theorem growC_go (b : Int) (n c f : Nat) (l : List Int) (hl : l.length = n * 2) (hn : n≤10) (hr : rngP b n l) (κ g t : Nat) (m : List Int) (k : Int) (hB : Begun n g t m) (hk : g + (n - t) = κ) (h : ∀ (m2 : List Int) (f1 t1 : Nat) (k : Int),Begun n f1 t1 m2→f1 + (n - t1) + 1 = κ→GrowC b n c f l m2 k (fdC b n l k (rds n (κ - 1) f1 t1 m2)) f1 t1) : GrowC b n c f l m k (fdC b n l k (rds n κ g t m)) g t := by
 have hv := gcV_ok b n c f l m k κ g t hn hB hk
 rw [gcV_eq] at hv
 have hE : VOk Try.prog (gcE b n c f l m k κ) := ⟨CtOk.none,gcCc_ok b n c f l m κ h,gcYc_ok b n c f l m k hl hn hr,orcOr_ok orcLim_ok prE1_ok.orc⟩
 refine Call.anew (Call.mono (Call.ofVc (H := ECL b n c f l m k) (args := [ptr0 3,newS 14 m.length,vi g,vi t,yv 13]) hE mixed (c := grB) (inv := fun _ => none) (R := YRc b n c f l m .ready (fdC b n l k (rds n κ g t m))) Try.func134 (by kernel_rfl) (cast (by kernel_rfl) hv)) fun v H' hy => ?_)
 exact cut_anew (E := ECL b n c f l m _) EGc_len (EGc_map (by kernel_rfl)) (EGc_all (by kernel_rfl) ros_sc rws_sc) hy.1 hy.2
theorem growC_ok (b : Int) (n c f : Nat) (l : List Int) (hl : l.length = n * 2) (hn : n≤10) (hr : rngP b n l) : ∀ (κ g t : Nat) (m : List Int) (k : Int),Begun n g t m→g + (n - t) = κ→GrowC b n c f l m k (fdC b n l k (rds n κ g t m)) g t := by
 intro κ
 induction κ with
 | zero =>
   intro g t m k hB hk
   exact growC_go b n c f l hl hn hr 0 g t m k hB hk (fun m2 f1 t1 k _ h => by omega)
 | succ κ ih =>
   intro g t m k hB hk
   exact growC_go b n c f l hl hn hr (κ + 1) g t m k hB hk (fun m2 f1 t1 k h1 h2 => by
     rw [Nat.add_sub_cancel]
     exact ih f1 t1 m2 k h1 (by omega))
end Go.Pier.Rd
namespace Go.Pier.Rd
open Go Go.Pier Go.Proofs
noncomputable def EHC (b : Int) (n c f : Nat) (l : List Int) (k : Int) : Heap := EHc b n c f l .ready k
noncomputable def g0cC (b:Int) (n c f:Nat) (l:List Int) (κ:Nat):Cc := fun fn args H => match Nat.beq fn 134 with
 | true => match Nat.beq H.length 16 with
   | true => some fun Q => ∃ (m2:List Int) (f1 t1:Nat) (k:Int) (o14:AObj),Ob (args=[ptr0 3,newS 15 m2.length,vi f1,vi t1,yv 13]∧H=EHC b n c f l k++[o14,rws m2]∧Begun n f1 t1 m2∧f1+(n-t1)+1=κ) ∧
       Q (.bool true) (EHC b n c f l (fdC b n l k (rds n (κ-1) f1 t1 m2))++[o14,rws m2])
   | false => match Nat.beq H.length 18 with
     | true => some fun Q => ∃ (m2:List Int) (f1 t1:Nat) (k:Int) (o14 o15 o16:AObj),Ob (args=[ptr0 3,newS 17 m2.length,vi f1,vi t1,yv 13]∧H=EHC b n c f l k++[o14,o15,o16,rws m2]∧Begun n f1 t1 m2∧f1+(n-t1)+1=κ) ∧
         Q (.bool true) (EHC b n c f l (fdC b n l k (rds n (κ-1) f1 t1 m2))++[o14,o15,o16,rws m2])
     | false => none
 | false => none
noncomputable def g0cE (b : Int) (n c f : Nat) (l : List Int) (κ : Nat) : VEnv := { orc := orcOr (orcLim Try.prog) prO,cc := g0cC b n c f l κ }
def YR0c (b : Int) (n c f : Nat) (l : List Int) (k : Int) (v : Value) (H' : Heap) : Prop := v = .bool true∧H' = EHC b n c f l k ++ H'.drop 14
noncomputable def g0C0 (b:Int) (n:Nat) (c:Nat):Array Value := ⟨[Value.agg ⟨[vi b,Value.slice (some (ad0 0)) n c]⟩,ptr0 1,vi (0:Int),vi (0:Int),ptr0 3,vi (0:Int),ptr0 4,Value.tuple ⟨[ptr0 3,vi (0:Int)]⟩,Value.agg ⟨[vi b,Value.slice (some (ad0 0)) n c]⟩,Value.tuple ⟨[ptr0 3,vi (0:Int)]⟩,ptr0 3,vi (0:Int),vi (0:Int),Value.bool false,junk,ptr0 3,Value.func (Fn.func (122:FuncId)) ⟨[]⟩ ⟨[ptr0 6,ptr0 7]⟩,junk,junk,junk,junk]⟩
noncomputable def g0C1 (b:Int) (n:Nat) (c:Nat) (f:Nat) (l:List Int) (κ:Nat) (f1:Nat) (k_1:Int) (m2:List Int) (o14:AObj) (t1:Nat):List AObj := [AObj.ro (List.map (Value.int IntKind.i64) l),AObj.rw [vi b,Value.slice (some (ad0 0)) n c] none,AObj.rw [vi b,Value.slice (some (ad0 0)) n c] none,AObj.rw (vi b::Value.slice (some (ad0 0)) n c::vi (f:Int)::B10 (tmd n) []) none,AObj.rw [vi (fdC b n l k_1 (rds n (κ-1) f1 t1 m2))] none,AObj.rw [ptr0 3] none,AObj.rw [Value.func (Fn.func (123:FuncId)) ⟨[]⟩ ⟨[ptr0 5]⟩] none,AObj.rw [Value.func (Fn.func (61:FuncId)) ⟨[ptr0 3]⟩ ⟨[]⟩] none,AObj.loop LoopState.ready none (g0C0 b n c) ⟨[17]⟩ Code.skip y1c_c0,AObj.rw [Value.func (Fn.yield 8) ⟨[]⟩ ⟨[]⟩] none,AObj.loop LoopState.ready none ⟨[Value.func (Fn.yield 8) ⟨[]⟩ ⟨[]⟩,ptr0 6,ptr0 7,ptr0 9,junk,Value.func (Fn.func (123:FuncId)) ⟨[]⟩ ⟨[ptr0 5]⟩,junk,junk,junk,junk,junk,junk,junk,junk,junk,junk]⟩ ⟨[6]⟩ y1c_c1 y1c_c2,AObj.rw [Value.func (Fn.yield 10) ⟨[]⟩ ⟨[]⟩] none,AObj.rw [ptr0 3] none,AObj.loop LoopState.ready none ⟨[Value.func (Fn.yield 10) ⟨[]⟩ ⟨[]⟩,ptr0 5,ptr0 11,junk,ptr0 3,Value.func (Fn.func (133:FuncId)) ⟨[]⟩ ⟨[ptr0 12]⟩,junk,junk,junk,junk,junk,junk,junk]⟩ ⟨[6]⟩ y1d_c2 y1d_c3,o14,AObj.rw (List.map (Value.int IntKind.i64) m2) (some 1)]
noncomputable def g0C2  : Array Value := { toList := [Value.func (Fn.yield (8 : Nat)) { toList := [] } { toList := [] },ptr0 6,ptr0 7,ptr0 9,junk,Value.func (Fn.func (123 : FuncId)) { toList := [] } { toList := [ptr0 5] },junk,junk,junk,junk,junk,junk,junk,junk,junk,junk] }
noncomputable def g0C3  : Array Value := { toList := [Value.func (Fn.yield (10 : Nat)) { toList := [] } { toList := [] },ptr0 5,ptr0 11,junk,ptr0 3,Value.func (Fn.func (133 : FuncId)) { toList := [] } { toList := [ptr0 12] },junk,junk,junk,junk,junk,junk,junk] }
noncomputable def g0C4 (b:Int) (n:Nat) (c:Nat) (f:Nat) (l:List Int) (k_1:Int) (m2:List Int) (o14:AObj):List AObj := [AObj.ro (List.map (Value.int IntKind.i64) l),AObj.rw [vi b,Value.slice (some (ad0 0)) n c] none,AObj.rw [vi b,Value.slice (some (ad0 0)) n c] none,AObj.rw (vi b::Value.slice (some (ad0 0)) n c::vi (f:Int)::B10 (tmd n) []) none,AObj.rw [vi k_1] none,AObj.rw [ptr0 3] none,AObj.rw [Value.func (Fn.func (123:FuncId)) ⟨[]⟩ ⟨[ptr0 5]⟩] none,AObj.rw [Value.func (Fn.func (61:FuncId)) ⟨[ptr0 3]⟩ ⟨[]⟩] none,AObj.loop LoopState.ready none (g0C0 b n c) ⟨[17]⟩ Code.skip y1c_c0,AObj.rw [Value.func (Fn.yield 8) ⟨[]⟩ ⟨[]⟩] none,AObj.loop LoopState.ready none g0C2 ⟨[6]⟩ y1c_c1 y1c_c2,AObj.rw [Value.func (Fn.yield 10) ⟨[]⟩ ⟨[]⟩] none,AObj.rw [ptr0 3] none,AObj.loop LoopState.ready none g0C3 ⟨[6]⟩ y1d_c2 y1d_c3,o14,AObj.rw (List.map (Value.int IntKind.i64) m2) (some 1)]
noncomputable def g0C5  := (andP (some ((0 : Nat) + (1 : Nat)≤(1 : Nat)∧true = true)) ((1 : Nat)≤(1099511627776 : Nat)∧(2064 : Nat)≤(281474976710656 : Nat)∧(1 : Nat) = (1 : Nat)∧(0 : Nat) = (0 : Nat)∧(0 : Nat) < (1 : Nat)))
noncomputable def g0C6  : List Value := [Value.func (Fn.func (123 : FuncId)) { toList := [] } { toList := [ptr0 5] }]
noncomputable def g0C7  : List Value := [Value.func (Fn.func (61 : FuncId)) { toList := [ptr0 3] } { toList := [] }]
noncomputable def g0C8  : List Value := [Value.func (Fn.yield (10 : Nat)) { toList := [] } { toList := [] }]
noncomputable def g0C9  : List Value := [Value.func (Fn.yield (8 : Nat)) { toList := [] } { toList := [] }]
noncomputable def g0C10 (b:Int) (n:Nat) (c:Nat) (f:Nat) := (vi b::Value.slice (some (ad0 0)) n c::vi (f:Int)::B10 (tmd n) [])
noncomputable def g0C11 (b:Int) (n:Nat) (c:Nat):List Value := [vi b,Value.slice (some (ad0 0)) n c]
noncomputable def g0C12  (f1:Nat) (m2:List Int) (t1:Nat):List Value := [ptr0 3,Value.slice (some ⟨15,0,some 0⟩) m2.length 0,vi (f1:Int),vi (t1:Int),Value.func (Fn.yield 13) ⟨[]⟩ ⟨[]⟩]
noncomputable def g0C13 (l:List Int) := (List.map (Value.int IntKind.i64) l)
noncomputable def g0C14 (g:Nat) := (IntKind.i64.wrap ((g:Int)-(1:Int)))
noncomputable def g0C :=
fun (b:Int) (n c f:Nat) (l:List Int) (k:Int) (κ g:Nat)↦(((↑(0:Nat):Int)==(n:Int))=true→False)∧(((↑(0:Nat):Int)==(n:Int))=false→(decide ((0:Int)<(g:Int))=true→Ob g0C5∧∃ (m2:List Int),∃ (f1:Nat),∃ (t1:Nat),∃ (k_1:Int),∃ (o14:AObj),Ob ([ptr0 3,Value.slice (some ⟨15,0,some 0⟩) 1 0,vi (g0C14 g),vi (g:Int),Value.func (Fn.yield 13) ⟨[]⟩ ⟨[]⟩]=(g0C12 f1 m2 t1)∧[AObj.ro (g0C13 l),AObj.rw (g0C11 b n c) none,AObj.rw (g0C11 b n c) none,AObj.rw (g0C10 b n c f) none,AObj.rw [vi k] none,AObj.rw [ptr0 3] none,AObj.rw g0C6 none,AObj.rw g0C7 none,AObj.loop LoopState.ready none (g0C0 b n c) ⟨[17]⟩ Code.skip y1c_c0,AObj.rw g0C9 none,AObj.loop LoopState.ready none g0C2 ⟨[6]⟩ y1c_c1 y1c_c2,AObj.rw g0C8 none,AObj.rw [ptr0 3] none,AObj.loop LoopState.ready none g0C3 ⟨[6]⟩ y1d_c2 y1d_c3,AObj.rw [vi (g0C14 g)] none,AObj.rw [vi (g0C14 g)] (some 1)]=(g0C4 b n c f l k_1 m2 o14)∧Begun n f1 t1 m2∧f1+(n-t1)+1=κ)∧(false=true→True∧Ob (YR0c b n c f l (fdC b n l k (rds n κ g g [])) (Value.bool false) (g0C1 b n c f l κ f1 k_1 m2 o14 t1)))∧(false=false→(((g:Int)==(n:Int))=false→Ob g0C5∧∃ (m2_1:List Int),∃ (f1_1:Nat),∃ (t1_1:Nat),∃ (k_2:Int),∃ (o14_1:AObj),∃ (o15:AObj),∃ (o16:AObj),Ob ([ptr0 3,Value.slice (some ⟨17,0,some 0⟩) 1 0,vi (g:Int),vi (IntKind.i64.wrap ((g:Int)+(1:Int))),Value.func (Fn.yield 13) ⟨[]⟩ ⟨[]⟩]=[ptr0 3,Value.slice (some ⟨17,0,some 0⟩) m2_1.length 0,vi (f1_1:Int),vi (t1_1:Int),Value.func (Fn.yield 13) ⟨[]⟩ ⟨[]⟩]∧[AObj.ro (g0C13 l),AObj.rw (g0C11 b n c) none,AObj.rw (g0C11 b n c) none,AObj.rw (g0C10 b n c f) none,AObj.rw [vi (fdC b n l k_1 (rds n (κ-1) f1 t1 m2))] none,AObj.rw [ptr0 3] none,AObj.rw g0C6 none,AObj.rw g0C7 none,AObj.loop LoopState.ready none (g0C0 b n c) ⟨[17]⟩ Code.skip y1c_c0,AObj.rw g0C9 none,AObj.loop LoopState.ready none g0C2 ⟨[6]⟩ y1c_c1 y1c_c2,AObj.rw g0C8 none,AObj.rw [ptr0 3] none,AObj.loop LoopState.ready none g0C3 ⟨[6]⟩ y1d_c2 y1d_c3,o14,AObj.rw (List.map (Value.int IntKind.i64) m2) (some 1),AObj.rw [vi (g:Int)] none,AObj.rw [vi (g:Int)] (some 1)]=[AObj.ro (g0C13 l),AObj.rw (g0C11 b n c) none,AObj.rw (g0C11 b n c) none,AObj.rw (g0C10 b n c f) none,AObj.rw [vi k_2] none,AObj.rw [ptr0 3] none,AObj.rw g0C6 none,AObj.rw g0C7 none,AObj.loop LoopState.ready none (g0C0 b n c) ⟨[17]⟩ Code.skip y1c_c0,AObj.rw g0C9 none,AObj.loop LoopState.ready none g0C2 ⟨[6]⟩ y1c_c1 y1c_c2,AObj.rw g0C8 none,AObj.rw [ptr0 3] none,AObj.loop LoopState.ready none g0C3 ⟨[6]⟩ y1d_c2 y1d_c3,o14_1,o15,o16,AObj.rw (List.map (Value.int IntKind.i64) m2_1) (some 1)]∧Begun n f1_1 t1_1 m2_1∧f1_1+(n-t1_1)+1=κ)∧True∧Ob (YR0c b n c f l (fdC b n l k (rds n κ g g [])) (Value.bool true) [AObj.ro (g0C13 l),AObj.rw (g0C11 b n c) none,AObj.rw (g0C11 b n c) none,AObj.rw (g0C10 b n c f) none,AObj.rw [vi (fdC b n l k_2 (rds n (κ-1) f1_1 t1_1 m2_1))] none,AObj.rw [ptr0 3] none,AObj.rw g0C6 none,AObj.rw g0C7 none,AObj.loop LoopState.ready none (g0C0 b n c) ⟨[17]⟩ Code.skip y1c_c0,AObj.rw g0C9 none,AObj.loop LoopState.ready none g0C2 ⟨[6]⟩ y1c_c1 y1c_c2,AObj.rw g0C8 none,AObj.rw [ptr0 3] none,AObj.loop LoopState.ready none g0C3 ⟨[6]⟩ y1d_c2 y1d_c3,o14_1,o15,o16,AObj.rw (List.map (Value.int IntKind.i64) m2_1) (some 1)]))∧(((g:Int)==(n:Int))=true→True∧Ob (YR0c b n c f l (fdC b n l k (rds n κ g g [])) (Value.bool true) (g0C1 b n c f l κ f1 k_1 m2 o14 t1)))))∧(decide ((0:Int)<(g:Int))=false→(((g:Int)==(n:Int))=false→Ob g0C5∧∃ (m2:List Int),∃ (f1:Nat),∃ (t1:Nat),∃ (k_1:Int),∃ (o14:AObj),Ob ([ptr0 3,Value.slice (some ⟨15,0,some 0⟩) 1 0,vi (g:Int),vi (IntKind.i64.wrap ((g:Int)+(1:Int))),Value.func (Fn.yield 13) ⟨[]⟩ ⟨[]⟩]=(g0C12 f1 m2 t1)∧[AObj.ro (g0C13 l),AObj.rw (g0C11 b n c) none,AObj.rw (g0C11 b n c) none,AObj.rw (g0C10 b n c f) none,AObj.rw [vi k] none,AObj.rw [ptr0 3] none,AObj.rw g0C6 none,AObj.rw g0C7 none,AObj.loop LoopState.ready none (g0C0 b n c) ⟨[17]⟩ Code.skip y1c_c0,AObj.rw g0C9 none,AObj.loop LoopState.ready none g0C2 ⟨[6]⟩ y1c_c1 y1c_c2,AObj.rw g0C8 none,AObj.rw [ptr0 3] none,AObj.loop LoopState.ready none g0C3 ⟨[6]⟩ y1d_c2 y1d_c3,AObj.rw [vi (g:Int)] none,AObj.rw [vi (g:Int)] (some 1)]=(g0C4 b n c f l k_1 m2 o14)∧Begun n f1 t1 m2∧f1+(n-t1)+1=κ)∧True∧Ob (YR0c b n c f l (fdC b n l k (rds n κ g g [])) (Value.bool true) (g0C1 b n c f l κ f1 k_1 m2 o14 t1)))∧(((g:Int)==(n:Int))=true→True∧Ob (YR0c b n c f l (fdC b n l k (rds n κ g g [])) (Value.bool true) [AObj.ro (g0C13 l),AObj.rw (g0C11 b n c) none,AObj.rw (g0C11 b n c) none,AObj.rw (g0C10 b n c f) none,AObj.rw [vi k] none,AObj.rw [ptr0 3] none,AObj.rw g0C6 none,AObj.rw g0C7 none,AObj.loop LoopState.ready none (g0C0 b n c) ⟨[17]⟩ Code.skip y1c_c0,AObj.rw g0C9 none,AObj.loop LoopState.ready none g0C2 ⟨[6]⟩ y1c_c1 y1c_c2,AObj.rw g0C8 none,AObj.rw [ptr0 3] none,AObj.loop LoopState.ready none g0C3 ⟨[6]⟩ y1d_c2 y1d_c3]))))
theorem g0C_eq : g0C = fun (b : Int) (n c f : Nat) (l : List Int) (k : Int) (κ g : Nat) => vc Try.prog (g0cE b n c f l κ) 14 66 true (fun _ => none) grB [] (argFr 0 [ptr0 3,nilS,vi g,vi g,yv 13]) (EHC b n c f l k) (retK Try.prog Try.f134 (YR0c b n c f l (fdC b n l k (rds n κ g g [])))) := by kernel_rfl
theorem g0C_ok (b : Int) (n c f : Nat) (l : List Int) (k : Int) (κ g : Nat) (hn : n≤10) (hn1 : 1≤n) (hg : g≤n) (hk : g + (n - g) = κ) : g0C b n c f l k κ g := by
 unfold g0C g0C14 g0C13 g0C12 g0C11 g0C10 g0C9 g0C8 g0C7 g0C6 g0C5 g0C4 g0C3 g0C2 g0C1 g0C0
 simp only [SS,reduceCtorEq,Arg.list,Arg.num,Arg.flag,intOf,andP,Nat.reduceLeDiff,Nat.reduceAdd,Nat.reduceMul,Nat.reduceLT,yv,newS]
 have hB := begun_nil hg
 have hk' : κ = (κ - 1) + 1 := by omega
 have w2 : IntKind.i64.wrap ((g : Int) + 1) = ((g + 1 : Nat) : Int) := by rw [wrap_in (by omega) (by omega)]; omega
 refine ⟨fun h => by omega,fun h => ⟨fun hg => ?_,fun hg => ?_⟩⟩
 · have hg' : 0 < g := by omega
   have w1 : IntKind.i64.wrap ((g : Int) - 1) = ((g - 1 : Nat) : Int) := by rw [wrap_in (by omega) (by omega)]; omega
   rw [w1]
   refine ⟨[((g - 1 : Nat) : Int)],g - 1,g,k,_,⟨⟨rfl,rfl,rfl⟩,⟨rfl,rfl,rfl⟩,hB.left hg',by omega⟩,fun ht => ?_,fun ht => ?_⟩
   · rw [w2]
     have ht' : g < n := by omega
     refine ⟨[(g : Int)],g,g + 1,_,_,_,_,⟨⟨rfl,rfl,rfl⟩,⟨rfl,rfl,rfl,rfl,rfl⟩,hB.right ht',by omega⟩,?_⟩
     rw [show rds n κ g g [] = rds n (κ - 1) (g - 1) g [((g - 1 : Nat) : Int)] ++ rds n (κ - 1) g (g + 1) [(g : Int)] by conv => lhs; rw [hk',rds,if_pos hg',if_pos ht',List.nil_append,List.nil_append],fdC_append]
     exact ⟨rfl,by kernel_rfl⟩
   · have ht' : ¬ g < n := by omega
     rw [show rds n κ g g [] = rds n (κ - 1) (g - 1) g [((g - 1 : Nat) : Int)] by conv => lhs; rw [hk',rds,if_pos hg',if_neg ht',List.append_nil,List.nil_append]]
     exact ⟨rfl,by kernel_rfl⟩
 · have hg' : ¬ 0 < g := by omega
   have ht' : g < n := by omega
   rw [w2]
   refine ⟨fun ht => ⟨[(g : Int)],g,g + 1,k,_,⟨⟨rfl,rfl,rfl⟩,⟨rfl,rfl,rfl⟩,hB.right ht',by omega⟩,?_⟩,fun ht => by omega⟩
   rw [show rds n κ g g [] = rds n (κ - 1) g (g + 1) [(g : Int)] by conv => lhs; rw [hk',rds,if_neg hg',if_pos ht',List.nil_append,List.nil_append]]
   exact ⟨rfl,by kernel_rfl⟩
theorem EHC_obj {b : Int} {n c f : Nat} {l m : List Int} {k : Int} {L : List Nat} {H : Heap} (h : (ECr b n c f k .ready).map (omap fun c => L.getD c 0) = ECr b n c f k .ready)
   (hH : ∀ (c' : Nat) (o : AObj),c' < 14→(EHC b n c f l k)[c']? = some o→H[L.getD c' 0]? = some o) (h14 : H[L.getD 14 0]? = some (rws m)) :
   ∀ (c' : Nat) (o : AObj),(ECL b n c f l m k)[c']? = some o→o = .gone∨H[L.getD c' 0]? = some (omap (fun c => L.getD c 0) o) :=
 ECL_obj h (fun c' o h1 h2 => hH c' o h1 (by
   unfold ECL EGc at h2
   rwa [List.getElem?_append_left (show c' < (EHc b n c f l .ready k).length from h1)] at h2)) h14
theorem g0c_site1 {b : Int} {n c f : Nat} {l m2 : List Int} {k K a t : Int} {o14 : AObj} (h : GrowC b n c f l m2 k K a t) :
   Call Try.prog 134 [ptr0 3,newS 15 m2.length,vi a,vi t,yv 13] (EHC b n c f l k ++ [o14,rws m2]) fun v H' => v = .bool true∧H' = EHC b n c f l K ++ [o14,rws m2] := by
 have hF := EGc_map (l := l) (m := m2) (σ := nameL [0,1,2,3,4,5,6,7,8,9,10,11,12,13,15] 15 16) (b := b) (n := n) (c := c) (f := f) (z := .ready) (k := K) (by kernel_rfl)
 have := (Call.frameG (H := EHC b n c f l k ++ [o14,rws m2]) (Et := ECL b n c f l m2 k) (Ft := ECL b n c f l m2 K) (N := []) (L := [0,1,2,3,4,5,6,7,8,9,10,11,12,13,15]) (vs := [ptr0 3,newS 15 m2.length,vi a,vi t,yv 13]) rfl rfl (by decide) (getD_lt (by kernel_rfl))
   (EHC_obj (by kernel_rfl) (fun c' o h1 h2 => by
     rcases c' with _ | _ | _ | _ | _ | _ | _ | _ | _ | _ | _ | _ | _ | _ | c' <;> first | exact h2 | omega) rfl)
   (EGc_all (by kernel_rfl) ros_sc rws_sc) (by kernel_rfl) (by kernel_rfl) (h.mono fun v H' hh => ⟨hh.1,by rw [hh.2,List.append_nil]⟩)
   (fun o ho => by
     rw [List.append_nil] at ho
     exact EGc_all (p := fun o => o.nm _) (by kernel_rfl) ros_nm rws_nm o ho)
   (fun o ho => by cases ho) (by kernel_rfl)
   (fun o ho => by
     rw [List.append_nil] at ho
     have h2 := List.mem_map_of_mem (f := omap (nameL [0,1,2,3,4,5,6,7,8,9,10,11,12,13,15] 15 16)) ho
     unfold ECL at h2
     rw [hF] at h2
     exact EGc_all (p := fun o => o.sc 16) (by kernel_rfl) ros_sc rws_sc _ h2) (by kernel_rfl)).1
 refine this.mono fun v H' hh => ⟨hh.1,?_⟩
 rw [hh.2]
 show setG _ _ _ (List.map (omap (nameL [0,1,2,3,4,5,6,7,8,9,10,11,12,13,15] 15 16)) (EGc b n c f l m2 .ready K)) ++ _ = _
 rw [hF]
 kernel_rfl
theorem g0c_site2 {b : Int} {n c f : Nat} {l m2 : List Int} {k K a t : Int} {o14 o15 o16 : AObj} (h : GrowC b n c f l m2 k K a t) :
   Call Try.prog 134 [ptr0 3,newS 17 m2.length,vi a,vi t,yv 13] (EHC b n c f l k ++ [o14,o15,o16,rws m2]) fun v H' => v = .bool true∧H' = EHC b n c f l K ++ [o14,o15,o16,rws m2] := by
 have hF := EGc_map (l := l) (m := m2) (σ := nameL [0,1,2,3,4,5,6,7,8,9,10,11,12,13,17] 15 18) (b := b) (n := n) (c := c) (f := f) (z := .ready) (k := K) (by kernel_rfl)
 have := (Call.frameG (H := EHC b n c f l k ++ [o14,o15,o16,rws m2]) (Et := ECL b n c f l m2 k) (Ft := ECL b n c f l m2 K) (N := []) (L := [0,1,2,3,4,5,6,7,8,9,10,11,12,13,17]) (vs := [ptr0 3,newS 17 m2.length,vi a,vi t,yv 13]) rfl rfl (by decide) (getD_lt (by kernel_rfl))
   (EHC_obj (by kernel_rfl) (fun c' o h1 h2 => by
     rcases c' with _ | _ | _ | _ | _ | _ | _ | _ | _ | _ | _ | _ | _ | _ | c' <;> first | exact h2 | omega) rfl)
   (EGc_all (by kernel_rfl) ros_sc rws_sc) (by kernel_rfl) (by kernel_rfl) (h.mono fun v H' hh => ⟨hh.1,by rw [hh.2,List.append_nil]⟩)
   (fun o ho => by
     rw [List.append_nil] at ho
     exact EGc_all (p := fun o => o.nm _) (by kernel_rfl) ros_nm rws_nm o ho)
   (fun o ho => by cases ho) (by kernel_rfl)
   (fun o ho => by
     rw [List.append_nil] at ho
     have h2 := List.mem_map_of_mem (f := omap (nameL [0,1,2,3,4,5,6,7,8,9,10,11,12,13,17] 15 18)) ho
     unfold ECL at h2
     rw [hF] at h2
     exact EGc_all (p := fun o => o.sc 18) (by kernel_rfl) ros_sc rws_sc _ h2) (by kernel_rfl)).1
 refine this.mono fun v H' hh => ⟨hh.1,?_⟩
 rw [hh.2]
 show setG _ _ _ (List.map (omap (nameL [0,1,2,3,4,5,6,7,8,9,10,11,12,13,17] 15 18)) (EGc b n c f l m2 .ready K)) ++ _ = _
 rw [hF]
 kernel_rfl
theorem g0cC_ok (b : Int) (n c f : Nat) (l : List Int) (κ : Nat) (hl : l.length = n * 2) (hn : n≤10) (hr : rngP b n l) : CcOk Try.prog (g0cC b n c f l κ) := by
 have h : ∀ (m2 : List Int) (f1 t1 : Nat) (k : Int),Begun n f1 t1 m2→f1 + (n - t1) + 1 = κ→GrowC b n c f l m2 k (fdC b n l k (rds n (κ - 1) f1 t1 m2)) f1 t1 := fun m2 f1 t1 k h1 h2 => growC_ok b n c f l hl hn hr (κ - 1) f1 t1 m2 k h1 (by omega)
 intro fn args H T hT Q hQ
 unfold g0cC at hT
 split at hT <;> try (cases hT; done)
 rename_i hf
 obtain rfl := Nat.eq_of_beq_eq_true hf
 split at hT
 · cases hT
   obtain ⟨m2,f1,t1,k,o14,hO,hq⟩ := hQ
   obtain ⟨rfl,rfl,h1,h2⟩ := hO.out
   exact (g0c_site1 (h m2 f1 t1 k h1 h2)).mono fun v H' ⟨e1,e2⟩ => by subst e1; subst e2; exact hq
 · split at hT <;> cases hT
   obtain ⟨m2,f1,t1,k,o14,o15,o16,hO,hq⟩ := hQ
   obtain ⟨rfl,rfl,h1,h2⟩ := hO.out
   exact (g0c_site2 (h m2 f1 t1 k h1 h2)).mono fun v H' ⟨e1,e2⟩ => by subst e1; subst e2; exact hq
theorem EHC_map {σ : Nat→Nat} {b : Int} {n c f : Nat} {l : List Int} {k : Int} (h : (ECr b n c f k .ready).map (omap σ) = ECr b n c f k .ready) : (EHC b n c f l k).map (omap σ) = EHC b n c f l k := by
 show ((ros l :: ECr b n c f k .ready).map (omap σ)) = ros l :: ECr b n c f k .ready
 rw [List.map_cons,ros_omap,h]
theorem EHC_all {b : Int} {n c f : Nat} {l : List Int} {k : Int} {p : AObj→Bool} (h : (ECr b n c f k .ready).all p = true) (h0 : p (ros l) = true) : ∀ o ∈ EHC b n c f l k,p o = true := by
 refine List.all_eq_true.1 ?_
 show ((ros l :: ECr b n c f k .ready).all p) = true
 rw [List.all_cons,h0,h]; rfl
theorem grow0C_ok (b : Int) (n c f : Nat) (l : List Int) (hl : l.length = n * 2) (hn : n≤10) (hr : rngP b n l) (k : Int) (κ g : Nat) (hn1 : 1≤n) (hg : g≤n) (hk : g + (n - g) = κ) :
   Call Try.prog 134 [ptr0 3,nilS,vi g,vi g,yv 13] (EHC b n c f l k) fun v H' => v = .bool true∧H' = EHC b n c f l (fdC b n l k (rds n κ g g [])) := by
 have hv := g0C_ok b n c f l k κ g hn hn1 hg hk
 rw [g0C_eq] at hv
 have hE : VOk Try.prog (g0cE b n c f l κ) := ⟨CtOk.none,g0cC_ok b n c f l κ hl hn hr,E0_ok.yc,orcOr_ok orcLim_ok prE1_ok.orc⟩
 refine Call.anew (Call.mono (Call.ofVc (H := EHC b n c f l k) (args := [ptr0 3,nilS,vi g,vi g,yv 13]) hE mixed (c := grB) (inv := fun _ => none) (R := YR0c b n c f l (fdC b n l k (rds n κ g g []))) Try.func134 (by kernel_rfl) (cast (by kernel_rfl) hv)) fun v H' hy => ?_)
 exact cut_anew (E := EHC b n c f l _) rfl (EHC_map (by kernel_rfl)) (EHC_all (by kernel_rfl) ros_sc) hy.1 hy.2
end Go.Pier.Rd
