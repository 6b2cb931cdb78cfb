import Derived.Test.YtbhpfkfedannjaaPierKM3
import Derived.Test.YtbhpfkfedannjaaPierRoundB
import Derived.KernelRfl
import Derived.Test.YtbhpfkfedannjaaPierKM7
import Derived.Test.YtbhpfkfedannjaaPierKM6
set_option linter.unusedSimpArgs false
set_option linter.unusedVariables false
set_option maxRecDepth 100000
namespace Go.Pier.Rd
open Go Go.Pier Go.Proofs
def worksS (r : List Arg) : Prop × Value := match r with | [] => (True,.bool true) | _ => (False,undef)
theorem worksG_ok : ∀ args H φ v H' l,pureG [] worksS args H = some (φ,v,H',l)→Asks φ→Call Try.prog 18 args H (fun v' H2 => v' = v∧H2 = H')∧Kept H H' l :=
 closedG_ok (RoundK.works_ok.call.mono fun v H h => h.1) rfl
theorem fits3_one {k : LK} {ps : List K3} {r : List Arg3} (h : fits3 (.one k :: ps) r) : ∃ l r',r = .one l :: r'∧k.fits l∧fits3 ps r' := by
 cases r with
 | nil => exact h.elim
 | cons a r => cases a with
   | one l => exact ⟨l,r,rfl,h.1,h.2⟩
   | agg ls => exact h.elim
theorem fits3_agg {ks : List LK} {ps : List K3} {r : List Arg3} (h : fits3 (.agg ks :: ps) r) : ∃ ls r',r = .agg ls :: r'∧fitsL ks ls∧fits3 ps r' := by
 cases r with
 | nil => exact h.elim
 | cons a r => cases a with
   | one l => exact h.elim
   | agg ls => exact ⟨ls,r,rfl,h.1,h.2⟩
theorem fits3_nil {r : List Arg3} (h : fits3 [] r) : r = [] := by
 cases r with
 | nil => rfl
 | cons a r => exact h.elim
theorem fitsL_cons {k : LK} {ks : List LK} {ls : List Leaf} (h : fitsL (k :: ks) ls) : ∃ l r,ls = l :: r∧k.fits l∧fitsL ks r := by
 cases ls with
 | nil => exact h.elim
 | cons l r => exact ⟨l,r,rfl,h.1,h.2⟩
theorem fitsL_nil {ls : List Leaf} (h : fitsL [] ls) : ls = [] := by
 cases ls with
 | nil => rfl
 | cons l r => exact h.elim
def isTrue (v : Value) (_ : Heap) : Prop := v = .bool true
end Go.Pier.Rd
namespace Go.Pier.Rd
open Go Go.Pier Go.Proofs
noncomputable def frT : Ct := ((Ct.none.add 18 (pureG [] worksS)).add 22 (pureP (fun b n l => vi (errP b n l)) (vi 6))).add 24 (pure3 psP (specQ shF))
abbrev psPT : List K3 := [.agg [.int .i64,.rows [.i .i64,.i .i64] true]]
theorem fits_p {r : List Arg3} (h : fits3 psPT r) : ∃ b lf,r = [.agg [.plain (.int .i64 b),lf]]∧(lf = .plain (.slice none 0 0)∨(∃ s,lf = .hole s)∨∃ (l : List Int) (n : Nat),lf = .view (l.map (.int .i64)) n true∧l.length = n * 2) := by
 obtain ⟨ls,r,rfl,hg,h⟩ := fits3_agg h
 obtain rfl := fits3_nil h
 obtain ⟨x,ls,rfl,h1,hg⟩ := fitsL_cons hg
 obtain ⟨y,ls,rfl,h2,hg⟩ := fitsL_cons hg
 obtain rfl := fitsL_nil hg
 obtain ⟨b,rfl,_⟩ := h1
 refine ⟨b,y,rfl,?_⟩
 rcases h2 with h2 | h2 | ⟨cs,n,h2,h4⟩
 · exact .inl h2
 · exact .inr (.inl h2)
 · obtain ⟨l,rfl,e,_⟩ := RowsOk.ints (k := .i64) (m := 2) h4
   exact .inr (.inr ⟨l,n,h2,e⟩)
end Go.Pier.Rd
namespace Go.Pier.Rd
open Go Go.Pier Go.Proofs
noncomputable def wkB : Code := Try.f46.body.getD .skip
def wS (n f : Nat) (o : Nat→Bool) : Nat→Nat × Nat × List Int
 | 0 => (f,f,[])
 | i + 1 => let s := wS n f o i
   if ((s.2.1 = n∨o i = true)∧0 < s.1) then (s.1 - 1,s.2.1,s.2.2 ++ [((s.1 - 1 : Nat) : Int)]) else (s.1,s.2.1 + 1,s.2.2 ++ [(s.2.1 : Int)])
def wG (n f : Nat) (o : Nat→Bool) (i : Nat) : Nat := (wS n f o i).1
def wT (n f : Nat) (o : Nat→Bool) (i : Nat) : Nat := (wS n f o i).2.1
def wL (n f : Nat) (o : Nat→Bool) (i : Nat) : List Int := (wS n f o i).2.2
def onB (q : List Int) (i : Nat) : Bool := decide ((q.getD (i % q.length) 0).tmod 2 = 1)
def roU (q : List Int) : AObj := .ro (q.map (.int .u8))
noncomputable def wkE : VEnv := { ct := Ct.none.add 86 (pure3 psP (specV fun b n l => vi (lefts b n l))),orc := prO }
def wkI (b : Int) (n c : Nat) (l : List Int) (o : Nat→Bool) (bv : Value) (P : Heap) : Nat→Option LInv := invOf 0 (.mk [
   ⟨Unit,fun _ => True,fun _ => [(1,bv),(2,ptr0 P.length),(4,nilS),(5,vi (lefts b n l)),(6,vi (lefts b n l)),(7,nilS),(8,vi 0)],fun _ => P ++ [boxP b n c],fun _ => 1000001,fun _ _ => none⟩,
   ⟨Nat,fun i => 0 < i∧i≤n,fun i => [(1,bv),(2,ptr0 P.length),(4,nilS),(5,vi (wG n (lefts b n l) o i)),(6,vi (wT n (lefts b n l) o i)),(7,newS (P.length + 1) i),(8,vi i)],fun i => P ++ [boxP b n c,rws (wL n (lefts b n l) o i)],fun i => n - i,fun _ _ => none⟩]
 (fun _ b => b) (fun i j => match j with | 0 => [] | _ => match i with | 0 => [nsub (P.length + 1) (P.length + 2)] | _ => [nsub (P.length + 1) (P.length + 3)]))
noncomputable def wkN0  : Prop := (Value.slice none (0 : Nat) (0 : Nat) = Value.slice none (0 : Nat) (0 : Nat))
noncomputable def wkN1 (l:List Int) := (List.map (Value.int IntKind.i64) l)
noncomputable def wkN2 (b:Int) (n:Nat) (c:Nat):Prop := (AObj.rw [vi b,Value.slice (some (ad0 0)) n c] none=AObj.rw [vi b,Value.slice (some (ad0 0)) n c] none∧true=true)
noncomputable def wkN3  := (andP (some ((0 : Nat) + (1 : Nat)≤(1 : Nat)∧true = true)) ((1 : Nat)≤(1099511627776 : Nat)∧(2064 : Nat)≤(281474976710656 : Nat)∧(1 : Nat) = (1 : Nat)∧(0 : Nat) = (0 : Nat)∧(0 : Nat) < (1 : Nat)))
noncomputable def wkN4  := ((1 : Nat) + (1 : Nat))
noncomputable def wkN5  := (Value.int IntKind.i64)
noncomputable def wkN6 (l:List Int):Prop := (AObj.ro (wkN1 l)=AObj.ro (List.map (nmap1 (nsub wkN4 (1+2))) (wkN1 l))∧AObj.sc 3 (AObj.ro (wkN1 l))=true)
noncomputable def wkN7 (l:List Int):Prop := (AObj.ro (wkN1 l)=AObj.ro (List.map (nmap1 (nsub wkN4 (1+3))) (wkN1 l))∧AObj.sc 3 (AObj.ro (wkN1 l))=true)
noncomputable def wkN8  : Prop := (ptr0 1 = Value.pointer (some { block := nsub wkN4 ((1 : Nat) + (2 : Nat)) (1 : Nat),off := (0 : Nat),spot := none }))
noncomputable def wkN9  : Prop := (ptr0 1 = Value.pointer (some { block := nsub wkN4 ((1 : Nat) + (3 : Nat)) (1 : Nat),off := (0 : Nat),spot := none }))
noncomputable def wkN10 (l:List Int):Prop := (AObj.ro (wkN1 l)=AObj.ro (List.map (nmap1 (nsub 1 2)) (wkN1 l))∧AObj.sc 2 (AObj.ro (wkN1 l))=true)
noncomputable def wkN11 (b:Int) (n:Nat) (l:List Int) := (↑(lefts b n l):Int)
noncomputable def wkN12  := (nmap1 (nsub wkN4 ((1 : Nat) + (2 : Nat))))
noncomputable def wkN13  := (nmap1 (nsub wkN4 ((1 : Nat) + (3 : Nat))))
noncomputable def wkN14  (x:Nat) := (2 * (x+1)+256)
noncomputable def wkN :=
fun (b:Int) (n c:Nat) (l:List Int)↦Ob ((true=true∧Flat (wkN1 l))∧okL (Leaf.view (wkN1 l) n false))∧((∃ (y:Unit),Ob True∧(Ob (AObj.ro (wkN1 l)=AObj.ro (List.map (nmap1 fun (bq:Nat)↦bq) (wkN1 l))∧AObj.sc 2 (AObj.ro (wkN1 l))=true)∧Ob (wkN2 b n c)∧True)∧Ob wkN0∧Ob (ptr0 1=ptr0 1)∧Ob wkN0∧Ob ((↑(lefts b n (intsOf (wkN1 l))):Int)=(wkN11 b n l))∧Ob ((↑(lefts b n (intsOf (wkN1 l))):Int)=(wkN11 b n l))∧Ob wkN0∧Ob ((0:Int)=(0:Int))∧True)∨∃ (yq:Nat),Ob (0<yq∧yq≤n)∧(Ob (AObj.ro (wkN1 l)=AObj.ro (List.map (nmap1 fun (bqq:Nat)↦bqq) (wkN1 l))∧AObj.sc 3 (AObj.ro (wkN1 l))=true)∧Ob (wkN2 b n c)∧False)∧Ob wkN0∧Ob (ptr0 1=ptr0 1)∧Ob wkN0∧Ob ((↑(lefts b n (intsOf (wkN1 l))):Int)=(↑(wG n (lefts b n l) (fun (x:Nat)↦false) yq):Int))∧Ob ((↑(lefts b n (intsOf (wkN1 l))):Int)=(↑(wT n (lefts b n l) (fun (x:Nat)↦false) yq):Int))∧Ob (Value.slice none 0 0=Value.slice (some ⟨2,0,some 0⟩) yq 0)∧Ob ((0:Int)=(yq:Int))∧True)∧(∀ (xq:Unit),Ob True→(decide ((0:Int)<(n:Int))=true→(false=true→Ob ((↑(0:Nat):Int)≠(0:Int))∧False)∧(false=false→(((wkN11 b n l)==(n:Int))=true→(decide ((0:Int)<(wkN11 b n l))=true→Ob wkN3∧(False∨∃ (yqq:Nat),Ob (0<yqq∧yqq≤n)∧Ob (n-yqq<1000001)∧(Ob (wkN6 l)∧Ob (wkN2 b n c)∧Ob (AObj.rw [vi (IntKind.i64.wrap ((wkN11 b n l)-(1:Int)))] (some 1)=AObj.rw (List.map wkN12 (List.map wkN5 (wL n (lefts b n l) (fun (xqq:Nat)↦false) yqq))) (some 1)∧AObj.sc 3 (AObj.rw (List.map wkN5 (wL n (lefts b n l) (fun (xqqq:Nat)↦false) yqq)) (some 1))=true)∧True)∧Ob wkN0∧Ob wkN8∧Ob wkN0∧Ob (IntKind.i64.wrap ((wkN11 b n l)-(1:Int))=(↑(wG n (lefts b n l) (fun (xqqqq:Nat)↦false) yqq):Int))∧Ob ((wkN11 b n l)=(↑(wT n (lefts b n l) (fun (xqqqqq:Nat)↦false) yqq):Int))∧Ob (Value.slice (some ⟨3,0,some 0⟩) 1 0=Value.slice (some ⟨nsub wkN4 (1+2) wkN4,0,some 0⟩) yqq 0)∧Ob (IntKind.i64.wrap ((0:Int)+(1:Int))=(yqq:Int))∧True))∧(decide ((0:Int)<(wkN11 b n l))=false→Ob wkN3∧(False∨∃ (yqqq:Nat),Ob (0<yqqq∧yqqq≤n)∧Ob (n-yqqq<1000001)∧(Ob (wkN6 l)∧Ob (wkN2 b n c)∧Ob (AObj.rw [vi (wkN11 b n l)] (some 1)=AObj.rw (List.map wkN12 (List.map wkN5 (wL n (lefts b n l) (fun (xqqqqqq:Nat)↦false) yqqq))) (some 1)∧AObj.sc 3 (AObj.rw (List.map wkN5 (wL n (lefts b n l) (fun (xqqqqqqq:Nat)↦false) yqqq)) (some 1))=true)∧True)∧Ob wkN0∧Ob wkN8∧Ob wkN0∧Ob ((wkN11 b n l)=(↑(wG n (lefts b n l) (fun (xqqqqqqqq:Nat)↦false) yqqq):Int))∧Ob (IntKind.i64.wrap ((wkN11 b n l)+(1:Int))=(↑(wT n (lefts b n l) (fun (xqqqqqqqqq:Nat)↦false) yqqq):Int))∧Ob (Value.slice (some ⟨3,0,some 0⟩) 1 0=Value.slice (some ⟨nsub wkN4 (1+2) wkN4,0,some 0⟩) yqqq 0)∧Ob (IntKind.i64.wrap ((0:Int)+(1:Int))=(yqqq:Int))∧True)))∧(((wkN11 b n l)==(n:Int))=false→Ob wkN3∧(False∨∃ (yqqqq:Nat),Ob (0<yqqqq∧yqqqq≤n)∧Ob (n-yqqqq<1000001)∧(Ob (wkN6 l)∧Ob (wkN2 b n c)∧Ob (AObj.rw [vi (wkN11 b n l)] (some 1)=AObj.rw (List.map wkN12 (List.map wkN5 (wL n (lefts b n l) (fun (xqqqqqqqqqq:Nat)↦false) yqqqq))) (some 1)∧AObj.sc 3 (AObj.rw (List.map wkN5 (wL n (lefts b n l) (fun (xqqqqqqqqqqq:Nat)↦false) yqqqq)) (some 1))=true)∧True)∧Ob wkN0∧Ob wkN8∧Ob wkN0∧Ob ((wkN11 b n l)=(↑(wG n (lefts b n l) (fun (xqqqqqqqqqqqq:Nat)↦false) yqqqq):Int))∧Ob (IntKind.i64.wrap ((wkN11 b n l)+(1:Int))=(↑(wT n (lefts b n l) (fun (xqqqqqqqqqqqqq:Nat)↦false) yqqqq):Int))∧Ob (Value.slice (some ⟨3,0,some 0⟩) 1 0=Value.slice (some ⟨nsub wkN4 (1+2) wkN4,0,some 0⟩) yqqqq 0)∧Ob (IntKind.i64.wrap ((0:Int)+(1:Int))=(yqqqq:Int))∧True))))∧(decide ((0:Int)<(n:Int))=false→(Ob (wkN10 l)∧False)∧Ob (Value.slice none 0 0=Value.slice (some ⟨2,0,some 0⟩) n 0)∧True))∧∀ (x:Nat),Ob (0<x∧x≤n)→(decide ((x:Int)<(n:Int))=true→(false=true→Ob ((↑(0:Nat):Int)≠(0:Int))∧False)∧(false=false→(((↑(wT n (lefts b n l) (fun (x:Nat)↦false) x):Int)==(n:Int))=true→(decide ((0:Int)<(↑(wG n (lefts b n l) (fun (x:Nat)↦false) x):Int))=true→Ob (andP (some (0+1≤1∧true=true)) (x+1≤1099511627776∧(wkN14 x) * 8≤281474976710656∧1=1∧(List.map wkN5 (wL n (lefts b n l) (fun (x:Nat)↦false) x)).length=x * 1))∧(False∨∃ (yqqqqq:Nat),Ob (0<yqqqqq∧yqqqqq≤n)∧Ob (n-yqqqqq<n-x)∧(Ob (wkN7 l)∧Ob (wkN2 b n c)∧Ob (AObj.rw (List.map wkN5 (wL n (lefts b n l) (fun (x:Nat)↦false) x)++[vi (IntKind.i64.wrap ((↑(wG n (lefts b n l) (fun (x:Nat)↦false) x):Int)-(1:Int)))]) (some 1)=AObj.rw (List.map wkN13 (List.map wkN5 (wL n (lefts b n l) (fun (x:Nat)↦false) yqqqqq))) (some 1)∧AObj.sc 3 (AObj.rw (List.map wkN5 (wL n (lefts b n l) (fun (x:Nat)↦false) yqqqqq)) (some 1))=true)∧True)∧Ob wkN0∧Ob wkN9∧Ob wkN0∧Ob (IntKind.i64.wrap ((↑(wG n (lefts b n l) (fun (x:Nat)↦false) x):Int)-(1:Int))=(↑(wG n (lefts b n l) (fun (x:Nat)↦false) yqqqqq):Int))∧Ob ((↑(wT n (lefts b n l) (fun (x:Nat)↦false) x):Int)=(↑(wT n (lefts b n l) (fun (x:Nat)↦false) yqqqqq):Int))∧Ob (Value.slice (some ⟨4,0,some 0⟩) (x+1) 0=Value.slice (some ⟨nsub wkN4 (1+3) wkN4,0,some 0⟩) yqqqqq 0)∧Ob (IntKind.i64.wrap ((x:Int)+(1:Int))=(yqqqqq:Int))∧True))∧(decide ((0:Int)<(↑(wG n (lefts b n l) (fun (x:Nat)↦false) x):Int))=false→Ob (andP (some (0+1≤1∧true=true)) (x+1≤1099511627776∧(wkN14 x) * 8≤281474976710656∧1=1∧(List.map wkN5 (wL n (lefts b n l) (fun (x:Nat)↦false) x)).length=x * 1))∧(False∨∃ (yqqqqqq:Nat),Ob (0<yqqqqqq∧yqqqqqq≤n)∧Ob (n-yqqqqqq<n-x)∧(Ob (wkN7 l)∧Ob (wkN2 b n c)∧Ob (AObj.rw (List.map wkN5 (wL n (lefts b n l) (fun (x:Nat)↦false) x)++[vi (↑(wT n (lefts b n l) (fun (x:Nat)↦false) x):Int)]) (some 1)=AObj.rw (List.map wkN13 (List.map wkN5 (wL n (lefts b n l) (fun (x:Nat)↦false) yqqqqqq))) (some 1)∧AObj.sc 3 (AObj.rw (List.map wkN5 (wL n (lefts b n l) (fun (x:Nat)↦false) yqqqqqq)) (some 1))=true)∧True)∧Ob wkN0∧Ob wkN9∧Ob wkN0∧Ob ((↑(wG n (lefts b n l) (fun (x:Nat)↦false) x):Int)=(↑(wG n (lefts b n l) (fun (x:Nat)↦false) yqqqqqq):Int))∧Ob (IntKind.i64.wrap ((↑(wT n (lefts b n l) (fun (x:Nat)↦false) x):Int)+(1:Int))=(↑(wT n (lefts b n l) (fun (x:Nat)↦false) yqqqqqq):Int))∧Ob (Value.slice (some ⟨4,0,some 0⟩) (x+1) 0=Value.slice (some ⟨nsub wkN4 (1+3) wkN4,0,some 0⟩) yqqqqqq 0)∧Ob (IntKind.i64.wrap ((x:Int)+(1:Int))=(yqqqqqq:Int))∧True)))∧(((↑(wT n (lefts b n l) (fun (x:Nat)↦false) x):Int)==(n:Int))=false→Ob (andP (some (0+1≤1∧true=true)) (x+1≤1099511627776∧(wkN14 x) * 8≤281474976710656∧1=1∧(List.map wkN5 (wL n (lefts b n l) (fun (x:Nat)↦false) x)).length=x * 1))∧(False∨∃ (yqqqqqqq:Nat),Ob (0<yqqqqqqq∧yqqqqqqq≤n)∧Ob (n-yqqqqqqq<n-x)∧(Ob (wkN7 l)∧Ob (wkN2 b n c)∧Ob (AObj.rw (List.map wkN5 (wL n (lefts b n l) (fun (x:Nat)↦false) x)++[vi (↑(wT n (lefts b n l) (fun (x:Nat)↦false) x):Int)]) (some 1)=AObj.rw (List.map wkN13 (List.map wkN5 (wL n (lefts b n l) (fun (x:Nat)↦false) yqqqqqqq))) (some 1)∧AObj.sc 3 (AObj.rw (List.map wkN5 (wL n (lefts b n l) (fun (x:Nat)↦false) yqqqqqqq)) (some 1))=true)∧True)∧Ob wkN0∧Ob wkN9∧Ob wkN0∧Ob ((↑(wG n (lefts b n l) (fun (x:Nat)↦false) x):Int)=(↑(wG n (lefts b n l) (fun (x:Nat)↦false) yqqqqqqq):Int))∧Ob (IntKind.i64.wrap ((↑(wT n (lefts b n l) (fun (x:Nat)↦false) x):Int)+(1:Int))=(↑(wT n (lefts b n l) (fun (x:Nat)↦false) yqqqqqqq):Int))∧Ob (Value.slice (some ⟨4,0,some 0⟩) (x+1) 0=Value.slice (some ⟨nsub wkN4 (1+3) wkN4,0,some 0⟩) yqqqqqqq 0)∧Ob (IntKind.i64.wrap ((x:Int)+(1:Int))=(yqqqqqqq:Int))∧True))))∧(decide ((x:Int)<(n:Int))=false→(Ob (wkN10 l)∧Ob (AObj.rw (List.map wkN5 (wL n (lefts b n l) (fun (x:Nat)↦false) x)) (some 1)=AObj.rw (List.map (nmap1 (nsub 1 2)) (List.map wkN5 (wL n (lefts b n l) (fun (x:Nat)↦false) n))) (some 1)∧AObj.sc 2 (AObj.rw (List.map wkN5 (wL n (lefts b n l) (fun (x:Nat)↦false) n)) (some 1))=true)∧True)∧Ob (Value.slice (some ⟨1+1,0,some 0⟩) x 0=Value.slice (some ⟨2,0,some 0⟩) n 0)∧True)
theorem wkN_eq : wkN = fun (b : Int) (n c : Nat) (l : List Int) => vc Try.prog wkE 1 57 true (wkI b n c l (fun _ => false) nilS [ros l]) wkB [] (argFr 0 [pierV b (some ⟨0,0,none⟩) n c,nilS]) [ros l] (retR Try.prog Try.f46 1 (nsub 1 2) (newS 1 n) [ros l,rws (wL n (lefts b n l) (fun _ => false) n)]) := by kernel_rfl
noncomputable def wkH0 (l:List Int) := (List.map (Value.int IntKind.i64) l)
noncomputable def wkH1 (b:Int) (n:Nat) (c:Nat):Prop := (AObj.rw [vi b,Value.slice (some (ad0 0)) n c] none=AObj.rw [vi b,Value.slice (some (ad0 0)) n c] none∧true=true)
noncomputable def wkH2  : Prop := (Value.slice none (0 : Nat) (0 : Nat) = Value.slice none (0 : Nat) (0 : Nat))
noncomputable def wkH3  := ((2 : Nat) + (1 : Nat))
noncomputable def wkH4  := (andP (some ((0 : Nat) + (1 : Nat)≤(1 : Nat)∧true = true)) ((1 : Nat)≤(1099511627776 : Nat)∧(2064 : Nat)≤(281474976710656 : Nat)∧(1 : Nat) = (1 : Nat)∧(0 : Nat) = (0 : Nat)∧(0 : Nat) < (1 : Nat)))
noncomputable def wkH5 (d:Nat) (s:Option Nat):Prop := (Value.slice (some ⟨1,0,s⟩) 0 d=Value.slice (some ⟨nsub wkH3 (2+2) 1,0,s⟩) 0 d)
noncomputable def wkH6 (d:Nat) (s:Option Nat):Prop := (Value.slice (some ⟨1,0,s⟩) 0 d=Value.slice (some ⟨nsub wkH3 (2+3) 1,0,s⟩) 0 d)
noncomputable def wkH7  := (Value.int IntKind.i64)
noncomputable def wkH8 (l:List Int):Prop := (AObj.ro (wkH0 l)=AObj.ro (List.map (nmap1 (nsub wkH3 (2+2))) (wkH0 l))∧AObj.sc 4 (AObj.ro (wkH0 l))=true)
noncomputable def wkH9 (l:List Int):Prop := (AObj.ro (wkH0 l)=AObj.ro (List.map (nmap1 (nsub wkH3 (2+3))) (wkH0 l))∧AObj.sc 4 (AObj.ro (wkH0 l))=true)
noncomputable def wkH10  : Prop := (ptr0 2 = Value.pointer (some { block := nsub wkH3 ((2 : Nat) + (2 : Nat)) (2 : Nat),off := (0 : Nat),spot := none }))
noncomputable def wkH11  : Prop := (ptr0 2 = Value.pointer (some { block := nsub wkH3 ((2 : Nat) + (3 : Nat)) (2 : Nat),off := (0 : Nat),spot := none }))
noncomputable def wkH12 (d:Nat) (s:Option Nat):Prop := (Value.slice (some ⟨1,0,s⟩) 0 d=Value.slice (some ⟨1,0,s⟩) 0 d)
noncomputable def wkH13 (l:List Int):Prop := (AObj.ro (wkH0 l)=AObj.ro (List.map (nmap1 (nsub 2 3)) (wkH0 l))∧AObj.sc 3 (AObj.ro (wkH0 l))=true)
noncomputable def wkH14 (b:Int) (n:Nat) (l:List Int) := (↑(lefts b n l):Int)
noncomputable def wkH15  := (nmap1 (nsub wkH3 ((2 : Nat) + (2 : Nat))))
noncomputable def wkH16  := (nmap1 (nsub wkH3 ((2 : Nat) + (3 : Nat))))
noncomputable def wkH17  (x:Nat) := (2 * (x+1)+256)
noncomputable def wkH :=
fun (b:Int) (n c d:Nat) (s:Option Nat) (l:List Int)↦Ob ((true=true∧Flat (wkH0 l))∧okL (Leaf.view (wkH0 l) n false))∧((∃ (y:Unit),Ob True∧(Ob (AObj.ro (wkH0 l)=AObj.ro (List.map (nmap1 fun (bq:Nat)↦bq) (wkH0 l))∧AObj.sc 3 (AObj.ro (wkH0 l))=true)∧Ob (wkH1 b n c)∧True)∧Ob (wkH12 d s)∧Ob (ptr0 2=ptr0 2)∧Ob wkH2∧Ob ((↑(lefts b n (intsOf (wkH0 l))):Int)=(wkH14 b n l))∧Ob ((↑(lefts b n (intsOf (wkH0 l))):Int)=(wkH14 b n l))∧Ob wkH2∧Ob ((0:Int)=(0:Int))∧True)∨∃ (yq:Nat),Ob (0<yq∧yq≤n)∧(Ob (AObj.ro (wkH0 l)=AObj.ro (List.map (nmap1 fun (bqq:Nat)↦bqq) (wkH0 l))∧AObj.sc 4 (AObj.ro (wkH0 l))=true)∧Ob (wkH1 b n c)∧False)∧Ob (wkH12 d s)∧Ob (ptr0 2=ptr0 2)∧Ob wkH2∧Ob ((↑(lefts b n (intsOf (wkH0 l))):Int)=(↑(wG n (lefts b n l) (fun (x:Nat)↦false) yq):Int))∧Ob ((↑(lefts b n (intsOf (wkH0 l))):Int)=(↑(wT n (lefts b n l) (fun (x:Nat)↦false) yq):Int))∧Ob (Value.slice none 0 0=Value.slice (some ⟨3,0,some 0⟩) yq 0)∧Ob ((0:Int)=(yq:Int))∧True)∧(∀ (xq:Unit),Ob True→(decide ((0:Int)<(n:Int))=true→(false=true→Ob ((↑(0:Nat):Int)≠(0:Int))∧Ob ((0:Int)≤Int.tmod (0:Int) (↑(0:Nat):Int)∧Int.tmod (0:Int) (↑(0:Nat):Int)<(↑(0:Nat):Int)∧std ⟨1,0,s⟩ d=true)∧False)∧(false=false→(((wkH14 b n l)==(n:Int))=true→(decide ((0:Int)<(wkH14 b n l))=true→Ob wkH4∧(False∨∃ (yqq:Nat),Ob (0<yqq∧yqq≤n)∧Ob (n-yqq<1000001)∧(Ob (wkH8 l)∧Ob (wkH1 b n c)∧Ob (AObj.rw [vi (IntKind.i64.wrap ((wkH14 b n l)-(1:Int)))] (some 1)=AObj.rw (List.map wkH15 (List.map wkH7 (wL n (lefts b n l) (fun (xqq:Nat)↦false) yqq))) (some 1)∧AObj.sc 4 (AObj.rw (List.map wkH7 (wL n (lefts b n l) (fun (xqqq:Nat)↦false) yqq)) (some 1))=true)∧True)∧Ob (wkH5 d s)∧Ob wkH10∧Ob wkH2∧Ob (IntKind.i64.wrap ((wkH14 b n l)-(1:Int))=(↑(wG n (lefts b n l) (fun (xqqqq:Nat)↦false) yqq):Int))∧Ob ((wkH14 b n l)=(↑(wT n (lefts b n l) (fun (xqqqqq:Nat)↦false) yqq):Int))∧Ob (Value.slice (some ⟨4,0,some 0⟩) 1 0=Value.slice (some ⟨nsub wkH3 (2+2) wkH3,0,some 0⟩) yqq 0)∧Ob (IntKind.i64.wrap ((0:Int)+(1:Int))=(yqq:Int))∧True))∧(decide ((0:Int)<(wkH14 b n l))=false→Ob wkH4∧(False∨∃ (yqqq:Nat),Ob (0<yqqq∧yqqq≤n)∧Ob (n-yqqq<1000001)∧(Ob (wkH8 l)∧Ob (wkH1 b n c)∧Ob (AObj.rw [vi (wkH14 b n l)] (some 1)=AObj.rw (List.map wkH15 (List.map wkH7 (wL n (lefts b n l) (fun (xqqqqqq:Nat)↦false) yqqq))) (some 1)∧AObj.sc 4 (AObj.rw (List.map wkH7 (wL n (lefts b n l) (fun (xqqqqqqq:Nat)↦false) yqqq)) (some 1))=true)∧True)∧Ob (wkH5 d s)∧Ob wkH10∧Ob wkH2∧Ob ((wkH14 b n l)=(↑(wG n (lefts b n l) (fun (xqqqqqqqq:Nat)↦false) yqqq):Int))∧Ob (IntKind.i64.wrap ((wkH14 b n l)+(1:Int))=(↑(wT n (lefts b n l) (fun (xqqqqqqqqq:Nat)↦false) yqqq):Int))∧Ob (Value.slice (some ⟨4,0,some 0⟩) 1 0=Value.slice (some ⟨nsub wkH3 (2+2) wkH3,0,some 0⟩) yqqq 0)∧Ob (IntKind.i64.wrap ((0:Int)+(1:Int))=(yqqq:Int))∧True)))∧(((wkH14 b n l)==(n:Int))=false→Ob wkH4∧(False∨∃ (yqqqq:Nat),Ob (0<yqqqq∧yqqqq≤n)∧Ob (n-yqqqq<1000001)∧(Ob (wkH8 l)∧Ob (wkH1 b n c)∧Ob (AObj.rw [vi (wkH14 b n l)] (some 1)=AObj.rw (List.map wkH15 (List.map wkH7 (wL n (lefts b n l) (fun (xqqqqqqqqqq:Nat)↦false) yqqqq))) (some 1)∧AObj.sc 4 (AObj.rw (List.map wkH7 (wL n (lefts b n l) (fun (xqqqqqqqqqqq:Nat)↦false) yqqqq)) (some 1))=true)∧True)∧Ob (wkH5 d s)∧Ob wkH10∧Ob wkH2∧Ob ((wkH14 b n l)=(↑(wG n (lefts b n l) (fun (xqqqqqqqqqqqq:Nat)↦false) yqqqq):Int))∧Ob (IntKind.i64.wrap ((wkH14 b n l)+(1:Int))=(↑(wT n (lefts b n l) (fun (xqqqqqqqqqqqqq:Nat)↦false) yqqqq):Int))∧Ob (Value.slice (some ⟨4,0,some 0⟩) 1 0=Value.slice (some ⟨nsub wkH3 (2+2) wkH3,0,some 0⟩) yqqqq 0)∧Ob (IntKind.i64.wrap ((0:Int)+(1:Int))=(yqqqq:Int))∧True))))∧(decide ((0:Int)<(n:Int))=false→(Ob (wkH13 l)∧False)∧Ob (Value.slice none 0 0=Value.slice (some ⟨3,0,some 0⟩) n 0)∧True))∧∀ (x:Nat),Ob (0<x∧x≤n)→(decide ((x:Int)<(n:Int))=true→(false=true→Ob ((↑(0:Nat):Int)≠(0:Int))∧Ob ((0:Int)≤(x:Int).tmod (↑(0:Nat):Int)∧(x:Int).tmod (↑(0:Nat):Int)<(↑(0:Nat):Int)∧std ⟨1,0,s⟩ d=true)∧False)∧(false=false→(((↑(wT n (lefts b n l) (fun (x:Nat)↦false) x):Int)==(n:Int))=true→(decide ((0:Int)<(↑(wG n (lefts b n l) (fun (x:Nat)↦false) x):Int))=true→Ob (andP (some (0+1≤1∧true=true)) (x+1≤1099511627776∧(wkH17 x) * 8≤281474976710656∧1=1∧(List.map wkH7 (wL n (lefts b n l) (fun (x:Nat)↦false) x)).length=x * 1))∧(False∨∃ (yqqqqq:Nat),Ob (0<yqqqqq∧yqqqqq≤n)∧Ob (n-yqqqqq<n-x)∧(Ob (wkH9 l)∧Ob (wkH1 b n c)∧Ob (AObj.rw (List.map wkH7 (wL n (lefts b n l) (fun (x:Nat)↦false) x)++[vi (IntKind.i64.wrap ((↑(wG n (lefts b n l) (fun (x:Nat)↦false) x):Int)-(1:Int)))]) (some 1)=AObj.rw (List.map wkH16 (List.map wkH7 (wL n (lefts b n l) (fun (x:Nat)↦false) yqqqqq))) (some 1)∧AObj.sc 4 (AObj.rw (List.map wkH7 (wL n (lefts b n l) (fun (x:Nat)↦false) yqqqqq)) (some 1))=true)∧True)∧Ob (wkH6 d s)∧Ob wkH11∧Ob wkH2∧Ob (IntKind.i64.wrap ((↑(wG n (lefts b n l) (fun (x:Nat)↦false) x):Int)-(1:Int))=(↑(wG n (lefts b n l) (fun (x:Nat)↦false) yqqqqq):Int))∧Ob ((↑(wT n (lefts b n l) (fun (x:Nat)↦false) x):Int)=(↑(wT n (lefts b n l) (fun (x:Nat)↦false) yqqqqq):Int))∧Ob (Value.slice (some ⟨5,0,some 0⟩) (x+1) 0=Value.slice (some ⟨nsub wkH3 (2+3) wkH3,0,some 0⟩) yqqqqq 0)∧Ob (IntKind.i64.wrap ((x:Int)+(1:Int))=(yqqqqq:Int))∧True))∧(decide ((0:Int)<(↑(wG n (lefts b n l) (fun (x:Nat)↦false) x):Int))=false→Ob (andP (some (0+1≤1∧true=true)) (x+1≤1099511627776∧(wkH17 x) * 8≤281474976710656∧1=1∧(List.map wkH7 (wL n (lefts b n l) (fun (x:Nat)↦false) x)).length=x * 1))∧(False∨∃ (yqqqqqq:Nat),Ob (0<yqqqqqq∧yqqqqqq≤n)∧Ob (n-yqqqqqq<n-x)∧(Ob (wkH9 l)∧Ob (wkH1 b n c)∧Ob (AObj.rw (List.map wkH7 (wL n (lefts b n l) (fun (x:Nat)↦false) x)++[vi (↑(wT n (lefts b n l) (fun (x:Nat)↦false) x):Int)]) (some 1)=AObj.rw (List.map wkH16 (List.map wkH7 (wL n (lefts b n l) (fun (x:Nat)↦false) yqqqqqq))) (some 1)∧AObj.sc 4 (AObj.rw (List.map wkH7 (wL n (lefts b n l) (fun (x:Nat)↦false) yqqqqqq)) (some 1))=true)∧True)∧Ob (wkH6 d s)∧Ob wkH11∧Ob wkH2∧Ob ((↑(wG n (lefts b n l) (fun (x:Nat)↦false) x):Int)=(↑(wG n (lefts b n l) (fun (x:Nat)↦false) yqqqqqq):Int))∧Ob (IntKind.i64.wrap ((↑(wT n (lefts b n l) (fun (x:Nat)↦false) x):Int)+(1:Int))=(↑(wT n (lefts b n l) (fun (x:Nat)↦false) yqqqqqq):Int))∧Ob (Value.slice (some ⟨5,0,some 0⟩) (x+1) 0=Value.slice (some ⟨nsub wkH3 (2+3) wkH3,0,some 0⟩) yqqqqqq 0)∧Ob (IntKind.i64.wrap ((x:Int)+(1:Int))=(yqqqqqq:Int))∧True)))∧(((↑(wT n (lefts b n l) (fun (x:Nat)↦false) x):Int)==(n:Int))=false→Ob (andP (some (0+1≤1∧true=true)) (x+1≤1099511627776∧(wkH17 x) * 8≤281474976710656∧1=1∧(List.map wkH7 (wL n (lefts b n l) (fun (x:Nat)↦false) x)).length=x * 1))∧(False∨∃ (yqqqqqqq:Nat),Ob (0<yqqqqqqq∧yqqqqqqq≤n)∧Ob (n-yqqqqqqq<n-x)∧(Ob (wkH9 l)∧Ob (wkH1 b n c)∧Ob (AObj.rw (List.map wkH7 (wL n (lefts b n l) (fun (x:Nat)↦false) x)++[vi (↑(wT n (lefts b n l) (fun (x:Nat)↦false) x):Int)]) (some 1)=AObj.rw (List.map wkH16 (List.map wkH7 (wL n (lefts b n l) (fun (x:Nat)↦false) yqqqqqqq))) (some 1)∧AObj.sc 4 (AObj.rw (List.map wkH7 (wL n (lefts b n l) (fun (x:Nat)↦false) yqqqqqqq)) (some 1))=true)∧True)∧Ob (wkH6 d s)∧Ob wkH11∧Ob wkH2∧Ob ((↑(wG n (lefts b n l) (fun (x:Nat)↦false) x):Int)=(↑(wG n (lefts b n l) (fun (x:Nat)↦false) yqqqqqqq):Int))∧Ob (IntKind.i64.wrap ((↑(wT n (lefts b n l) (fun (x:Nat)↦false) x):Int)+(1:Int))=(↑(wT n (lefts b n l) (fun (x:Nat)↦false) yqqqqqqq):Int))∧Ob (Value.slice (some ⟨5,0,some 0⟩) (x+1) 0=Value.slice (some ⟨nsub wkH3 (2+3) wkH3,0,some 0⟩) yqqqqqqq 0)∧Ob (IntKind.i64.wrap ((x:Int)+(1:Int))=(yqqqqqqq:Int))∧True))))∧(decide ((x:Int)<(n:Int))=false→(Ob (wkH13 l)∧Ob (AObj.rw (List.map wkH7 (wL n (lefts b n l) (fun (x:Nat)↦false) x)) (some 1)=AObj.rw (List.map (nmap1 (nsub 2 3)) (List.map wkH7 (wL n (lefts b n l) (fun (x:Nat)↦false) n))) (some 1)∧AObj.sc 3 (AObj.rw (List.map wkH7 (wL n (lefts b n l) (fun (x:Nat)↦false) n)) (some 1))=true)∧True)∧Ob (Value.slice (some ⟨2+1,0,some 0⟩) x 0=Value.slice (some ⟨3,0,some 0⟩) n 0)∧True)
theorem wkH_eq : wkH = fun (b : Int) (n c d : Nat) (s : Option Nat) (l : List Int) => vc Try.prog wkE 2 57 true (wkI b n c l (fun _ => false) (.slice (some ⟨1,0,s⟩) 0 d) [ros l,.gone]) wkB [] (argFr 0 [pierV b (some ⟨0,0,none⟩) n c,.slice (some ⟨1,0,s⟩) 0 d]) [ros l,.gone] (retR Try.prog Try.f46 2 (nsub 2 3) (newS 2 n) [ros l,.gone,rws (wL n (lefts b n l) (fun _ => false) n)]) := by kernel_rfl
noncomputable def wkV0 (b:Int) (n:Nat) (l:List Int) (q:List Int) (xq:Nat) := (andP (some (0+1≤1∧true=true)) (xq+1≤1099511627776∧(2 * (xq+1)+256) * 8≤281474976710656∧1=1∧(List.map (Value.int IntKind.i64) (wL n (lefts b n l) (onB q) xq)).length=xq * 1))
noncomputable def wkV1 (b:Int) (n:Nat) (c:Nat):Prop := (AObj.rw [vi b,Value.slice (some (ad0 0)) n c] none=AObj.rw [vi b,Value.slice (some (ad0 0)) n c] none∧true=true)
noncomputable def wkV2 (l:List Int) := (List.map (Value.int IntKind.i64) l)
noncomputable def wkV3 (q:List Int) := (List.map (Value.int IntKind.u8) q)
noncomputable def wkV4  := ((2 : Nat) + (1 : Nat))
noncomputable def wkV5  := (andP (some ((0 : Nat) + (1 : Nat)≤(1 : Nat)∧true = true)) ((1 : Nat)≤(1099511627776 : Nat)∧(2064 : Nat)≤(281474976710656 : Nat)∧(1 : Nat) = (1 : Nat)∧(0 : Nat) = (0 : Nat)∧(0 : Nat) < (1 : Nat)))
noncomputable def wkV6  : Prop := (Value.slice none (0 : Nat) (0 : Nat) = Value.slice none (0 : Nat) (0 : Nat))
noncomputable def wkV7 (d:Nat) (q:List Int):Prop := (Value.slice (some (ad0 1)) q.length d=Value.slice (some ⟨nsub wkV4 (2+2) 1,0,none⟩) q.length d)
noncomputable def wkV8 (d:Nat) (q:List Int):Prop := (Value.slice (some (ad0 1)) q.length d=Value.slice (some ⟨nsub wkV4 (2+3) 1,0,none⟩) q.length d)
noncomputable def wkV9 (l:List Int):Prop := (AObj.ro (wkV2 l)=AObj.ro (List.map (nmap1 (nsub wkV4 (2+2))) (wkV2 l))∧AObj.sc 4 (AObj.ro (wkV2 l))=true)
noncomputable def wkV10 (q:List Int):Prop := (AObj.ro (wkV3 q)=AObj.ro (List.map (nmap1 (nsub wkV4 (2+2))) (wkV3 q))∧AObj.sc 4 (AObj.ro (wkV3 q))=true)
noncomputable def wkV11 (l:List Int):Prop := (AObj.ro (wkV2 l)=AObj.ro (List.map (nmap1 (nsub wkV4 (2+3))) (wkV2 l))∧AObj.sc 4 (AObj.ro (wkV2 l))=true)
noncomputable def wkV12 (q:List Int):Prop := (AObj.ro (wkV3 q)=AObj.ro (List.map (nmap1 (nsub wkV4 (2+3))) (wkV3 q))∧AObj.sc 4 (AObj.ro (wkV3 q))=true)
noncomputable def wkV13  : Prop := (ptr0 2 = Value.pointer (some { block := nsub wkV4 ((2 : Nat) + (2 : Nat)) (2 : Nat),off := (0 : Nat),spot := none }))
noncomputable def wkV14  : Prop := (ptr0 2 = Value.pointer (some { block := nsub wkV4 ((2 : Nat) + (3 : Nat)) (2 : Nat),off := (0 : Nat),spot := none }))
noncomputable def wkV15  := (Value.int IntKind.i64)
noncomputable def wkV16 (b:Int) (n:Nat) (l:List Int) (q:List Int) (xq:Nat) := (↑(wG n (lefts b n l) (onB q) xq):Int)
noncomputable def wkV17 (b:Int) (n:Nat) (l:List Int) (q:List Int) (xq:Nat) := (↑(wT n (lefts b n l) (onB q) xq):Int)
noncomputable def wkV18  := (nmap1 (nsub wkV4 ((2 : Nat) + (2 : Nat))))
noncomputable def wkV19  := (nmap1 (nsub wkV4 ((2 : Nat) + (3 : Nat))))
noncomputable def wkV20 (b:Int) (n:Nat) (l:List Int) := (↑(lefts b n l):Int)
noncomputable def wkV21 (b:Int) (n:Nat) (l:List Int) (q:List Int) (xq:Nat) := (List.map wkV15 (wL n (lefts b n l) (onB q) xq)++[vi (wkV17 b n l q xq)])
noncomputable def wkV22 (b:Int) (n:Nat) (l:List Int) (q:List Int) (xq:Nat) := (List.map wkV15 (wL n (lefts b n l) (onB q) xq)++[vi (IntKind.i64.wrap ((wkV16 b n l q xq)-(1:Int)))])
noncomputable def wkV23  (xq:Nat) := ((xq:Int)+(1:Int))
noncomputable def wkV24 (l:List Int):Prop := (AObj.ro (wkV2 l)=AObj.ro (List.map (nmap1 (nsub 2 3)) (wkV2 l))∧AObj.sc 3 (AObj.ro (wkV2 l))=true)
noncomputable def wkV25 (q:List Int):Prop := (AObj.ro (wkV3 q)=AObj.ro (List.map (nmap1 (nsub 2 3)) (wkV3 q))∧AObj.sc 3 (AObj.ro (wkV3 q))=true)
noncomputable def wkV26 (q:List Int) := (0+(Int.tmod (0:Int) (q.length:Int)).toNat * 1)
noncomputable def wkV27 (q:List Int) (xq:Nat) := (0+((xq:Int).tmod (q.length:Int)).toNat * 1)
noncomputable def wkV28  := ((2 : Nat) + (2 : Nat))
noncomputable def wkV29  := ((0 : Int) + (1 : Int))
noncomputable def wkV30  := ((2 : Nat) + (3 : Nat))
noncomputable def wkV :=
fun (b:Int) (n c d:Nat) (l q:List Int)↦Ob ((true=true∧Flat (wkV2 l))∧okL (Leaf.view (wkV2 l) n false))∧((∃ (y:Unit),Ob True∧(Ob (AObj.ro (wkV2 l)=AObj.ro (List.map (nmap1 fun (bq:Nat)↦bq) (wkV2 l))∧AObj.sc 3 (AObj.ro (wkV2 l))=true)∧Ob (AObj.ro (wkV3 q)=AObj.ro (List.map (nmap1 fun (bqq:Nat)↦bqq) (wkV3 q))∧AObj.sc 3 (AObj.ro (wkV3 q))=true)∧Ob (wkV1 b n c)∧True)∧Ob (Value.slice (some (ad0 1)) q.length d=Value.slice (some (ad0 1)) q.length d)∧Ob (ptr0 2=ptr0 2)∧Ob wkV6∧Ob ((↑(lefts b n (intsOf (wkV2 l))):Int)=(wkV20 b n l))∧Ob ((↑(lefts b n (intsOf (wkV2 l))):Int)=(wkV20 b n l))∧Ob wkV6∧Ob ((0:Int)=(0:Int))∧True)∨∃ (yq:Nat),Ob (0<yq∧yq≤n)∧(Ob (AObj.ro (wkV2 l)=AObj.ro (List.map (nmap1 fun (bqqq:Nat)↦bqqq) (wkV2 l))∧AObj.sc 4 (AObj.ro (wkV2 l))=true)∧Ob (AObj.ro (wkV3 q)=AObj.ro (List.map (nmap1 fun (bqqqq:Nat)↦bqqqq) (wkV3 q))∧AObj.sc 4 (AObj.ro (wkV3 q))=true)∧Ob (wkV1 b n c)∧False)∧Ob (Value.slice (some (ad0 1)) q.length d=Value.slice (some (ad0 1)) q.length d)∧Ob (ptr0 2=ptr0 2)∧Ob wkV6∧Ob ((↑(lefts b n (intsOf (wkV2 l))):Int)=(↑(wG n (lefts b n l) (onB q) yq):Int))∧Ob ((↑(lefts b n (intsOf (wkV2 l))):Int)=(↑(wT n (lefts b n l) (onB q) yq):Int))∧Ob (Value.slice none 0 0=Value.slice (some ⟨3,0,some 0⟩) yq 0)∧Ob ((0:Int)=(yq:Int))∧True)∧(∀ (x:Unit),Ob True→(decide ((0:Int)<(n:Int))=true→(decide ((0:Int)<(q.length:Int))=true→Ob ((q.length:Int)≠(0:Int))∧Ob ((0:Int)≤Int.tmod (0:Int) (q.length:Int)∧Int.tmod (0:Int) (q.length:Int)<(q.length:Int)∧true=true)∧Ob (IntAt IntKind.u8 (wkV3 q) (wkV26 q))∧Ob ((2:Int)≠(0:Int))∧(((getI (wkV3 q) (wkV26 q)).tmod (2:Int)==(1:Int))=true→(decide ((0:Int)<(wkV20 b n l))=true→Ob wkV5∧(False∨∃ (yqq:Nat),Ob (0<yqq∧yqq≤n)∧Ob (n-yqq<1000001)∧(Ob (wkV9 l)∧Ob (wkV10 q)∧Ob (wkV1 b n c)∧Ob (AObj.rw [vi (IntKind.i64.wrap ((wkV20 b n l)-(1:Int)))] (some 1)=AObj.rw (List.map wkV18 (List.map wkV15 (wL n (lefts b n l) (onB q) yqq))) (some 1)∧AObj.sc 4 (AObj.rw (List.map wkV15 (wL n (lefts b n l) (onB q) yqq)) (some 1))=true)∧True)∧Ob (wkV7 d q)∧Ob wkV13∧Ob wkV6∧Ob (IntKind.i64.wrap ((wkV20 b n l)-(1:Int))=(↑(wG n (lefts b n l) (onB q) yqq):Int))∧Ob ((wkV20 b n l)=(↑(wT n (lefts b n l) (onB q) yqq):Int))∧Ob (Value.slice (some ⟨4,0,some 0⟩) 1 0=Value.slice (some ⟨nsub wkV4 wkV28 wkV4,0,some 0⟩) yqq 0)∧Ob (IntKind.i64.wrap wkV29=(yqq:Int))∧True))∧(decide ((0:Int)<(wkV20 b n l))=false→Ob wkV5∧(False∨∃ (yqqq:Nat),Ob (0<yqqq∧yqqq≤n)∧Ob (n-yqqq<1000001)∧(Ob (wkV9 l)∧Ob (wkV10 q)∧Ob (wkV1 b n c)∧Ob (AObj.rw [vi (wkV20 b n l)] (some 1)=AObj.rw (List.map wkV18 (List.map wkV15 (wL n (lefts b n l) (onB q) yqqq))) (some 1)∧AObj.sc 4 (AObj.rw (List.map wkV15 (wL n (lefts b n l) (onB q) yqqq)) (some 1))=true)∧True)∧Ob (wkV7 d q)∧Ob wkV13∧Ob wkV6∧Ob ((wkV20 b n l)=(↑(wG n (lefts b n l) (onB q) yqqq):Int))∧Ob (IntKind.i64.wrap ((wkV20 b n l)+(1:Int))=(↑(wT n (lefts b n l) (onB q) yqqq):Int))∧Ob (Value.slice (some ⟨4,0,some 0⟩) 1 0=Value.slice (some ⟨nsub wkV4 wkV28 wkV4,0,some 0⟩) yqqq 0)∧Ob (IntKind.i64.wrap wkV29=(yqqq:Int))∧True)))∧(((getI (wkV3 q) (wkV26 q)).tmod (2:Int)==(1:Int))=false→(((wkV20 b n l)==(n:Int))=true→(decide ((0:Int)<(wkV20 b n l))=true→Ob wkV5∧(False∨∃ (yqqqq:Nat),Ob (0<yqqqq∧yqqqq≤n)∧Ob (n-yqqqq<1000001)∧(Ob (wkV9 l)∧Ob (wkV10 q)∧Ob (wkV1 b n c)∧Ob (AObj.rw [vi (IntKind.i64.wrap ((wkV20 b n l)-(1:Int)))] (some 1)=AObj.rw (List.map wkV18 (List.map wkV15 (wL n (lefts b n l) (onB q) yqqqq))) (some 1)∧AObj.sc 4 (AObj.rw (List.map wkV15 (wL n (lefts b n l) (onB q) yqqqq)) (some 1))=true)∧True)∧Ob (wkV7 d q)∧Ob wkV13∧Ob wkV6∧Ob (IntKind.i64.wrap ((wkV20 b n l)-(1:Int))=(↑(wG n (lefts b n l) (onB q) yqqqq):Int))∧Ob ((wkV20 b n l)=(↑(wT n (lefts b n l) (onB q) yqqqq):Int))∧Ob (Value.slice (some ⟨4,0,some 0⟩) 1 0=Value.slice (some ⟨nsub wkV4 wkV28 wkV4,0,some 0⟩) yqqqq 0)∧Ob (IntKind.i64.wrap wkV29=(yqqqq:Int))∧True))∧(decide ((0:Int)<(wkV20 b n l))=false→Ob wkV5∧(False∨∃ (yqqqqq:Nat),Ob (0<yqqqqq∧yqqqqq≤n)∧Ob (n-yqqqqq<1000001)∧(Ob (wkV9 l)∧Ob (wkV10 q)∧Ob (wkV1 b n c)∧Ob (AObj.rw [vi (wkV20 b n l)] (some 1)=AObj.rw (List.map wkV18 (List.map wkV15 (wL n (lefts b n l) (onB q) yqqqqq))) (some 1)∧AObj.sc 4 (AObj.rw (List.map wkV15 (wL n (lefts b n l) (onB q) yqqqqq)) (some 1))=true)∧True)∧Ob (wkV7 d q)∧Ob wkV13∧Ob wkV6∧Ob ((wkV20 b n l)=(↑(wG n (lefts b n l) (onB q) yqqqqq):Int))∧Ob (IntKind.i64.wrap ((wkV20 b n l)+(1:Int))=(↑(wT n (lefts b n l) (onB q) yqqqqq):Int))∧Ob (Value.slice (some ⟨4,0,some 0⟩) 1 0=Value.slice (some ⟨nsub wkV4 wkV28 wkV4,0,some 0⟩) yqqqqq 0)∧Ob (IntKind.i64.wrap wkV29=(yqqqqq:Int))∧True)))∧(((wkV20 b n l)==(n:Int))=false→Ob wkV5∧(False∨∃ (yqqqqqq:Nat),Ob (0<yqqqqqq∧yqqqqqq≤n)∧Ob (n-yqqqqqq<1000001)∧(Ob (wkV9 l)∧Ob (wkV10 q)∧Ob (wkV1 b n c)∧Ob (AObj.rw [vi (wkV20 b n l)] (some 1)=AObj.rw (List.map wkV18 (List.map wkV15 (wL n (lefts b n l) (onB q) yqqqqqq))) (some 1)∧AObj.sc 4 (AObj.rw (List.map wkV15 (wL n (lefts b n l) (onB q) yqqqqqq)) (some 1))=true)∧True)∧Ob (wkV7 d q)∧Ob wkV13∧Ob wkV6∧Ob ((wkV20 b n l)=(↑(wG n (lefts b n l) (onB q) yqqqqqq):Int))∧Ob (IntKind.i64.wrap ((wkV20 b n l)+(1:Int))=(↑(wT n (lefts b n l) (onB q) yqqqqqq):Int))∧Ob (Value.slice (some ⟨4,0,some 0⟩) 1 0=Value.slice (some ⟨nsub wkV4 wkV28 wkV4,0,some 0⟩) yqqqqqq 0)∧Ob (IntKind.i64.wrap wkV29=(yqqqqqq:Int))∧True))))∧(decide ((0:Int)<(q.length:Int))=false→(((wkV20 b n l)==(n:Int))=true→(decide ((0:Int)<(wkV20 b n l))=true→Ob wkV5∧(False∨∃ (yqqqqqqq:Nat),Ob (0<yqqqqqqq∧yqqqqqqq≤n)∧Ob (n-yqqqqqqq<1000001)∧(Ob (wkV9 l)∧Ob (wkV10 q)∧Ob (wkV1 b n c)∧Ob (AObj.rw [vi (IntKind.i64.wrap ((wkV20 b n l)-(1:Int)))] (some 1)=AObj.rw (List.map wkV18 (List.map wkV15 (wL n (lefts b n l) (onB q) yqqqqqqq))) (some 1)∧AObj.sc 4 (AObj.rw (List.map wkV15 (wL n (lefts b n l) (onB q) yqqqqqqq)) (some 1))=true)∧True)∧Ob (wkV7 d q)∧Ob wkV13∧Ob wkV6∧Ob (IntKind.i64.wrap ((wkV20 b n l)-(1:Int))=(↑(wG n (lefts b n l) (onB q) yqqqqqqq):Int))∧Ob ((wkV20 b n l)=(↑(wT n (lefts b n l) (onB q) yqqqqqqq):Int))∧Ob (Value.slice (some ⟨4,0,some 0⟩) 1 0=Value.slice (some ⟨nsub wkV4 wkV28 wkV4,0,some 0⟩) yqqqqqqq 0)∧Ob (IntKind.i64.wrap wkV29=(yqqqqqqq:Int))∧True))∧(decide ((0:Int)<(wkV20 b n l))=false→Ob wkV5∧(False∨∃ (yqqqqqqqq:Nat),Ob (0<yqqqqqqqq∧yqqqqqqqq≤n)∧Ob (n-yqqqqqqqq<1000001)∧(Ob (wkV9 l)∧Ob (wkV10 q)∧Ob (wkV1 b n c)∧Ob (AObj.rw [vi (wkV20 b n l)] (some 1)=AObj.rw (List.map wkV18 (List.map wkV15 (wL n (lefts b n l) (onB q) yqqqqqqqq))) (some 1)∧AObj.sc 4 (AObj.rw (List.map wkV15 (wL n (lefts b n l) (onB q) yqqqqqqqq)) (some 1))=true)∧True)∧Ob (wkV7 d q)∧Ob wkV13∧Ob wkV6∧Ob ((wkV20 b n l)=(↑(wG n (lefts b n l) (onB q) yqqqqqqqq):Int))∧Ob (IntKind.i64.wrap ((wkV20 b n l)+(1:Int))=(↑(wT n (lefts b n l) (onB q) yqqqqqqqq):Int))∧Ob (Value.slice (some ⟨4,0,some 0⟩) 1 0=Value.slice (some ⟨nsub wkV4 wkV28 wkV4,0,some 0⟩) yqqqqqqqq 0)∧Ob (IntKind.i64.wrap wkV29=(yqqqqqqqq:Int))∧True)))∧(((wkV20 b n l)==(n:Int))=false→Ob wkV5∧(False∨∃ (yqqqqqqqqq:Nat),Ob (0<yqqqqqqqqq∧yqqqqqqqqq≤n)∧Ob (n-yqqqqqqqqq<1000001)∧(Ob (wkV9 l)∧Ob (wkV10 q)∧Ob (wkV1 b n c)∧Ob (AObj.rw [vi (wkV20 b n l)] (some 1)=AObj.rw (List.map wkV18 (List.map wkV15 (wL n (lefts b n l) (onB q) yqqqqqqqqq))) (some 1)∧AObj.sc 4 (AObj.rw (List.map wkV15 (wL n (lefts b n l) (onB q) yqqqqqqqqq)) (some 1))=true)∧True)∧Ob (wkV7 d q)∧Ob wkV13∧Ob wkV6∧Ob ((wkV20 b n l)=(↑(wG n (lefts b n l) (onB q) yqqqqqqqqq):Int))∧Ob (IntKind.i64.wrap ((wkV20 b n l)+(1:Int))=(↑(wT n (lefts b n l) (onB q) yqqqqqqqqq):Int))∧Ob (Value.slice (some ⟨4,0,some 0⟩) 1 0=Value.slice (some ⟨nsub wkV4 wkV28 wkV4,0,some 0⟩) yqqqqqqqqq 0)∧Ob (IntKind.i64.wrap wkV29=(yqqqqqqqqq:Int))∧True))))∧(decide ((0:Int)<(n:Int))=false→(Ob (wkV24 l)∧Ob (wkV25 q)∧False)∧Ob (Value.slice none 0 0=Value.slice (some ⟨3,0,some 0⟩) n 0)∧True))∧∀ (xq:Nat),Ob (0<xq∧xq≤n)→(decide ((xq:Int)<(n:Int))=true→(decide ((0:Int)<(q.length:Int))=true→Ob ((q.length:Int)≠(0:Int))∧Ob ((0:Int)≤(xq:Int).tmod (q.length:Int)∧(xq:Int).tmod (q.length:Int)<(q.length:Int)∧true=true)∧Ob (IntAt IntKind.u8 (wkV3 q) (wkV27 q xq))∧Ob ((2:Int)≠(0:Int))∧(((getI (wkV3 q) (wkV27 q xq)).tmod (2:Int)==(1:Int))=true→(decide ((0:Int)<(wkV16 b n l q xq))=true→Ob (wkV0 b n l q xq)∧(False∨∃ (yqqqqqqqqqq:Nat),Ob (0<yqqqqqqqqqq∧yqqqqqqqqqq≤n)∧Ob (n-yqqqqqqqqqq<n-xq)∧(Ob (wkV11 l)∧Ob (wkV12 q)∧Ob (wkV1 b n c)∧Ob (AObj.rw (wkV22 b n l q xq) (some 1)=AObj.rw (List.map wkV19 (List.map wkV15 (wL n (lefts b n l) (onB q) yqqqqqqqqqq))) (some 1)∧AObj.sc 4 (AObj.rw (List.map wkV15 (wL n (lefts b n l) (onB q) yqqqqqqqqqq)) (some 1))=true)∧True)∧Ob (wkV8 d q)∧Ob wkV14∧Ob wkV6∧Ob (IntKind.i64.wrap ((wkV16 b n l q xq)-(1:Int))=(↑(wG n (lefts b n l) (onB q) yqqqqqqqqqq):Int))∧Ob ((wkV17 b n l q xq)=(↑(wT n (lefts b n l) (onB q) yqqqqqqqqqq):Int))∧Ob (Value.slice (some ⟨5,0,some 0⟩) (xq+1) 0=Value.slice (some ⟨nsub wkV4 wkV30 wkV4,0,some 0⟩) yqqqqqqqqqq 0)∧Ob (IntKind.i64.wrap (wkV23 xq)=(yqqqqqqqqqq:Int))∧True))∧(decide ((0:Int)<(wkV16 b n l q xq))=false→Ob (wkV0 b n l q xq)∧(False∨∃ (yqqqqqqqqqqq:Nat),Ob (0<yqqqqqqqqqqq∧yqqqqqqqqqqq≤n)∧Ob (n-yqqqqqqqqqqq<n-xq)∧(Ob (wkV11 l)∧Ob (wkV12 q)∧Ob (wkV1 b n c)∧Ob (AObj.rw (wkV21 b n l q xq) (some 1)=AObj.rw (List.map wkV19 (List.map wkV15 (wL n (lefts b n l) (onB q) yqqqqqqqqqqq))) (some 1)∧AObj.sc 4 (AObj.rw (List.map wkV15 (wL n (lefts b n l) (onB q) yqqqqqqqqqqq)) (some 1))=true)∧True)∧Ob (wkV8 d q)∧Ob wkV14∧Ob wkV6∧Ob ((wkV16 b n l q xq)=(↑(wG n (lefts b n l) (onB q) yqqqqqqqqqqq):Int))∧Ob (IntKind.i64.wrap ((wkV17 b n l q xq)+(1:Int))=(↑(wT n (lefts b n l) (onB q) yqqqqqqqqqqq):Int))∧Ob (Value.slice (some ⟨5,0,some 0⟩) (xq+1) 0=Value.slice (some ⟨nsub wkV4 wkV30 wkV4,0,some 0⟩) yqqqqqqqqqqq 0)∧Ob (IntKind.i64.wrap (wkV23 xq)=(yqqqqqqqqqqq:Int))∧True)))∧(((getI (wkV3 q) (wkV27 q xq)).tmod (2:Int)==(1:Int))=false→(((wkV17 b n l q xq)==(n:Int))=true→(decide ((0:Int)<(wkV16 b n l q xq))=true→Ob (wkV0 b n l q xq)∧(False∨∃ (yqqqqqqqqqqqq:Nat),Ob (0<yqqqqqqqqqqqq∧yqqqqqqqqqqqq≤n)∧Ob (n-yqqqqqqqqqqqq<n-xq)∧(Ob (wkV11 l)∧Ob (wkV12 q)∧Ob (wkV1 b n c)∧Ob (AObj.rw (wkV22 b n l q xq) (some 1)=AObj.rw (List.map wkV19 (List.map wkV15 (wL n (lefts b n l) (onB q) yqqqqqqqqqqqq))) (some 1)∧AObj.sc 4 (AObj.rw (List.map wkV15 (wL n (lefts b n l) (onB q) yqqqqqqqqqqqq)) (some 1))=true)∧True)∧Ob (wkV8 d q)∧Ob wkV14∧Ob wkV6∧Ob (IntKind.i64.wrap ((wkV16 b n l q xq)-(1:Int))=(↑(wG n (lefts b n l) (onB q) yqqqqqqqqqqqq):Int))∧Ob ((wkV17 b n l q xq)=(↑(wT n (lefts b n l) (onB q) yqqqqqqqqqqqq):Int))∧Ob (Value.slice (some ⟨5,0,some 0⟩) (xq+1) 0=Value.slice (some ⟨nsub wkV4 wkV30 wkV4,0,some 0⟩) yqqqqqqqqqqqq 0)∧Ob (IntKind.i64.wrap (wkV23 xq)=(yqqqqqqqqqqqq:Int))∧True))∧(decide ((0:Int)<(wkV16 b n l q xq))=false→Ob (wkV0 b n l q xq)∧(False∨∃ (yqqqqqqqqqqqqq:Nat),Ob (0<yqqqqqqqqqqqqq∧yqqqqqqqqqqqqq≤n)∧Ob (n-yqqqqqqqqqqqqq<n-xq)∧(Ob (wkV11 l)∧Ob (wkV12 q)∧Ob (wkV1 b n c)∧Ob (AObj.rw (wkV21 b n l q xq) (some 1)=AObj.rw (List.map wkV19 (List.map wkV15 (wL n (lefts b n l) (onB q) yqqqqqqqqqqqqq))) (some 1)∧AObj.sc 4 (AObj.rw (List.map wkV15 (wL n (lefts b n l) (onB q) yqqqqqqqqqqqqq)) (some 1))=true)∧True)∧Ob (wkV8 d q)∧Ob wkV14∧Ob wkV6∧Ob ((wkV16 b n l q xq)=(↑(wG n (lefts b n l) (onB q) yqqqqqqqqqqqqq):Int))∧Ob (IntKind.i64.wrap ((wkV17 b n l q xq)+(1:Int))=(↑(wT n (lefts b n l) (onB q) yqqqqqqqqqqqqq):Int))∧Ob (Value.slice (some ⟨5,0,some 0⟩) (xq+1) 0=Value.slice (some ⟨nsub wkV4 wkV30 wkV4,0,some 0⟩) yqqqqqqqqqqqqq 0)∧Ob (IntKind.i64.wrap (wkV23 xq)=(yqqqqqqqqqqqqq:Int))∧True)))∧(((wkV17 b n l q xq)==(n:Int))=false→Ob (wkV0 b n l q xq)∧(False∨∃ (yqqqqqqqqqqqqqq:Nat),Ob (0<yqqqqqqqqqqqqqq∧yqqqqqqqqqqqqqq≤n)∧Ob (n-yqqqqqqqqqqqqqq<n-xq)∧(Ob (wkV11 l)∧Ob (wkV12 q)∧Ob (wkV1 b n c)∧Ob (AObj.rw (wkV21 b n l q xq) (some 1)=AObj.rw (List.map wkV19 (List.map wkV15 (wL n (lefts b n l) (onB q) yqqqqqqqqqqqqqq))) (some 1)∧AObj.sc 4 (AObj.rw (List.map wkV15 (wL n (lefts b n l) (onB q) yqqqqqqqqqqqqqq)) (some 1))=true)∧True)∧Ob (wkV8 d q)∧Ob wkV14∧Ob wkV6∧Ob ((wkV16 b n l q xq)=(↑(wG n (lefts b n l) (onB q) yqqqqqqqqqqqqqq):Int))∧Ob (IntKind.i64.wrap ((wkV17 b n l q xq)+(1:Int))=(↑(wT n (lefts b n l) (onB q) yqqqqqqqqqqqqqq):Int))∧Ob (Value.slice (some ⟨5,0,some 0⟩) (xq+1) 0=Value.slice (some ⟨nsub wkV4 wkV30 wkV4,0,some 0⟩) yqqqqqqqqqqqqqq 0)∧Ob (IntKind.i64.wrap (wkV23 xq)=(yqqqqqqqqqqqqqq:Int))∧True))))∧(decide ((0:Int)<(q.length:Int))=false→(((wkV17 b n l q xq)==(n:Int))=true→(decide ((0:Int)<(wkV16 b n l q xq))=true→Ob (wkV0 b n l q xq)∧(False∨∃ (yqqqqqqqqqqqqqqq:Nat),Ob (0<yqqqqqqqqqqqqqqq∧yqqqqqqqqqqqqqqq≤n)∧Ob (n-yqqqqqqqqqqqqqqq<n-xq)∧(Ob (wkV11 l)∧Ob (wkV12 q)∧Ob (wkV1 b n c)∧Ob (AObj.rw (wkV22 b n l q xq) (some 1)=AObj.rw (List.map wkV19 (List.map wkV15 (wL n (lefts b n l) (onB q) yqqqqqqqqqqqqqqq))) (some 1)∧AObj.sc 4 (AObj.rw (List.map wkV15 (wL n (lefts b n l) (onB q) yqqqqqqqqqqqqqqq)) (some 1))=true)∧True)∧Ob (wkV8 d q)∧Ob wkV14∧Ob wkV6∧Ob (IntKind.i64.wrap ((wkV16 b n l q xq)-(1:Int))=(↑(wG n (lefts b n l) (onB q) yqqqqqqqqqqqqqqq):Int))∧Ob ((wkV17 b n l q xq)=(↑(wT n (lefts b n l) (onB q) yqqqqqqqqqqqqqqq):Int))∧Ob (Value.slice (some ⟨5,0,some 0⟩) (xq+1) 0=Value.slice (some ⟨nsub wkV4 wkV30 wkV4,0,some 0⟩) yqqqqqqqqqqqqqqq 0)∧Ob (IntKind.i64.wrap (wkV23 xq)=(yqqqqqqqqqqqqqqq:Int))∧True))∧(decide ((0:Int)<(wkV16 b n l q xq))=false→Ob (wkV0 b n l q xq)∧(False∨∃ (yqqqqqqqqqqqqqqqq:Nat),Ob (0<yqqqqqqqqqqqqqqqq∧yqqqqqqqqqqqqqqqq≤n)∧Ob (n-yqqqqqqqqqqqqqqqq<n-xq)∧(Ob (wkV11 l)∧Ob (wkV12 q)∧Ob (wkV1 b n c)∧Ob (AObj.rw (wkV21 b n l q xq) (some 1)=AObj.rw (List.map wkV19 (List.map wkV15 (wL n (lefts b n l) (onB q) yqqqqqqqqqqqqqqqq))) (some 1)∧AObj.sc 4 (AObj.rw (List.map wkV15 (wL n (lefts b n l) (onB q) yqqqqqqqqqqqqqqqq)) (some 1))=true)∧True)∧Ob (wkV8 d q)∧Ob wkV14∧Ob wkV6∧Ob ((wkV16 b n l q xq)=(↑(wG n (lefts b n l) (onB q) yqqqqqqqqqqqqqqqq):Int))∧Ob (IntKind.i64.wrap ((wkV17 b n l q xq)+(1:Int))=(↑(wT n (lefts b n l) (onB q) yqqqqqqqqqqqqqqqq):Int))∧Ob (Value.slice (some ⟨5,0,some 0⟩) (xq+1) 0=Value.slice (some ⟨nsub wkV4 wkV30 wkV4,0,some 0⟩) yqqqqqqqqqqqqqqqq 0)∧Ob (IntKind.i64.wrap (wkV23 xq)=(yqqqqqqqqqqqqqqqq:Int))∧True)))∧(((wkV17 b n l q xq)==(n:Int))=false→Ob (wkV0 b n l q xq)∧(False∨∃ (yqqqqqqqqqqqqqqqqq:Nat),Ob (0<yqqqqqqqqqqqqqqqqq∧yqqqqqqqqqqqqqqqqq≤n)∧Ob (n-yqqqqqqqqqqqqqqqqq<n-xq)∧(Ob (wkV11 l)∧Ob (wkV12 q)∧Ob (wkV1 b n c)∧Ob (AObj.rw (wkV21 b n l q xq) (some 1)=AObj.rw (List.map wkV19 (List.map wkV15 (wL n (lefts b n l) (onB q) yqqqqqqqqqqqqqqqqq))) (some 1)∧AObj.sc 4 (AObj.rw (List.map wkV15 (wL n (lefts b n l) (onB q) yqqqqqqqqqqqqqqqqq)) (some 1))=true)∧True)∧Ob (wkV8 d q)∧Ob wkV14∧Ob wkV6∧Ob ((wkV16 b n l q xq)=(↑(wG n (lefts b n l) (onB q) yqqqqqqqqqqqqqqqqq):Int))∧Ob (IntKind.i64.wrap ((wkV17 b n l q xq)+(1:Int))=(↑(wT n (lefts b n l) (onB q) yqqqqqqqqqqqqqqqqq):Int))∧Ob (Value.slice (some ⟨5,0,some 0⟩) (xq+1) 0=Value.slice (some ⟨nsub wkV4 wkV30 wkV4,0,some 0⟩) yqqqqqqqqqqqqqqqqq 0)∧Ob (IntKind.i64.wrap (wkV23 xq)=(yqqqqqqqqqqqqqqqqq:Int))∧True))))∧(decide ((xq:Int)<(n:Int))=false→(Ob (wkV24 l)∧Ob (wkV25 q)∧Ob (AObj.rw (List.map wkV15 (wL n (lefts b n l) (onB q) xq)) (some 1)=AObj.rw (List.map (nmap1 (nsub 2 3)) (List.map wkV15 (wL n (lefts b n l) (onB q) n))) (some 1)∧AObj.sc 3 (AObj.rw (List.map wkV15 (wL n (lefts b n l) (onB q) n)) (some 1))=true)∧True)∧Ob (Value.slice (some ⟨2+1,0,some 0⟩) xq 0=Value.slice (some ⟨3,0,some 0⟩) n 0)∧True)
theorem wkV_eq : wkV = fun (b : Int) (n c d : Nat) (l q : List Int) => vc Try.prog wkE 2 57 true (wkI b n c l (onB q) (sl1 q.length d) [ros l,roU q]) wkB [] (argFr 0 [pierV b (some ⟨0,0,none⟩) n c,sl1 q.length d]) [ros l,roU q] (retR Try.prog Try.f46 2 (nsub 2 3) (newS 2 n) [ros l,roU q,rws (wL n (lefts b n l) (onB q) n)]) := by kernel_rfl
section
variable {n f : Nat} {o : Nat→Bool} {i : Nat}
theorem wS_left (h : wT n f o i = n∨o i = true) (h2 : 0 < wG n f o i) : wS n f o (i + 1) = (wG n f o i - 1,wT n f o i,wL n f o i ++ [((wG n f o i - 1 : Nat) : Int)]) := by
 rw [wS]; exact if_pos ⟨h,h2⟩
theorem wS_right (h : ¬ ((wT n f o i = n∨o i = true)∧0 < wG n f o i)) : wS n f o (i + 1) = (wG n f o i,wT n f o i + 1,wL n f o i ++ [(wT n f o i : Int)]) := by
 rw [wS]; exact if_neg h
theorem wS_begun (hf : f≤n) : ∀ i,i≤n→Begun n (wG n f o i) (wT n f o i) (wL n f o i)∧(wL n f o i).length = i
 | 0,_ => ⟨begun_nil hf,rfl⟩
 | i + 1,hi => by
   obtain ⟨hB,hl⟩ := wS_begun hf i (by omega)
   have h1 := hB.len
   have h2 := hB.le
   by_cases h : (wT n f o i = n∨o i = true)∧0 < wG n f o i
   · unfold wG wT wL
     rw [wS_left h.1 h.2]
     exact ⟨hB.left h.2,by simp [hl]⟩
   · unfold wG wT wL
     rw [wS_right h]
     have ht : wT n f o i < n := by
       rcases Nat.lt_or_ge (wT n f o i) n with e | e
       · exact e
       · exfalso
         exact h ⟨.inl (by omega),by omega⟩
     exact ⟨hB.right ht,by simp [hl]⟩
theorem wS_mem (hf : f≤n) : ∀ (k i : Nat),i + k = n→wL n f o n ∈ rds n k (wG n f o i) (wT n f o i) (wL n f o i)
 | 0,i,h => by
   obtain rfl : i = n := by omega
   rw [rds]; exact List.mem_singleton.2 rfl
 | k + 1,i,h => by
   obtain ⟨hB,hl⟩ := wS_begun (o := o) hf i (by omega)
   have h1 := hB.len
   have h2 := hB.le
   have := wS_mem hf k (i + 1) (by omega)
   rw [rds]
   by_cases hh : (wT n f o i = n∨o i = true)∧0 < wG n f o i
   · refine List.mem_append_left _ ?_
     rw [if_pos hh.2]
     unfold wG wT at this
     rw [show wL n f o (i + 1) = wL n f o i ++ [((wG n f o i - 1 : Nat) : Int)] by unfold wL; rw [wS_left hh.1 hh.2]; rfl,wS_left hh.1 hh.2] at this
     exact this
   · have ht : wT n f o i < n := by
       rcases Nat.lt_or_ge (wT n f o i) n with e | e
       · exact e
       · exfalso
         exact hh ⟨.inl (by omega),by omega⟩
     refine List.mem_append_right _ ?_
     rw [if_pos ht]
     unfold wG wT at this
     rw [show wL n f o (i + 1) = wL n f o i ++ [(wT n f o i : Int)] by unfold wL; rw [wS_right hh]; rfl,wS_right hh] at this
     exact this
theorem walked_mem (hf : f≤n) : wL n f o n ∈ rds n n f f [] := wS_mem (o := o) hf n 0 (by omega)
theorem w_left (hf : f≤n) (hn : n≤10) (hi : i < n) (h : wT n f o i = n∨o i = true) (h2 : 0 < wG n f o i) :
   List.map (Value.int .i64) (wL n f o i ++ [IntKind.i64.wrap ((wG n f o i : Int) - 1)]) = List.map (Value.int .i64) (wL n f o (i + 1))∧IntKind.i64.wrap ((wG n f o i : Int) - 1) = (wG n f o (i + 1) : Int)∧(wT n f o i : Int) = (wT n f o (i + 1) : Int) := by
 obtain ⟨hB,hl⟩ := wS_begun (o := o) hf i (by omega)
 have h3 := hB.len
 have h4 := hB.le
 have w1 : IntKind.i64.wrap ((wG n f o i : Int) - 1) = ((wG n f o i - 1 : Nat) : Int) := by rw [wrap_in (by omega) (by omega)]; omega
 have e := wS_left h h2
 rw [w1]
 refine ⟨?_,?_,?_⟩
 · show _ = List.map _ (wS n f o (i + 1)).2.2
   rw [e]
 · show _ = (((wS n f o (i + 1)).1 : Nat) : Int)
   rw [e]
 · show _ = (((wS n f o (i + 1)).2.1 : Nat) : Int)
   rw [e]
theorem w_right (hf : f≤n) (hn : n≤10) (hi : i < n) (h : ¬ ((wT n f o i = n∨o i = true)∧0 < wG n f o i)) :
   List.map (Value.int .i64) (wL n f o i ++ [(wT n f o i : Int)]) = List.map (Value.int .i64) (wL n f o (i + 1))∧(wG n f o i : Int) = (wG n f o (i + 1) : Int)∧IntKind.i64.wrap ((wT n f o i : Int) + 1) = (wT n f o (i + 1) : Int) := by
 obtain ⟨hB,hl⟩ := wS_begun (o := o) hf i (by omega)
 have h3 := hB.len
 have h4 := hB.le
 have w1 : IntKind.i64.wrap ((wT n f o i : Int) + 1) = ((wT n f o i + 1 : Nat) : Int) := by rw [wrap_in (by omega) (by omega)]; omega
 have e := wS_right h
 rw [w1]
 refine ⟨?_,?_,?_⟩
 · show _ = List.map _ (wS n f o (i + 1)).2.2
   rw [e]
 · show _ = (((wS n f o (i + 1)).1 : Nat) : Int)
   rw [e]
 · show _ = (((wS n f o (i + 1)).2.1 : Nat) : Int)
   rw [e]
end
theorem on_iff {q : List Int} {i : Nat} : (q.getD ((i : Int).tmod (q.length : Int)).toNat 0).tmod 2 = 1 ↔ onB q i = true := by
 unfold onB
 rw [← Int.ofNat_tmod,Int.toNat_natCast,decide_eq_true_eq]
theorem wkV_ok (b : Int) (n c d : Nat) (l q : List Int) (hl : l.length = n * 2) (hn : n≤10) (hn1 : 1≤n) (hq : 0 < q.length∧q.length≤1000) : wkV b n c d l q := by
 unfold wkV wkV30 wkV29 wkV28 wkV27 wkV26 wkV25 wkV24 wkV23 wkV22 wkV21 wkV20 wkV19 wkV18 wkV17 wkV16 wkV15 wkV14 wkV13 wkV12 wkV11 wkV10 wkV9 wkV8 wkV7 wkV6 wkV5 wkV4 wkV3 wkV2 wkV1 wkV0
 simp only [SS,reduceCtorEq,Arg.list,Arg.num,Arg.flag,intOf,andP,Nat.reduceLeDiff,Nat.reduceAdd,Nat.reduceMul,Nat.reduceLT,roU]
 have hf := lefts_le (b := b) (n := n) (l := l)
 have hw := fun i hi => (wS_begun (o := onB q) hf i hi).2
 generalize lefts b n l = f at *
 have tm : ∀ i : Nat,(0≤(i : Int).tmod (q.length : Int)∧(i : Int).tmod (q.length : Int) < (q.length : Int))∧((i : Int).tmod (q.length : Int)).toNat < q.length := fun i => by
   rw [← Int.ofNat_tmod,Int.toNat_natCast]
   have := Nat.mod_lt i hq.1
   omega
 refine ⟨⟨flat_ints,okL_ints hl (by omega)⟩,⟨fun h0 => ⟨fun _ => ⟨by omega,(tm 0).1,(tm 0).2,by decide,fun on => ?_,fun on => ?_⟩,fun h => by omega⟩,fun h => by omega⟩,fun x hx => ⟨fun h1 => ⟨fun _ => ⟨by omega,(tm x).1,(tm x).2,by decide,fun on => ?_,fun on => ?_⟩,fun h => by omega⟩,fun h1 => ?_⟩⟩
 · have on' : onB q 0 = true := on_iff.1 on
   refine ⟨fun g => ?_,fun g => ?_⟩
   · have k := w_left (i := 0) hf hn (by omega) (.inr on') (show 0 < f by omega)
     exact ⟨1,by omega,by omega,k.1,rfl,rfl,k.2.1,k.2.2,⟨rfl,rfl⟩,by decide⟩
   · have k := w_right (o := onB q) (i := 0) hf hn (by omega) (fun h => g (by have := h.2; have e : wG n f (onB q) 0 = f := rfl; omega))
     exact ⟨1,by omega,by omega,k.1,rfl,rfl,k.2.1,k.2.2,⟨rfl,rfl⟩,by decide⟩
 · have on' : ¬ onB q 0 = true := fun h => on (on_iff.2 h)
   refine ⟨fun tn => ⟨fun g => ?_,fun g => ?_⟩,fun tn => ?_⟩
   · have k := w_left (o := onB q) (i := 0) hf hn (by omega) (.inl (show f = n by omega)) (show 0 < f by omega)
     exact ⟨1,by omega,by omega,k.1,rfl,rfl,k.2.1,k.2.2,⟨rfl,rfl⟩,by decide⟩
   · have k := w_right (o := onB q) (i := 0) hf hn (by omega) (fun h => g (by have := h.2; have e : wG n f (onB q) 0 = f := rfl; omega))
     exact ⟨1,by omega,by omega,k.1,rfl,rfl,k.2.1,k.2.2,⟨rfl,rfl⟩,by decide⟩
   · have k := w_right (o := onB q) (i := 0) hf hn (by omega) (fun h => h.1.elim (fun h => tn (by have e : wT n f (onB q) 0 = f := rfl; omega)) on')
     exact ⟨1,by omega,by omega,k.1,rfl,rfl,k.2.1,k.2.2,⟨rfl,rfl⟩,by decide⟩
 · have on' : onB q x = true := on_iff.1 on
   refine ⟨fun g => ?_,fun g => ?_⟩
   · have k := w_left (i := x) hf hn (by omega) (.inr on') (by omega)
     exact ⟨⟨by omega,by omega,hw x (by omega)⟩,x + 1,by omega,by omega,k.1,rfl,rfl,k.2.1,k.2.2,⟨rfl,rfl⟩,wrap_succ (n := n) (by omega) (by omega)⟩
   · have k := w_right (o := onB q) (i := x) hf hn (by omega) (fun h => g (by have := h.2; omega))
     exact ⟨⟨by omega,by omega,hw x (by omega)⟩,x + 1,by omega,by omega,k.1,rfl,rfl,k.2.1,k.2.2,⟨rfl,rfl⟩,wrap_succ (n := n) (by omega) (by omega)⟩
 · have on' : ¬ onB q x = true := fun h => on (on_iff.2 h)
   refine ⟨fun tn => ⟨fun g => ?_,fun g => ?_⟩,fun tn => ?_⟩
   · have k := w_left (o := onB q) (i := x) hf hn (by omega) (.inl (by omega)) (by omega)
     exact ⟨⟨by omega,by omega,hw x (by omega)⟩,x + 1,by omega,by omega,k.1,rfl,rfl,k.2.1,k.2.2,⟨rfl,rfl⟩,wrap_succ (n := n) (by omega) (by omega)⟩
   · have k := w_right (o := onB q) (i := x) hf hn (by omega) (fun h => g (by have := h.2; omega))
     exact ⟨⟨by omega,by omega,hw x (by omega)⟩,x + 1,by omega,by omega,k.1,rfl,rfl,k.2.1,k.2.2,⟨rfl,rfl⟩,wrap_succ (n := n) (by omega) (by omega)⟩
   · have k := w_right (o := onB q) (i := x) hf hn (by omega) (fun h => h.1.elim (fun h => tn (by omega)) on')
     exact ⟨⟨by omega,by omega,hw x (by omega)⟩,x + 1,by omega,by omega,k.1,rfl,rfl,k.2.1,k.2.2,⟨rfl,rfl⟩,wrap_succ (n := n) (by omega) (by omega)⟩
 · rw [show x = n by omega]; exact ⟨rfl,rfl⟩
theorem wkN_ok (b : Int) (n c : Nat) (l : List Int) (hl : l.length = n * 2) (hn : n≤10) (hn1 : 1≤n) : wkN b n c l := by
 unfold wkN wkN14 wkN13 wkN12 wkN11 wkN10 wkN9 wkN8 wkN7 wkN6 wkN5 wkN4 wkN3 wkN2 wkN1 wkN0
 simp only [SS,reduceCtorEq,Arg.list,Arg.num,Arg.flag,intOf,andP,Nat.reduceLeDiff,Nat.reduceAdd,Nat.reduceMul,Nat.reduceLT,roU]
 have hf := lefts_le (b := b) (n := n) (l := l)
 have hw := fun i hi => (wS_begun (o := fun _ => false) hf i hi).2
 generalize lefts b n l = f at *
 have nf : ¬ ((fun _ : Nat => false) 0 = true) := by decide
 refine ⟨⟨flat_ints,okL_ints hl (by omega)⟩,⟨fun h0 => ⟨fun tn => ⟨fun g => ?_,fun g => ?_⟩,fun tn => ?_⟩,fun h => by omega⟩,fun x hx => ⟨fun h1 => ⟨fun tn => ⟨fun g => ?_,fun g => ?_⟩,fun tn => ?_⟩,fun h1 => ?_⟩⟩
 · have k := w_left (o := fun _ => false) (i := 0) hf hn (by omega) (.inl (show f = n by omega)) (show 0 < f by omega)
   exact ⟨1,by omega,by omega,k.1,rfl,k.2.1,k.2.2,⟨rfl,rfl⟩,by decide⟩
 · have k := w_right (o := fun _ => false) (i := 0) hf hn (by omega) (fun h => g (by have := h.2; have e : wG n f (fun _ => false) 0 = f := rfl; omega))
   exact ⟨1,by omega,by omega,k.1,rfl,k.2.1,k.2.2,⟨rfl,rfl⟩,by decide⟩
 · have k := w_right (o := fun _ => false) (i := 0) hf hn (by omega) (fun h => h.1.elim (fun h => tn (by have e : wT n f (fun _ => false) 0 = f := rfl; omega)) nf)
   exact ⟨1,by omega,by omega,k.1,rfl,k.2.1,k.2.2,⟨rfl,rfl⟩,by decide⟩
 · have k := w_left (o := fun _ => false) (i := x) hf hn (by omega) (.inl (by omega)) (by omega)
   exact ⟨⟨by omega,by omega,hw x (by omega)⟩,x + 1,by omega,by omega,k.1,rfl,k.2.1,k.2.2,⟨rfl,rfl⟩,wrap_succ (n := n) (by omega) (by omega)⟩
 · have k := w_right (o := fun _ => false) (i := x) hf hn (by omega) (fun h => g (by have := h.2; omega))
   exact ⟨⟨by omega,by omega,hw x (by omega)⟩,x + 1,by omega,by omega,k.1,rfl,k.2.1,k.2.2,⟨rfl,rfl⟩,wrap_succ (n := n) (by omega) (by omega)⟩
 · have k := w_right (o := fun _ => false) (i := x) hf hn (by omega) (fun h => h.1.elim (fun h => tn (by omega)) nf)
   exact ⟨⟨by omega,by omega,hw x (by omega)⟩,x + 1,by omega,by omega,k.1,rfl,k.2.1,k.2.2,⟨rfl,rfl⟩,wrap_succ (n := n) (by omega) (by omega)⟩
 · rw [show x = n by omega]; exact ⟨rfl,rfl⟩
theorem wkH_ok (b : Int) (n c d : Nat) (s : Option Nat) (l : List Int) (hl : l.length = n * 2) (hn : n≤10) (hn1 : 1≤n) : wkH b n c d s l := by
 unfold wkH wkH17 wkH16 wkH15 wkH14 wkH13 wkH12 wkH11 wkH10 wkH9 wkH8 wkH7 wkH6 wkH5 wkH4 wkH3 wkH2 wkH1 wkH0
 simp only [SS,reduceCtorEq,Arg.list,Arg.num,Arg.flag,intOf,andP,Nat.reduceLeDiff,Nat.reduceAdd,Nat.reduceMul,Nat.reduceLT,roU]
 have hf := lefts_le (b := b) (n := n) (l := l)
 have hw := fun i hi => (wS_begun (o := fun _ => false) hf i hi).2
 generalize lefts b n l = f at *
 have nf : ¬ ((fun _ : Nat => false) 0 = true) := by decide
 refine ⟨⟨flat_ints,okL_ints hl (by omega)⟩,⟨fun h0 => ⟨fun tn => ⟨fun g => ?_,fun g => ?_⟩,fun tn => ?_⟩,fun h => by omega⟩,fun x hx => ⟨fun h1 => ⟨fun tn => ⟨fun g => ?_,fun g => ?_⟩,fun tn => ?_⟩,fun h1 => ?_⟩⟩
 · have k := w_left (o := fun _ => false) (i := 0) hf hn (by omega) (.inl (show f = n by omega)) (show 0 < f by omega)
   exact ⟨1,by omega,by omega,k.1,rfl,rfl,k.2.1,k.2.2,⟨rfl,rfl⟩,by decide⟩
 · have k := w_right (o := fun _ => false) (i := 0) hf hn (by omega) (fun h => g (by have := h.2; have e : wG n f (fun _ => false) 0 = f := rfl; omega))
   exact ⟨1,by omega,by omega,k.1,rfl,rfl,k.2.1,k.2.2,⟨rfl,rfl⟩,by decide⟩
 · have k := w_right (o := fun _ => false) (i := 0) hf hn (by omega) (fun h => h.1.elim (fun h => tn (by have e : wT n f (fun _ => false) 0 = f := rfl; omega)) nf)
   exact ⟨1,by omega,by omega,k.1,rfl,rfl,k.2.1,k.2.2,⟨rfl,rfl⟩,by decide⟩
 · have k := w_left (o := fun _ => false) (i := x) hf hn (by omega) (.inl (by omega)) (by omega)
   exact ⟨⟨by omega,by omega,hw x (by omega)⟩,x + 1,by omega,by omega,k.1,rfl,rfl,k.2.1,k.2.2,⟨rfl,rfl⟩,wrap_succ (n := n) (by omega) (by omega)⟩
 · have k := w_right (o := fun _ => false) (i := x) hf hn (by omega) (fun h => g (by have := h.2; omega))
   exact ⟨⟨by omega,by omega,hw x (by omega)⟩,x + 1,by omega,by omega,k.1,rfl,rfl,k.2.1,k.2.2,⟨rfl,rfl⟩,wrap_succ (n := n) (by omega) (by omega)⟩
 · have k := w_right (o := fun _ => false) (i := x) hf hn (by omega) (fun h => h.1.elim (fun h => tn (by omega)) nf)
   exact ⟨⟨by omega,by omega,hw x (by omega)⟩,x + 1,by omega,by omega,k.1,rfl,rfl,k.2.1,k.2.2,⟨rfl,rfl⟩,wrap_succ (n := n) (by omega) (by omega)⟩
 · rw [show x = n by omega]; exact ⟨rfl,rfl⟩
theorem wkE_ok : VOk Try.prog wkE := ⟨CtOk.none.add leG_ok,E0_ok.cc,E0_ok.yc,prE1_ok.orc⟩
theorem wkN_call (b : Int) (n c : Nat) (l : List Int) (hl : l.length = n * 2) (hn : n≤10) (hn1 : 1≤n) : Call Try.prog 46 [pierV b (some ⟨0,0,none⟩) n c,nilS] [ros l] fun v H' => v = newS 1 n∧H' = [ros l,rws (wL n (lefts b n l) (fun _ => false) n)] := by
 have h := wkN_ok b n c l hl hn hn1
 rw [wkN_eq] at h
 exact Call.ofVcR (H := [ros l]) (args := [pierV b (some ⟨0,0,none⟩) n c,nilS]) (σ := nsub 1 2) (v2 := newS 1 n) (H2 := [ros l,rws (wL n (lefts b n l) (fun _ => false) n)]) wkE_ok mixed (c := wkB) (inv := wkI b n c l (fun _ => false) nilS [ros l]) Try.func46 (by kernel_rfl) (cast (by kernel_rfl) h)
theorem wkH_call (b : Int) (n c d : Nat) (s : Option Nat) (l : List Int) (hl : l.length = n * 2) (hn : n≤10) (hn1 : 1≤n) : Call Try.prog 46 [pierV b (some ⟨0,0,none⟩) n c,.slice (some ⟨1,0,s⟩) 0 d] [ros l,.gone] fun v H' => v = newS 2 n∧H' = [ros l,.gone,rws (wL n (lefts b n l) (fun _ => false) n)] := by
 have h := wkH_ok b n c d s l hl hn hn1
 rw [wkH_eq] at h
 exact Call.ofVcR (H := [ros l,.gone]) (args := [pierV b (some ⟨0,0,none⟩) n c,.slice (some ⟨1,0,s⟩) 0 d]) (σ := nsub 2 3) (v2 := newS 2 n) (H2 := [ros l,.gone,rws (wL n (lefts b n l) (fun _ => false) n)]) wkE_ok mixed (c := wkB) (inv := wkI b n c l (fun _ => false) (.slice (some ⟨1,0,s⟩) 0 d) [ros l,.gone]) Try.func46 (by kernel_rfl) (cast (by kernel_rfl) h)
theorem wkV_call (b : Int) (n c d : Nat) (l q : List Int) (hl : l.length = n * 2) (hn : n≤10) (hn1 : 1≤n) (hq : 0 < q.length∧q.length≤1000) : Call Try.prog 46 [pierV b (some ⟨0,0,none⟩) n c,sl1 q.length d] [ros l,roU q] fun v H' => v = newS 2 n∧H' = [ros l,roU q,rws (wL n (lefts b n l) (onB q) n)] := by
 have h := wkV_ok b n c d l q hl hn hn1 hq
 rw [wkV_eq] at h
 exact Call.ofVcR (H := [ros l,roU q]) (args := [pierV b (some ⟨0,0,none⟩) n c,sl1 q.length d]) (σ := nsub 2 3) (v2 := newS 2 n) (H2 := [ros l,roU q,rws (wL n (lefts b n l) (onB q) n)]) wkE_ok mixed (c := wkB) (inv := wkI b n c l (onB q) (sl1 q.length d) [ros l,roU q]) Try.func46 (by kernel_rfl) (cast (by kernel_rfl) h)
end Go.Pier.Rd
namespace Go.Pier.Rd
open Go Go.Pier Go.Proofs
theorem rds_length {n : Nat} : ∀ (κ f t : Nat) (m : List Int),(rds n κ f t m).length≤2 ^ κ
 | 0,_,_,_ => by rw [rds]; exact Nat.le_refl _
 | κ + 1,f,t,m => by
   have h1 := rds_length (n := n) κ (f - 1) t (m ++ [((f - 1 : Nat) : Int)])
   have h2 := rds_length (n := n) κ f (t + 1) (m ++ [(t : Int)])
   rw [rds,List.length_append,Nat.pow_succ]
   have e1 : (if 0 < f then rds n κ (f - 1) t (m ++ [((f - 1 : Nat) : Int)]) else []).length≤2 ^ κ := by
     split
     · exact h1
     · exact Nat.zero_le _
   have e2 : (if t < n then rds n κ f (t + 1) (m ++ [(t : Int)]) else []).length≤2 ^ κ := by
     split
     · exact h2
     · exact Nat.zero_le _
   omega
section
variable {b : Int} {n : Nat} {l : List Int} (hP : errP b n l = 0)
include hP
end
section
variable {b : Int} {n : Nat} {l l' : List Int} (hp : ∀ i,i < n→pl l' i = pl l i)
include hp
theorem lf_same : ∀ (x i : Nat),i + x≤n→lf b l' x i = lf b l x i
 | 0,_,_ => rfl
 | x + 1,i,h => by rw [lf,lf,hp i (by omega),lf_same x (i + 1) (by omega)]
theorem lefts_same : lefts b n l' = lefts b n l := lf_same hp n 0 (by omega)
variable {m : List Int} (hm : ∀ j,j < m.length→0≤m.getD j 0∧m.getD j 0 < n)
include hm
theorem rAt_same : ∀ x,x≤m.length→rAt b l' m x = rAt b l m x
 | 0,_ => rfl
 | x + 1,h => by
   have := hm x (by omega)
   rw [rAt,rAt,hp _ (by omega)]
theorem rSt_same : ∀ x,x≤m.length→rSt b l' m x = rSt b l m x
 | 0,_ => rfl
 | x + 1,h => by
   have := hm x (by omega)
   rw [rSt,rSt,rSt_same x (by omega),rAt_same hp hm x (by omega),hp _ (by omega)]
theorem sf_same (a : Nat) : ∀ x,x≤m.length→sf b l' m x a = sf b l m x a
 | 0,_ => rfl
 | x + 1,h => by rw [sf,sf,sf_same a x (by omega),rSt_same hp hm (x + 1) h]
theorem stp_same : stp b l' m = stp b l m := funext fun a => sf_same hp hm a m.length (Nat.le_refl _)
end
end Go.Pier.Rd
namespace Go.Pier.Rd
open Go Go.Pier Go.Proofs
theorem foldC_count {b : Int} {l : List Int} {g : (Nat→Int)→Bool} : ∀ (r : List (List Int)) (k : Int),0≤k→k + r.length≤1000000→foldC b l g k r = k + (r.countP fun m => g (stp b l m) : Nat)
 | [],k,_,_ => by rw [foldC]; simp
 | m :: r,k,h0,h => by
   rw [List.length_cons] at h
   rw [foldC,List.countP_cons]
   unfold stepC
   cases hg : g (stp b l m) with
   | true =>
     have w : IntKind.i64.wrap (k + 1) = k + 1 := wrap_in (by omega) (by omega)
     show foldC b l g (IntKind.i64.wrap (k + 1)) r = _
     rw [w,foldC_count r (k + 1) (by omega) (by omega)]
     simp only [if_true]; omega
   | false =>
     show foldC b l g k r = _
     rw [foldC_count r k h0 (by omega)]
     simp
theorem cnt_mono {b : Int} {n : Nat} {l l' : List Int} (hP : errP b n l = 0) (hp : ∀ i,i < n→pl l' i = pl l i) (ht : ∀ i,i < n→tw l i≤tw l' i) : cntF b n l≤cntF b n l' := by
 obtain ⟨⟨n1,n2⟩,hr,ho⟩ := errP_cases hP
 have hlen := rds_length (n := n) n (lefts b n l) (lefts b n l) []
 have hpow : 2 ^ n≤2 ^ 10 := Nat.pow_le_pow_right (by decide) n2
 have h10 : (2 : Nat) ^ 10 = 1024 := by decide
 have hw : ∀ m ∈ rds n n (lefts b n l) (lefts b n l) [],Whole n m := fun m hm => rds_mem_whole lefts_le m hm
 unfold cntF fdC
 rw [lefts_same hp,foldC_count _ 0 (by omega) (by omega),foldC_count _ 0 (by omega) (by omega)]
 have := List.countP_mono_left (l := rds n n (lefts b n l) (lefts b n l) []) (p := fun m => inTB n l (stp b l m)) (q := fun m => inTB n l' (stp b l' m)) (fun m hm h => by
   rw [stp_same hp (whole_mem (hw m hm))]
   have h1 := of_dB h
   exact (dB_true fun i hi => by have := h1 i hi; have := ht i hi; omega).symm)
 omega
def dn (g a : Int) : Int := if g < a then a - 1 else a
def del (g : Int) (m : List Int) : List Int := (m.filter fun a => a != g).map (dn g)
theorem del_append {g : Int} {m m' : List Int} : del g (m ++ m') = del g m ++ del g m' := by
 unfold del; rw [List.filter_append,List.map_append]
theorem del_same {g : Int} : del g [g] = [] := by unfold del; simp
theorem del_other {g a : Int} (h : a ≠ g) : del g [a] = [dn g a] := by unfold del; simp [h]
theorem del_snoc {g a : Int} {m : List Int} (h : a ≠ g) : del g (m ++ [a]) = del g m ++ [dn g a] := by rw [del_append,del_other h]
theorem del_gone {g : Int} {m : List Int} : del g (m ++ [g]) = del g m := by rw [del_append,del_same,List.append_nil]
theorem rds_first {n : Nat} (hn : 1≤n) : ∀ (κ f t : Nat) (m : List Int),f + (n - t) = κ→f≤t→t≤n→∀ r ∈ rds n κ f t m,del 0 r ∈ rds (n - 1) (f - 1 + (n - 1 - (t - 1))) (f - 1) (t - 1) (del 0 m)
 | 0,f,t,m,hk,hft,htn,r,hr => by
   rw [rds,List.mem_singleton] at hr
   subst hr
   have e1 : f = 0 := by omega
   have e2 : t = n := by omega
   subst e1; subst e2
   rw [show 0 - 1 + (t - 1 - (t - 1)) = 0 by omega,rds]
   exact List.mem_singleton.2 rfl
 | κ + 1,f,t,m,hk,hft,htn,r,hr => by
   rw [rds] at hr
   rcases List.mem_append.1 hr with hr | hr
   · split at hr
     · rename_i hf
       have ih := rds_first hn κ (f - 1) t _ (by omega) (by omega) htn r hr
       by_cases e : f = 1
       · subst e
         rw [show (((1 - 1 : Nat) : Nat) : Int) = 0 by rfl,del_gone] at ih
         exact ih
       · rw [del_snoc (by omega),show dn 0 ((f - 1 : Nat) : Int) = ((f - 1 - 1 : Nat) : Int) by unfold dn; rw [if_pos (by omega)]; omega] at ih
         rw [show f - 1 + (n - 1 - (t - 1)) = (f - 1 - 1 + (n - 1 - (t - 1))) + 1 by omega,rds,if_pos (show 0 < f - 1 by omega)]
         exact List.mem_append_left _ ih
     · cases hr
   · split at hr
     · rename_i ht
       have ih := rds_first hn κ f (t + 1) _ (by omega) (by omega) (by omega) r hr
       rw [Nat.add_sub_cancel] at ih
       by_cases e : t = 0
       · subst e
         obtain rfl : f = 0 := by omega
         rw [show ((0 : Nat) : Int) = 0 by rfl,del_gone] at ih
         exact ih
       · rw [del_snoc (by omega),show dn 0 ((t : Nat) : Int) = ((t - 1 : Nat) : Int) by unfold dn; rw [if_pos (by omega)]; omega] at ih
         rw [show f - 1 + (n - 1 - (t - 1)) = (f - 1 + (n - 1 - t)) + 1 by omega,rds,if_pos (show t - 1 < n - 1 by omega),show t - 1 + 1 = t by omega]
         exact List.mem_append_right _ ih
     · cases hr
theorem rds_last {n : Nat} (hn : 1≤n) : ∀ (κ f t : Nat) (m : List Int),f + (n - t) = κ→f≤t→t≤n→∀ r ∈ rds n κ f t m,del ((n - 1 : Nat) : Int) r ∈ rds (n - 1) (min f (n - 1) + (n - 1 - min t (n - 1))) (min f (n - 1)) (min t (n - 1)) (del ((n - 1 : Nat) : Int) m)
 | 0,f,t,m,hk,hft,htn,r,hr => by
   rw [rds,List.mem_singleton] at hr
   subst hr
   have e1 : f = 0 := by omega
   have e2 : t = n := by omega
   subst e1; subst e2
   rw [show min 0 (t - 1) + (t - 1 - min t (t - 1)) = 0 by omega,rds]
   exact List.mem_singleton.2 rfl
 | κ + 1,f,t,m,hk,hft,htn,r,hr => by
   rw [rds] at hr
   rcases List.mem_append.1 hr with hr | hr
   · split at hr
     · rename_i hf
       have ih := rds_last hn κ (f - 1) t _ (by omega) (by omega) htn r hr
       by_cases e : f = n
       · subst e
         rw [del_gone] at ih
         rw [show min (f - 1) (f - 1) = min f (f - 1) by omega] at ih
         exact ih
       · rw [del_snoc (by omega),show dn ((n - 1 : Nat) : Int) ((f - 1 : Nat) : Int) = ((f - 1 : Nat) : Int) by unfold dn; rw [if_neg (by omega)],show min (f - 1) (n - 1) = f - 1 by omega] at ih
         rw [show min f (n - 1) = f by omega,show f + (n - 1 - min t (n - 1)) = (f - 1 + (n - 1 - min t (n - 1))) + 1 by omega,rds,if_pos (show 0 < f by omega)]
         exact List.mem_append_left _ ih
     · cases hr
   · split at hr
     · rename_i ht
       have ih := rds_last hn κ f (t + 1) _ (by omega) (by omega) (by omega) r hr
       by_cases e : t = n - 1
       · subst e
         rw [del_gone,show min (n - 1 + 1) (n - 1) = min (n - 1) (n - 1) by omega] at ih
         exact ih
       · rw [del_snoc (by omega),show dn ((n - 1 : Nat) : Int) (t : Int) = (t : Int) by unfold dn; rw [if_neg (by omega)],show min (t + 1) (n - 1) = t + 1 by omega] at ih
         rw [show min t (n - 1) = t by omega,show min f (n - 1) + (n - 1 - t) = (min f (n - 1) + (n - 1 - (t + 1))) + 1 by omega,rds,if_pos (show t < n - 1 by omega)]
         exact List.mem_append_right _ ih
     · cases hr
theorem dist_tri {x y z : Int} : dist x z≤dist x y + dist y z := by unfold dist; split <;> split <;> split <;> omega
theorem dist_self {x : Int} : dist x x = 0 := by unfold dist; split <;> omega
theorem getD_mid {m m' : List Int} {x : Int} : (m ++ x :: m').getD m.length 0 = x := by
 rw [List.getD_eq_getElem?_getD,List.getElem?_append_right (Nat.le_refl _),Nat.sub_self]; rfl
theorem take_succ' {m : List Int} {i : Nat} (h : i < m.length) : m.take (i + 1) = m.take i ++ [m.getD i 0] := by
 rw [List.take_add_one,List.getElem?_eq_getElem h,List.getD_eq_getElem?_getD,List.getElem?_eq_getElem h]; rfl
theorem del_at {g : Int} {m : List Int} {i : Nat} (h : i < m.length) (hg : m.getD i 0 ≠ g) : (del g m).getD (del g (m.take i)).length 0 = dn g (m.getD i 0) := by
 have e : m = m.take i ++ [m.getD i 0] ++ m.drop (i + 1) := by rw [← take_succ' h,List.take_append_drop]
 conv => lhs; arg 1; rw [e,del_append,del_append,del_other hg,List.append_assoc]
 exact getD_mid
theorem dn_inj {g a c : Int} (ha : a ≠ g) (hc : c ≠ g) (h : dn g a = dn g c) : a = c := by unfold dn at h; split at h <;> split at h <;> omega
theorem dn_pos {g a : Int} (h0 : 0≤g) (ha : 0≤a) : 0≤dn g a := by unfold dn; split <;> omega
theorem del_steps {b g : Int} {n : Nat} {l l' m : List Int} (hg : 0≤g) (hpl : ∀ a : Int,0≤a→a < n→a ≠ g→pl l' (dn g a).toNat = pl l a.toNat) (hm : ∀ j,j < m.length→0≤m.getD j 0∧m.getD j 0 < n) : ∀ i,i≤m.length →
   rSt b l' (del g m) (del g (m.take i)).length + dist (rAt b l' (del g m) (del g (m.take i)).length) (rAt b l m i)≤rSt b l m i ∧
   ∀ a : Nat,(a : Int) ≠ g→a < n→sf b l' (del g m) (del g (m.take i)).length (dn g a).toNat≤sf b l m i a
 | 0,_ => by
   rw [List.take_zero]
   refine ⟨?_,fun a _ _ => Int.le_refl _⟩
   show (0 : Int) + dist b b≤0
   rw [dist_self]; decide
 | i + 1,h => by
   have hmi := hm i (by omega)
   obtain ⟨h1,h2⟩ := del_steps (b := b) hg hpl hm i (by omega)
   rw [take_succ' (by omega)]
   by_cases e : m.getD i 0 = g
   · rw [e,del_gone]
     have t := dist_tri (x := rAt b l' (del g m) (del g (m.take i)).length) (y := rAt b l m i) (z := pl l (m.getD i 0).toNat)
     refine ⟨?_,fun a ha han => ?_⟩
     · rw [rSt,rAt]; omega
     · rw [sf]
       have : Nat.beq a (m.getD i 0).toNat = false := by
         cases hb : Nat.beq a (m.getD i 0).toNat with
         | false => rfl
         | true => have := Nat.eq_of_beq_eq_true hb; omega
       rw [this]
       exact h2 a ha han
   · rw [del_snoc e,List.length_append,List.length_singleton]
     have ea := del_at (g := g) (m := m) (i := i) (by omega) e
     have ep := hpl _ hmi.1 hmi.2 e
     have t := dist_tri (x := rAt b l' (del g m) (del g (m.take i)).length) (y := rAt b l m i) (z := pl l (m.getD i 0).toNat)
     have hs : rSt b l' (del g m) ((del g (m.take i)).length + 1)≤rSt b l m (i + 1) := by
       rw [rSt,rSt,ea,ep]; omega
     refine ⟨?_,fun a ha han => ?_⟩
     · rw [rAt,rAt,ea,ep,dist_self]; omega
     · rw [sf,sf,ea]
       have hd := dn_pos hg hmi.1
       have hd2 := dn_pos hg (show (0 : Int)≤(a : Int) by omega)
       by_cases c : a = (m.getD i 0).toNat
       · have e1 : Nat.beq a (m.getD i 0).toNat = true := by rw [← c]; exact Nat.beq_refl a
         have e2 : Nat.beq (dn g a).toNat (dn g (m.getD i 0)).toNat = true := by
           rw [show ((a : Nat) : Int) = m.getD i 0 by omega]; exact Nat.beq_refl _
         rw [e1,e2]
         exact hs
       · have e1 : Nat.beq a (m.getD i 0).toNat = false := by
           cases hb : Nat.beq a (m.getD i 0).toNat with
           | false => rfl
           | true => exact absurd (Nat.eq_of_beq_eq_true hb) c
         have e2 : Nat.beq (dn g a).toNat (dn g (m.getD i 0)).toNat = false := by
           cases hb : Nat.beq (dn g a).toNat (dn g (m.getD i 0)).toNat with
           | false => rfl
           | true =>
             have h3 := Nat.eq_of_beq_eq_true hb
             have := dn_inj ha e (show dn g a = dn g (m.getD i 0) by omega)
             omega
         rw [e1,e2]
         exact h2 a ha han
theorem lefts_is {b : Int} {n k : Nat} {l : List Int} (hk : k≤n) (h1 : ∀ j,j < k→pl l j < b) (h2 : k < n→¬ pl l k < b) : lefts b n l = k := by
 obtain ⟨k1,k2,k3,k4⟩ := lf_spec (b := b) (l := l) n 0
 unfold lefts
 generalize lf b l n 0 = y at *
 rcases Nat.lt_trichotomy y k with e | e | e
 · exact absurd (h1 y e) (k4 (by omega))
 · exact e
 · exact absurd (k3 k (Nat.zero_le _) e) (h2 (by omega))
theorem lefts_spec0 {b : Int} {n : Nat} {l : List Int} : (∀ j,j < lefts b n l→pl l j < b)∧(lefts b n l < n→¬ pl l (lefts b n l) < b) := by
 obtain ⟨k1,k2,k3,k4⟩ := lf_spec (b := b) (l := l) n 0
 exact ⟨fun j h => k3 j (Nat.zero_le _) h,fun h => k4 (by unfold lefts at h; omega)⟩
structure Less (n : Nat) (l l' : List Int) (g : Nat) : Prop where
 two : 2≤n
 ends : g = 0∨g = n - 1
 pl : ∀ i,i < n - 1→pl l' i = pl l (if g = 0 then i + 1 else i)
 tw : ∀ i,i < n - 1→tw l' i = tw l (if g = 0 then i + 1 else i)
section
variable {b : Int} {n g : Nat} {l l' : List Int} (hL : Less n l l' g) (hP : errP b n l = 0)
include hL
theorem Less.dnv (a : Int) (h0 : 0≤a) (hn : a < n) (hg : a ≠ (g : Int)) : (dn g a).toNat < n - 1∧(if g = 0 then (dn g a).toNat + 1 else (dn g a).toNat) = a.toNat := by
 have := hL.two
 unfold dn
 rcases hL.ends with e | e
 · subst e
   rw [if_pos (by omega),if_pos rfl]; omega
 · rw [if_neg (by omega),if_neg (by omega)]; omega
theorem Less.pla (a : Int) (h0 : 0≤a) (hn : a < n) (hg : a ≠ (g : Int)) : Rd.pl l' (dn g a).toNat = Rd.pl l a.toNat := by
 obtain ⟨h1,h2⟩ := hL.dnv a h0 hn hg
 rw [hL.pl _ h1,h2]
include hP
theorem less_valid : errP b (n - 1) l' = 0 := by
 obtain ⟨⟨n1,n2⟩,hr,ho⟩ := errP_cases hP
 have h2 := hL.two
 refine errP_ok (by omega) ⟨fun i hi => ?_,hr.2⟩ fun i hi => ?_
 · rw [hL.pl i hi,hL.tw i hi]
   exact hr.1 _ (by split <;> omega)
 · rw [hL.pl i hi]
   refine ⟨(ho _ (by split <;> omega)).1,fun h0 => ?_⟩
   rw [hL.pl (i - 1) (by omega)]
   exact ord_lt ho _ _ (by split <;> omega) (by split <;> omega)
theorem less_lefts : lefts b (n - 1) l' = if g = 0 then lefts b n l - 1 else min (lefts b n l) (n - 1) := by
 have h2 := hL.two
 have hle := lefts_le (b := b) (n := n) (l := l)
 obtain ⟨h3,h4⟩ := lefts_spec0 (b := b) (n := n) (l := l)
 obtain ⟨_,_,ho⟩ := errP_cases hP
 by_cases e : g = 0
 · rw [if_pos e]
   refine lefts_is (by omega) (fun j hj => ?_) fun hj => ?_
   · rw [hL.pl j (by omega),if_pos e]; exact h3 _ (by omega)
   · rw [hL.pl _ hj,if_pos e]
     by_cases c : lefts b n l = 0
     · have h5 := h4 (by omega)
       rw [c] at h5 ⊢
       have := ord_lt ho 1 0 (by omega) (by omega)
       show ¬ Rd.pl l 1 < b
       omega
     · rw [show lefts b n l - 1 + 1 = lefts b n l by omega]
       exact h4 (by omega)
 · rw [if_neg e]
   refine lefts_is (by omega) (fun j hj => ?_) fun hj => ?_
   · rw [hL.pl j (by omega),if_neg e]; exact h3 _ (by omega)
   · rw [hL.pl _ hj,if_neg e,show min (lefts b n l) (n - 1) = lefts b n l by omega]
     exact h4 (by omega)
theorem less_mem {m : List Int} (hm : m ∈ rds n n (lefts b n l) (lefts b n l) []) : del g m ∈ rds (n - 1) (n - 1) (lefts b (n - 1) l') (lefts b (n - 1) l') [] := by
 have h2 := hL.two
 have hle := lefts_le (b := b) (n := n) (l := l)
 rw [less_lefts hL hP]
 by_cases e : g = 0
 · rw [if_pos e]
   subst e
   have := rds_first (by omega) n (lefts b n l) (lefts b n l) [] (by omega) (Nat.le_refl _) hle m hm
   rw [show lefts b n l - 1 + (n - 1 - (lefts b n l - 1)) = n - 1 by omega] at this
   exact this
 · rw [if_neg e]
   obtain rfl : g = n - 1 := hL.ends.resolve_left e
   have := rds_last (by omega) n (lefts b n l) (lefts b n l) [] (by omega) (Nat.le_refl _) hle m hm
   rw [show min (lefts b n l) (n - 1) + (n - 1 - min (lefts b n l) (n - 1)) = n - 1 by omega] at this
   exact this
theorem less_steps {m : List Int} (hm : m ∈ rds n n (lefts b n l) (lefts b n l) []) : rSt b l' (del g m) (n - 1)≤rSt b l m n∧∀ i,i < n - 1→stp b l' (del g m) i≤stp b l m (if g = 0 then i + 1 else i) := by
 have h2 := hL.two
 have hw : Whole n m := rds_mem_whole lefts_le m hm
 have hw' : Whole (n - 1) (del g m) := rds_mem_whole lefts_le _ (less_mem hL hP hm)
 have hlen := whole_len hw
 have hlen' := whole_len hw'
 obtain ⟨h1,h3⟩ := del_steps (b := b) (g := (g : Int)) (by omega) hL.pla (whole_mem hw) m.length (Nat.le_refl _)
 rw [List.take_length,hlen,hlen'] at h1
 rw [List.take_length] at h3
 refine ⟨by have := dist_nn (a := rAt b l' (del g m) (n - 1)) (b := rAt b l m n); omega,fun i hi => ?_⟩
 rcases hL.ends with e | e
 · subst e
   have := h3 (i + 1) (by omega) (by omega)
   rw [show (dn ((0 : Nat) : Int) ((i + 1 : Nat) : Int)).toNat = i by unfold dn; rw [if_pos (by omega)]; omega] at this
   rw [if_pos rfl]; exact this
 · have := h3 i (by omega) (by omega)
   rw [show (dn ((g : Nat) : Int) ((i : Nat) : Int)).toNat = i by unfold dn; rw [if_neg (by omega)]; omega] at this
   rw [if_neg (by omega)]; exact this
theorem less_time {m : List Int} (hm : m ∈ rds n n (lefts b n l) (lefts b n l) []) (h : inTB n l (stp b l m) = true) : inTB (n - 1) l' (stp b l' (del g m)) = true := by
 have h1 := of_dB h
 have h2 := hL.two
 refine (dB_true fun i hi => ?_).symm
 have h3 := (less_steps hL hP hm).2 i hi
 rw [hL.tw i hi]
 have h4 := h1 (if g = 0 then i + 1 else i) (by split <;> omega)
 omega
theorem less_short (h : lerF b n l = 0) : lerF b (n - 1) l' = 0∧lenF b (n - 1) l'≤lenF b n l := by
 obtain ⟨⟨n1,n2⟩,hr,ho⟩ := errP_cases hP
 have h2 := hL.two
 unfold lerF at h
 cases hno : (shL b n (lefts b n l) l).no with
 | true => rw [hno] at h; exact absurd h (by decide)
 | false =>
   obtain ⟨⟨m,hm,hg,he⟩,_⟩ := shL_least.2 hno
   have hm' := less_mem hL hP hm
   have ht' := less_time hL hP hm hg
   have hw : Whole n m := rds_mem_whole lefts_le m hm
   have hw' : Whole (n - 1) (del g m) := rds_mem_whole lefts_le _ hm'
   cases hno' : (shL b (n - 1) (lefts b (n - 1) l') l').no with
   | true =>
     have := (shL_least.1 hno').2 _ hm'
     rw [ht'] at this; cases this
   | false =>
     have hle := (shL_least.2 hno').2 _ hm' ht'
     unfold lerF lenF
     rw [hno,hno',he]
     refine ⟨rfl,?_⟩
     show mxN (shL b (n - 1) (lefts b (n - 1) l') l').st 9≤mxN (stp b l m) 9
     have e1 : mxN (stp b l m) 9 = rSt b l m n := NL_is hw n1 n2
     have e2 : mxN (stp b l' (del g m)) 9 = rSt b l' (del g m) (n - 1) := NL_is hw' (by omega) (by omega)
     have e3 : mxN (shL b (n - 1) (lefts b (n - 1) l') l').st 9≤mxN (stp b l' (del g m)) 9 := hle
     have := (less_steps hL hP hm).1
     omega
omit hL hP in
theorem rds_rnd {n : Nat} : ∀ (κ f t : Nat) (m : List Int),f≤t→∀ r ∈ rds n κ f t m,∃ s,r = m ++ s∧rnd f t s = true
 | 0,f,t,m,_,r,hr => by
   rw [rds,List.mem_singleton] at hr
   exact ⟨[],by rw [hr,List.append_nil],rfl⟩
 | κ + 1,f,t,m,hft,r,hr => by
   rw [rds] at hr
   rcases List.mem_append.1 hr with hr | hr
   · split at hr
     · rename_i hf
       obtain ⟨s,rfl,hs⟩ := rds_rnd κ (f - 1) t _ (by omega) r hr
       refine ⟨((f - 1 : Nat) : Int) :: s,by rw [List.append_assoc]; rfl,?_⟩
       rw [rnd_left (by omega),show (f : Int) - 1 = ((f - 1 : Nat) : Int) by omega]
       exact hs
     · cases hr
   · split at hr
     · obtain ⟨s,rfl,hs⟩ := rds_rnd κ f (t + 1) _ (by omega) r hr
       refine ⟨(t : Int) :: s,by rw [List.append_assoc]; rfl,?_⟩
       rw [rnd_right (by omega) rfl]
       exact hs
     · cases hr
omit hL hP in
theorem whole_ap {n : Nat} {m : List Int} (hw : Whole n m) : apP n m m.length := by
 refine ⟨whole_mem hw,fun j hj i hi he => ?_⟩
 have h1 := hw.nd
 rw [List.getD_eq_getElem?_getD,List.getD_eq_getElem?_getD,List.getElem?_eq_getElem hj,List.getElem?_eq_getElem (show i < m.length by omega)] at he
 have := (List.getElem_inj h1).1 he
 omega
omit hL in
theorem walk_err {m : List Int} (hm : m ∈ rds n n (lefts b n l) (lefts b n l) []) : errR b n l m = 0 ↔ inT b n l m := by
 have hw : Whole n m := rds_mem_whole lefts_le m hm
 obtain ⟨s,hs,hr⟩ := rds_rnd n _ _ [] (Nat.le_refl _) m hm
 rw [List.nil_append] at hs
 subst hs
 constructor
 · intro h
   apply Classical.byContradiction
   intro h4
   rw [errR_12 hP (whole_len hw) (whole_ap hw) hr h4] at h
   cases h
 · exact fun h => errR_0 hP (whole_len hw) (whole_ap hw) hr h
theorem less_err {m : List Int} (hm : m ∈ rds n n (lefts b n l) (lefts b n l) []) (h : errR b n l m = 0) : errR b (n - 1) l' (del g m) = 0 := by
 have h1 := (walk_err hP hm).1 h
 have h2 := less_time hL hP hm (dB_true h1).symm
 exact (walk_err (less_valid hL hP) (less_mem hL hP hm)).2 (of_dB h2)
end
end Go.Pier.Rd
namespace Go.Pier.Rd
open Go Go.Pier Go.Proofs
theorem nmap0_id (v : Value) : nmap0 (fun b => b) v = v := by
 cases v with
 | pointer a => cases a <;> rfl
 | slice a n c => cases a <;> rfl
 | map r => cases r <;> rfl
 | _ => rfl
theorem map_idf {f : Value→Value} (h : ∀ v,f v = v) (a : Array Value) : a.map f = a := by
 rw [show f = id from funext h,Array.map_id]
theorem nmapA_id (v : Value) : nmapA (fun b => b) v = v := by
 cases v with
 | agg cs => show Value.agg (cs.map _) = _; rw [map_idf nmap0_id]
 | pointer a => cases a <;> rfl
 | slice a n c => cases a <;> rfl
 | map r => cases r <;> rfl
 | _ => rfl
theorem nmap1_id (v : Value) : nmap1 (fun b => b) v = v := by
 cases v with
 | func f a b =>
   show Value.func (nmapFn _ f) (a.map _) (b.map _) = _
   rw [map_idf nmapA_id,map_idf nmap0_id]
   cases f <;> rfl
 | pointer a => cases a <;> rfl
 | slice a n c => cases a <;> rfl
 | map r => cases r <;> rfl
 | _ => rfl
theorem nmap2_id (v : Value) : nmap2 (fun b => b) v = v := by
 cases v with
 | agg cs => show Value.agg (cs.map _) = _; rw [map_idf nmap1_id]
 | func f a b => exact nmap1_id (.func f a b)
 | pointer a => cases a <;> rfl
 | slice a n c => cases a <;> rfl
 | map r => cases r <;> rfl
 | _ => rfl
theorem nmap_id (v : Value) : nmap (fun b => b) v = v := by
 cases v with
 | tuple cs => show Value.tuple (cs.map _) = _; rw [map_idf nmap2_id]
 | agg cs => exact nmap2_id (.agg cs)
 | func f a b => exact nmap1_id (.func f a b)
 | pointer a => cases a <;> rfl
 | slice a n c => cases a <;> rfl
 | map r => cases r <;> rfl
 | _ => rfl
theorem omap_id (o : AObj) : omap (fun b => b) o = o := by
 cases o with
 | ro cs => show AObj.ro (cs.map _) = _; rw [show nmap1 (fun b => b) = id from funext nmap1_id,List.map_id]
 | rw cs r => show AObj.rw (cs.map _) r = _; rw [show nmap1 (fun b => b) = id from funext nmap1_id,List.map_id]
 | map es c =>
   show AObj.map (es.map _) c = _
   rw [show (fun e : MapEntry => { e with val := nmap2 (fun b => b) e.val }) = id from funext fun e => by rw [nmap2_id]; rfl,List.map_id]
 | loop a b t c d e => show AObj.loop a b (t.map _) c d e = _; rw [map_idf nmap_id]
 | _ => rfl
theorem anew_gone {H : Heap} {n0 : Nat} (hn : n0≤H.length) (hs : ∀ o ∈ H,o.sc H.length = true) : Anew n0 (fun b => b) H (H ++ [.gone]) where
 len := by rw [List.length_append]; omega
 low _ _ := rfl
 obj b o h := by
   rcases Nat.lt_or_ge b H.length with hb | hb
   · rw [List.getElem?_append_left hb] at h
     right; rw [omap_id]; exact h
   · left
     have h2 := (List.getElem?_eq_some_iff.1 h).1
     rw [List.length_append,List.length_singleton] at h2
     rw [List.getElem?_append_right hb,show b - H.length = 0 by omega] at h
     exact (Option.some.inj h).symm
 inj _ _ _ _ _ _ _ _ h := h
 scp b o h := by
   rw [List.length_append]
   rcases List.mem_append.1 (List.mem_of_getElem? h) with h1 | h1
   · exact AObj.sc_mono (by omega) (hs o h1)
   · rw [List.mem_singleton.1 h1]; rfl
theorem kinds_plL {r : List Arg3} (h : kinds3 psPL r) : ∃ b lf lm,r = [.agg [.plain (.int .i64 b),lf],.one lm]∧(lf = .plain (.slice none 0 0)∨(∃ s,lf = .hole s)∨∃ cs n,lf = .view cs n false)∧(lm = .plain (.slice none 0 0)∨(∃ s,lm = .hole s)∨∃ cs n,lm = .view cs n false) := by
 match r,h with
 | [.agg [x,y],.one z],⟨⟨h1,h2,_⟩,h3,_⟩ =>
   obtain ⟨b,rfl⟩ := h1
   exact ⟨b,y,z,rfl,h2,h3⟩
noncomputable def crE2 : List Arg3→Option (Prop × Value)
 | [.agg [.plain (.int .i64 b),.view cs n r],.one (.view ds k q)] => some ((okL (.view cs n r)∧okM (.view ds k q))∧k≤1000∧errR b n (intsOf cs) (intsOf ds) ≠ 0,errT (errR b n (intsOf cs) (intsOf ds)))
 | _ => none
theorem crE2_ok : ∀ args H φ v H' l,pure3 psPL crE2 args H = some (φ,v,H',l)→Asks φ→Call Try.prog 19 args H (fun v' H2 => v' = v∧H2 = H')∧Kept H H' l :=
 pure3_ok fun r ψ v hk hs hψ => by
   obtain ⟨b,lf,lm,rfl,hl,hm⟩ := kinds_plL hk
   rcases hl with rfl | ⟨s,rfl⟩ | ⟨cs,n,rfl⟩ <;> rcases hm with rfl | ⟨t,rfl⟩ | ⟨ds,k,rfl⟩ <;> cases hs
   refine ⟨errT_sc,fun caps hcaps => ?_⟩
   obtain ⟨⟨k1,k2⟩,k3,k4⟩ := hψ
   obtain ⟨e1,e2,e3⟩ := view_pier k1
   obtain ⟨e4,e5⟩ := view_ros k2
   have h := pk_v b n (caps 0) (caps 1) (intsOf cs) (intsOf ds) e1 e2 (by omega) k4
   rw [e4] at h
   show Call Try.prog 19 _ [AObj.ro cs,AObj.ro ds] _
   rw [e3,e5]
   exact h
theorem crO2_ok : ∀ args H φ v H' l,born3 psPL crO args H = some (φ,v,H',l)→Asks φ→Call Try.prog 19 args H (fun v' H2 => v' = v∧H2 = H')∧Kept H H' l :=
 born3_ok fun r s hk hs hψ => by
   obtain ⟨b,lf,lm,rfl,hl,hm⟩ := kinds_plL hk
   rcases hl with rfl | ⟨s,rfl⟩ | ⟨cs,n,rfl⟩ <;> rcases hm with rfl | ⟨t,rfl⟩ | ⟨ds,k,rfl⟩ <;> cases hs
   refine ⟨born_pair,fun caps hcaps => ?_⟩
   obtain ⟨⟨k1,k2⟩,k3,k4⟩ := hψ
   obtain ⟨e1,e2,e3⟩ := view_pier k1
   obtain ⟨e4,e5⟩ := view_ros k2
   have h := pk_o b n (caps 0) (caps 1) (intsOf cs) (intsOf ds) e1 e2 (by omega) k4
   rw [e4] at h
   have e : canonH3 [.agg [.plain (.int .i64 b),.view cs n false],.one (.view ds k false)] = [ros (intsOf cs),ros (intsOf ds)] := by
     show [AObj.ro cs,AObj.ro ds] = _
     rw [e3,e5]
   rw [e,e4]
   exact h
noncomputable def crAny : Cc := fun fn args H => match Nat.beq fn 19 with
 | true => match to3 H psPL args with
   | some (φ,[.agg [.plain (.int .i64 b),.view cs n r],.one (.view ds k q)]) => some fun Q => Ob (Asks (andO φ (some ((okL (.view cs n r)∧okM (.view ds k q))∧k≤1000))))∧∀ (s : Value) (o : AObj),Q (.tuple #[s,vi (errR b n (intsOf cs) (intsOf ds))]) (H ++ [o])
   | _ => none
 | false => none
theorem crAny_ok : CcOk Try.prog crAny := by
 intro fn args H T hT Q hQ
 unfold crAny at hT
 split at hT <;> try (cases hT; done)
 rename_i hfn
 obtain rfl := Nat.eq_of_beq_eq_true hfn
 split at hT <;> cases hT
 rename_i φ b cs n r ds k q hto
 obtain ⟨hO,hq⟩ := hQ
 obtain ⟨a1,a2⟩ := andO_iff.1 hO.out
 obtain ⟨a3,a4⟩ := a2
 by_cases he : errR b n (intsOf cs) (intsOf ds) = 0
 · have h : born3 psPL crO args H = some (andO φ (some ((okL (.view cs n r) ∧ okM (.view ds k q)) ∧ k ≤ 1000 ∧ errR b n (intsOf cs) (intsOf ds) = 0)), .tuple #[.slice (some ⟨H.length, 0, none⟩) n n, vi 0], H ++ [madeA (outL n (sf b (intsOf cs) (intsOf ds) (intsOf ds).length))], []) := by
     unfold born3; rw [hto]; rfl
   refine (crO2_ok args H _ _ _ _ h (andO_iff.2 ⟨a1,a3,a4,he⟩)).1.mono fun v H' hh => ?_
   rw [hh.1,hh.2]
   have := hq (.slice (some ⟨H.length,0,none⟩) n n) (madeA (outL n (sf b (intsOf cs) (intsOf ds) (intsOf ds).length)))
   rw [he] at this
   exact this
 · have h : pure3 psPL crE2 args H = some (andO φ (some ((okL (.view cs n r) ∧ okM (.view ds k q)) ∧ k ≤ 1000 ∧ errR b n (intsOf cs) (intsOf ds) ≠ 0)), errT (errR b n (intsOf cs) (intsOf ds)), H, []) := by
     unfold pure3; rw [hto]; rfl
   have hc := (crE2_ok args H _ _ _ _ h (andO_iff.2 ⟨a1,a3,a4,he⟩)).1
   refine fun ρ w R hs => Call.anew (hc.mono fun v H' hh => ?_) ρ w R hs
   rw [hh.1,hh.2]
   have hg : Q (errT (errR b n (intsOf cs) (intsOf ds))) (H ++ [AObj.gone]) := hq nilS AObj.gone
   refine ⟨fun b => b,errT (errR b n (intsOf cs) (intsOf ds)),H ++ [AObj.gone],anew_gone (Nat.le_refl _) (fun o ho => ?_),(nmap_id _).symm,sc_mono (Nat.zero_le _) errT_sc,hg⟩
   obtain ⟨i,hi⟩ := List.mem_iff_getElem?.1 ho
   exact R.scp i o hi
end Go.Pier.Rd
namespace Go.Pier.Rd
open Go Go.Pier Go.Proofs
theorem kept_app {H N : Heap} : Kept H (H ++ N) [] := ⟨by rw [List.length_append]; omega,fun b h _ => List.getElem?_append_left h⟩
theorem list_at1 {f : FuncId} {b : Int} {n k c : Nat} {l r : List Int} {az : List Value} {H : Heap} (has : az.all (sc 0) = true) (h0 : H[0]? = some (ros l))
   (h : Call Try.prog f (pierV b (some ⟨0,0,none⟩) n c :: az) [ros l] fun v H' => v = newS 1 k∧H' = [ros l,rws r]) :
   Call Try.prog f (pierV b (some ⟨0,0,none⟩) n c :: az) H fun v H' => v = newS H.length k∧H' = H ++ [rws r] := by
 have hlt : 0 < H.length := (List.getElem?_eq_some_iff.1 h0).1
 have hp : ∀ σ : Nat→Nat,σ 0 = 0→nmap σ (pierV b (some ⟨0,0,none⟩) n c) = pierV b (some ⟨0,0,none⟩) n c := fun σ h0 => by simp [pierV,nmap,nmap2,nmap1,nmap0,am,h0]
 have hm : ∀ σ : Nat→Nat,az.map (nmap σ) = az := fun σ => by
   conv => rhs; rw [← List.map_id az]
   exact List.map_congr_left fun u hu => nmap_closed (List.all_eq_true.1 has u hu)
 have := (Call.frameG (H := H) (Et := [ros l]) (Ft := [ros l]) (N := [rws r]) (L := [0]) (vs := pierV b (some ⟨0,0,none⟩) n c :: az) rfl rfl (by simp) (fun y hy => by rw [List.mem_singleton.1 hy]; exact hlt)
   (fun c' o hc => by
     cases c' with
     | zero => cases hc; exact .inr (by rw [ros_omap]; exact h0)
     | succ c' => simp at hc)
   (fun o ho => by rw [List.mem_singleton.1 ho]; exact ros_sc) (by rw [List.map_cons,hp _ rfl,hm])
   (by
     rw [List.all_cons,Bool.and_eq_true]
     exact ⟨by kernel_rfl,List.all_eq_true.2 fun u hu => sc_mono (Nat.zero_le _) (List.all_eq_true.1 has u hu)⟩) h
   (fun o ho => by
     rcases List.mem_append.1 ho with h2 | h2
     · rw [List.mem_singleton.1 h2]; exact ros_nm
     · rw [List.mem_singleton.1 h2]; exact rws_nm)
   (fun o ho => by rw [List.mem_singleton.1 ho]; rfl) (by kernel_rfl)
   (fun o ho => by
     rcases List.mem_append.1 ho with h2 | h2
     · rw [List.mem_singleton.1 h2,ros_omap]; exact ros_sc
     · rw [List.mem_singleton.1 h2,rws_omap]; exact rws_sc)
   (by show decide (H.length < H.length + 1) = true; simp)).1
 refine this.mono fun v H' hh => ⟨hh.1,?_⟩
 rw [hh.2]
 show H ++ [omap _ (rws r)] = _
 rw [rws_omap]
theorem roU_omap {σ : Nat→Nat} {q : List Int} : omap σ (roU q) = roU q := by
 show AObj.ro ((q.map (.int .u8)).map (nmap1 σ)) = _
 rw [nmap1_all (List.all_eq_true.2 fun u hu => by obtain ⟨x,_,rfl⟩ := List.mem_map.1 hu; rfl)]; rfl
theorem roU_sc {q : List Int} {n : Nat} : (roU q).sc n = true := List.all_eq_true.2 fun u hu => by
 obtain ⟨x,_,rfl⟩ := List.mem_map.1 hu; rfl
theorem roU_nm {q : List Int} {p : Nat→Bool} : (roU q).nm p = true := List.all_eq_true.2 fun u hu => by
 obtain ⟨x,_,rfl⟩ := List.mem_map.1 hu; rfl
theorem list_at2 {f : FuncId} {b : Int} {n k c : Nat} {l r : List Int} {o : AObj} {v1 : Value} {H : Heap} (ho : o = .gone∨∃ q,o = roU q) (hs : sc 2 v1 = true) (hv : ∀ σ : Nat→Nat,σ 1 = 1→nmap σ v1 = v1) (h0 : H[0]? = some (ros l)) (h1 : o = .gone∨H[1]? = some o) (hlt : 1 < H.length)
   (h : Call Try.prog f [pierV b (some ⟨0,0,none⟩) n c,v1] [ros l,o] fun v H' => v = newS 2 k∧H' = [ros l,o,rws r]) :
   Call Try.prog f [pierV b (some ⟨0,0,none⟩) n c,v1] H fun v H' => v = newS H.length k∧H' = H ++ [rws r] := by
 have hp : ∀ σ : Nat→Nat,σ 0 = 0→nmap σ (pierV b (some ⟨0,0,none⟩) n c) = pierV b (some ⟨0,0,none⟩) n c := fun σ h0 => by simp [pierV,nmap,nmap2,nmap1,nmap0,am,h0]
 have oo : ∀ σ : Nat→Nat,omap σ o = o := fun σ => by rcases ho with rfl | ⟨q,rfl⟩; exact rfl; exact roU_omap
 have os : ∀ n,o.sc n = true := fun n => by rcases ho with rfl | ⟨q,rfl⟩; exact rfl; exact roU_sc
 have on : ∀ p,o.nm p = true := fun p => by rcases ho with rfl | ⟨q,rfl⟩; exact rfl; exact roU_nm
 have := (Call.frameG (H := H) (Et := [ros l, o]) (Ft := [ros l, o]) (N := [rws r]) (L := [0, 1]) (vs := [pierV b (some ⟨0,0,none⟩) n c, v1]) rfl rfl (by decide) (fun y hy => by
     simp only [List.mem_cons,List.not_mem_nil,or_false] at hy; omega)
   (fun c' x hc => by
     rcases c' with _ | _ | c'
     · cases hc; exact .inr (by rw [ros_omap]; exact h0)
     · cases hc
       rcases h1 with h1 | h1
       · exact .inl h1
       · exact .inr (by rw [oo]; exact h1)
     · simp at hc)
   (fun x hx => by
     simp only [List.mem_cons,List.not_mem_nil,or_false] at hx
     rcases hx with rfl | rfl
     · exact ros_sc
     · exact os _)
   (by rw [List.map_cons,hp _ rfl,List.map_cons,hv _ rfl,List.map_nil])
   (by
     rw [List.all_cons,List.all_cons,Bool.and_eq_true,Bool.and_eq_true]
     exact ⟨by kernel_rfl,hs,rfl⟩) h
   (fun x hx => by
     simp only [List.mem_append,List.mem_cons,List.not_mem_nil,or_false] at hx
     rcases hx with (rfl | rfl) | rfl
     · exact ros_nm
     · exact on _
     · exact rws_nm)
   (fun x hx => by rw [List.mem_singleton.1 hx]; rfl) (by kernel_rfl)
   (fun x hx => by
     simp only [List.mem_append,List.mem_cons,List.not_mem_nil,or_false] at hx
     rcases hx with (rfl | rfl) | rfl
     · rw [ros_omap]; exact ros_sc
     · rw [oo]; exact os _
     · rw [rws_omap]; exact rws_sc)
   (by show decide (H.length < H.length + 1) = true; simp)).1
 refine this.mono fun v H' hh => ⟨hh.1,?_⟩
 rw [hh.2]
 rcases ho with rfl | ⟨q,rfl⟩
 · show H ++ [omap _ (rws r)] = _
   rw [rws_omap]
 · show H ++ [omap _ (rws r)] = _
   rw [rws_omap]
end Go.Pier.Rd
namespace Go.Pier.Rd
open Go Go.Pier Go.Proofs
noncomputable def wkCt (b : Int) (n c : Nat) (l : List Int) (bv : Value) (P : Heap→Prop) (o : Nat→Bool) : List Value→Heap→Option (Option Prop × Value × Heap × List Nat) := fun args H =>
 some (some (args = [pierV b (some ⟨0,0,none⟩) n c,bv]∧P H),newS H.length n,H ++ [rws (wL n (lefts b n l) o n)],[])
noncomputable def fnD : VEnv := { ct := Ct.none.add 22 (pureP (fun b n l => vi (errP b n l)) (vi 6)),orc := prO,cc := ccIn Try.prog {} [⟨17,Try.f17,fun _ _ _ => none⟩] }
end Go.Pier.Rd
