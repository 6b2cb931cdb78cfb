import Derived.Test.YtbmdkgoclijgkaaPierKD3
import Derived.KernelRfl
import Derived.Test.YtbmdkgoclijgkaaPierKD2
set_option linter.unusedSimpArgs false
set_option linter.unusedVariables false
namespace Go.Pier.Rd
open Go Go.Pier Go.Proofs
def rfC : Code→Option (Array Tmp × Code × Code)
 | .seq a b => match rfC a with | some x => some x | none => rfC b
 | .block _ c => rfC c
 | .scope c => rfC c
 | .rangeFunc _ ps a b => some (ps,a,b)
 | _ => none
def lpO (f : Func) (t : Array Value) (s : LoopState := .ready) : AObj := match f.body with
 | some c => match rfC c with
   | some (ps,a,b) => .loop s none t ps a b
   | none => .gone
 | none => .gone
def yv (b : Nat) : Value := .func (.yield b) #[] #[]
def tripsF : Value := .func (.func 123) #[] #[ptr0 2]
def slotV (no : Bool) (k n : Nat) : Value := match no with | true => nilS | false => newS k n
noncomputable def inTB (n : Nat) (l : List Int) (x : Nat→Int) : Bool := dB (∀ i,i < n→x i≤tw l i)
end Go.Pier.Rd
set_option maxRecDepth 100000
namespace Go.Pier.Rd
open Go Go.Pier Go.Proofs
def mxN (st : Nat→Int) : Nat→Int
 | 0 => st 0
 | x + 1 => if st (x + 1) > mxN st x then st (x + 1) else mxN st x
theorem I10_getI1 {sl : Value} {st : Nat→Int} {x : Nat} (h : x < 10) : getI (sl :: I10 st []) (1 + x) = st x∧IntAt .i64 (sl :: I10 st []) (1 + x) := by
 rcases x with _ | _ | _ | _ | _ | _ | _ | _ | _ | _ | x <;> first | exact ⟨rfl,rfl⟩ | omega
theorem nmap1_all {σ : Nat→Nat} : ∀ {cs : List Value},cs.all (sc1 0) = true→cs.map (nmap1 σ) = cs
 | [],_ => rfl
 | v :: r,h => by
   rw [List.all_cons,Bool.and_eq_true] at h
   rw [List.map_cons,nmap1_closed h.1,nmap1_all h.2]
def l10 (a0 a1 a2 a3 a4 a5 a6 a7 a8 a9 : Int) : Nat→Int := fun i => [a0,a1,a2,a3,a4,a5,a6,a7,a8,a9].getD i 0
end Go.Pier.Rd
namespace Go.Pier.Rd
open Go Go.Pier Go.Proofs
noncomputable def itB : Code := Try.f61.body.getD .skip
noncomputable def tpB : Code := Try.f60.body.getD .skip
def itE (b : Int) (n c f : Nat) (l : List Int) (r : Heap) : Heap := ros l :: .rw (walkC b n c f (tmd n)) none :: r
def itI (b : Int) (n c f : Nat) (l : List Int) (k : Nat) (x : Nat→Int) : Nat→Option LInv := invOf
 0 (LInv.one Nat (fun y => y≤n∧∀ i,i < y→x i≤tw l i) (fun y => [(0,ptr0 1),(3,ptr0 3),(4,.bool false),(11,sl0 n c),(12,vi n),(13,vi y)]) (fun _ => itE b n c f l [.gone,.rw (newS 2 k :: I10 x []) none]) (fun y => n - y))
noncomputable def itV0 (b:Int) (n c f k:Nat) (l:List Int) (x:Nat→Int) := (Value.slice (some ⟨2,0,some 0⟩) k 0::I10 x [])
noncomputable def itV1 (b:Int) (n c f k:Nat) (l:List Int) (x:Nat→Int) := (vi b::Value.slice (some (ad0 0)) n c::vi (f:Int)::B10 (tmd n) [])
noncomputable def itV2 (b:Int) (n c f k:Nat) (l:List Int) (x:Nat→Int) (x_1:Nat):List Value := [vi (getI (List.map (Value.int IntKind.i64) l) (0+(x_1:Int).toNat * 2)),vi (getI (List.map (Value.int IntKind.i64) l) (0+(x_1:Int).toNat * 2+1))]
noncomputable def itV :=
fun (b:Int) (n c f k:Nat) (l:List Int) (x:Nat→Int)↦(∃ (y:Nat),Ob (y≤n∧∀ (i:Nat),i<y→x i≤tw l i)∧(Ob (AObj.ro (List.map (Value.int IntKind.i64) l)=AObj.ro (List.map (nmap1 fun (bq:Nat)↦bq) (List.map (Value.int IntKind.i64) l))∧AObj.sc 4 (AObj.ro (List.map (Value.int IntKind.i64) l))=true)∧Ob (AObj.rw (itV1 b n c f k l x) none=AObj.rw (itV1 b n c f k l x) none∧true=true)∧Ob (AObj.rw (itV0 b n c f k l x) none=AObj.rw (itV0 b n c f k l x) none∧true=true)∧True)∧Ob (ptr0 1=ptr0 1)∧Ob (ptr0 3=ptr0 3)∧Ob (false=false)∧Ob (Value.slice (some (ad0 0)) n c=Value.slice (some (ad0 0)) n c)∧Ob ((n:Int)=(n:Int))∧Ob ((0:Int)=(y:Int))∧True)∧∀ (x_1:Nat),Ob (x_1≤n∧∀ (i:Nat),i<x_1→x i≤tw l i)→(decide ((x_1:Int)<(n:Int))=true→Ob ((0:Int)≤(x_1:Int)∧(x_1:Int)<(n:Int)∧true=true)∧Ob (ckAsk [CK.i IntKind.i64,CK.i IntKind.i64] (List.map (Value.int IntKind.i64) l) (0+(x_1:Int).toNat * 2))∧Ob (0+2≤2)∧Ob ((0:Int)≤(x_1:Int)∧(x_1:Int)<(↑(10:Nat):Int))∧Ob (BoolAt (itV1 b n c f k l x) (3+(x_1:Int).toNat * 1))∧(getB (itV1 b n c f k l x) (3+(x_1:Int).toNat * 1)=true→Ob ((0:Int)≤(x_1:Int)∧(x_1:Int)<(↑(10:Nat):Int))∧Ob (IntAt IntKind.i64 (itV0 b n c f k l x) (1+(x_1:Int).toNat * 1))∧Ob (IntAt IntKind.i64 (itV2 b n c f k l x x_1) (0+1))∧(decide (getI (itV2 b n c f k l x x_1) (0+1)<getI (itV0 b n c f k l x) (1+(x_1:Int).toNat * 1))=true→(Ob (AObj.ro (List.map (Value.int IntKind.i64) l)=AObj.ro (List.map (nmap1 fun (bqq:Nat)↦bqq) (List.map (Value.int IntKind.i64) l))∧AObj.sc 3 (AObj.ro (List.map (Value.int IntKind.i64) l))=true)∧Ob (AObj.rw (itV1 b n c f k l x) none=AObj.rw (itV1 b n c f k l x) none∧true=true)∧True)∧Ob (false=inTB n l x)∧True)∧(decide (getI (itV2 b n c f k l x x_1) (0+1)<getI (itV0 b n c f k l x) (1+(x_1:Int).toNat * 1))=false→∃ (y:Nat),Ob (y≤n∧∀ (i:Nat),i<y→x i≤tw l i)∧Ob (n-y<n-x_1)∧(Ob (AObj.ro (List.map (Value.int IntKind.i64) l)=AObj.ro (List.map (nmap1 fun (bqqq:Nat)↦bqqq) (List.map (Value.int IntKind.i64) l))∧AObj.sc 4 (AObj.ro (List.map (Value.int IntKind.i64) l))=true)∧Ob (AObj.rw (itV1 b n c f k l x) none=AObj.rw (itV1 b n c f k l x) none∧true=true)∧Ob (AObj.rw (itV0 b n c f k l x) none=AObj.rw (itV0 b n c f k l x) none∧true=true)∧True)∧Ob (ptr0 1=ptr0 1)∧Ob (ptr0 3=ptr0 3)∧Ob (false=false)∧Ob (Value.slice (some (ad0 0)) n c=Value.slice (some (ad0 0)) n c)∧Ob ((n:Int)=(n:Int))∧Ob (IntKind.i64.wrap ((x_1:Int)+(1:Int))=(y:Int))∧True))∧(getB (itV1 b n c f k l x) (3+(x_1:Int).toNat * 1)=false→∃ (y:Nat),Ob (y≤n∧∀ (i:Nat),i<y→x i≤tw l i)∧Ob (n-y<n-x_1)∧(Ob (AObj.ro (List.map (Value.int IntKind.i64) l)=AObj.ro (List.map (nmap1 fun (bqqqq:Nat)↦bqqqq) (List.map (Value.int IntKind.i64) l))∧AObj.sc 4 (AObj.ro (List.map (Value.int IntKind.i64) l))=true)∧Ob (AObj.rw (itV1 b n c f k l x) none=AObj.rw (itV1 b n c f k l x) none∧true=true)∧Ob (AObj.rw (itV0 b n c f k l x) none=AObj.rw (itV0 b n c f k l x) none∧true=true)∧True)∧Ob (ptr0 1=ptr0 1)∧Ob (ptr0 3=ptr0 3)∧Ob (false=false)∧Ob (Value.slice (some (ad0 0)) n c=Value.slice (some (ad0 0)) n c)∧Ob ((n:Int)=(n:Int))∧Ob (IntKind.i64.wrap ((x_1:Int)+(1:Int))=(y:Int))∧True))∧(decide ((x_1:Int)<(n:Int))=false→(Ob (AObj.ro (List.map (Value.int IntKind.i64) l)=AObj.ro (List.map (nmap1 fun (bqqqqq:Nat)↦bqqqqq) (List.map (Value.int IntKind.i64) l))∧AObj.sc 3 (AObj.ro (List.map (Value.int IntKind.i64) l))=true)∧Ob (AObj.rw (itV1 b n c f k l x) none=AObj.rw (itV1 b n c f k l x) none∧true=true)∧True)∧Ob (true=inTB n l x)∧True)
theorem itV_eq : itV = fun (b : Int) (n c f k : Nat) (l : List Int) (x : Nat→Int) => vc Try.prog prE1 3 34 true (itI b n c f l k x) itB [] (argFr 0 [ptr0 1,.agg (newS 2 k :: I10 x []).toArray]) (itE b n c f l [.gone]) (retR Try.prog Try.f61 3 (fun b => b) (.bool (inTB n l x)) (itE b n c f l [.gone])) := by kernel_rfl
def tpI (b : Int) (n c f : Nat) (l m : List Int) : Nat→Option LInv := invOf
 0 (LInv.one Nat (fun x => x≤m.length) (fun x => [(0,ptr0 1),(4,ptr0 3),(5,ptr0 4),(6,vi (rAt b l m x)),(7,vi (rSt b l m x)),(18,newS 2 m.length),(19,vi m.length),(20,vi x)]) (fun x => itE b n c f l [rws m,.rw (nilS :: I10 empI []) none,.rw (newS 2 m.length :: I10 (sf b l m x) []) none]) (fun x => m.length - x))
noncomputable def tpV0 (b:Int) (n c f:Nat) (l m:List Int) (x:Nat) := (rSt b l m x+dist (Arg.plain (vi (rAt b l m x))).num (Arg.plain (vi (getI (List.map (Value.int IntKind.i64) l) (0+(getI (List.map (Value.int IntKind.i64) m) (0+(x:Int).toNat * 1)).toNat * 2)))).num)
noncomputable def tpV1 (b:Int) (n c f:Nat) (l m:List Int) (x:Nat) := (1+(getI (List.map (Value.int IntKind.i64) m) (0+(x:Int).toNat * 1)).toNat * 1)
noncomputable def tpV2 (b:Int) (n c f:Nat) (l m:List Int) (x:Nat) := (0+(getI (List.map (Value.int IntKind.i64) m) (0+(x:Int).toNat * 1)).toNat * 2)
noncomputable def tpV3 (b:Int) (n c f:Nat) (l m:List Int) := (vi b::Value.slice (some (ad0 0)) n c::vi (f:Int)::B10 (tmd n) [])
noncomputable def tpV4 (b:Int) (n c f:Nat) (l m:List Int) := (List.map (Value.int IntKind.i64) m)
noncomputable def tpV :=
fun (b:Int) (n c f:Nat) (l m:List Int)↦Ob (0+11≤11)∧Ob (some (vi b)=some (vi b))∧(∃ (y:Nat),Ob (y≤m.length)∧(Ob (AObj.ro (List.map (Value.int IntKind.i64) l)=AObj.ro (List.map (nmap1 fun (bq:Nat)↦bq) (List.map (Value.int IntKind.i64) l))∧AObj.sc 5 (AObj.ro (List.map (Value.int IntKind.i64) l))=true)∧Ob (AObj.rw (tpV3 b n c f l m) none=AObj.rw (tpV3 b n c f l m) none∧true=true)∧Ob (AObj.rw (tpV4 b n c f l m) (some 1)=AObj.rw (List.map (nmap1 fun (bqq:Nat)↦bqq) (tpV4 b n c f l m)) (some 1)∧AObj.sc 5 (AObj.rw (tpV4 b n c f l m) (some 1))=true)∧Ob (AObj.rw (Value.slice none 0 0::I10 empI []) none=AObj.rw (Value.slice none 0 0::I10 empI []) none∧true=true)∧Ob (AObj.rw (Value.slice (some ⟨2,0,some 0⟩) m.length 0::I10 empI []) none=AObj.rw (Value.slice (some ⟨2,0,some 0⟩) m.length 0::I10 (sf b l m y) []) none∧true=true)∧True)∧Ob (ptr0 1=ptr0 1)∧Ob (ptr0 3=ptr0 3)∧Ob (ptr0 4=ptr0 4)∧Ob (b=rAt b l m y)∧Ob ((0:Int)=rSt b l m y)∧Ob (Value.slice (some ⟨2,0,some 0⟩) m.length 0=Value.slice (some ⟨2,0,some 0⟩) m.length 0)∧Ob ((m.length:Int)=(m.length:Int))∧Ob ((0:Int)=(y:Int))∧True)∧∀ (x:Nat),Ob (x≤m.length)→(decide ((x:Int)<(m.length:Int))=true→Ob ((0:Int)≤(x:Int)∧(x:Int)<(m.length:Int)∧true=true)∧Ob (IntAt IntKind.i64 (tpV4 b n c f l m) (0+(x:Int).toNat * 1))∧Ob ((0:Int)≤getI (tpV4 b n c f l m) (0+(x:Int).toNat * 1)∧getI (tpV4 b n c f l m) (0+(x:Int).toNat * 1)<(n:Int)∧true=true)∧Ob (IntAt IntKind.i64 (List.map (Value.int IntKind.i64) l) (tpV2 b n c f l m x))∧Ob (((-1000000:Int)≤(Arg.plain (vi (rAt b l m x))).num∧(Arg.plain (vi (rAt b l m x))).num≤(1000000:Int))∧(-1000000:Int)≤(Arg.plain (vi (getI (List.map (Value.int IntKind.i64) l) (tpV2 b n c f l m x)))).num∧(Arg.plain (vi (getI (List.map (Value.int IntKind.i64) l) (tpV2 b n c f l m x)))).num≤(1000000:Int))∧Ob ((0:Int)≤getI (tpV4 b n c f l m) (0+(x:Int).toNat * 1)∧getI (tpV4 b n c f l m) (0+(x:Int).toNat * 1)<(↑(10:Nat):Int))∧Ob (IntAt IntKind.i64 (Value.slice (some ⟨2,0,some 0⟩) m.length 0::I10 (sf b l m x) []) (tpV1 b n c f l m x)∧some 1=some 1)∧∃ (y:Nat),Ob (y≤m.length)∧Ob (m.length-y<m.length-x)∧(Ob (AObj.ro (List.map (Value.int IntKind.i64) l)=AObj.ro (List.map (nmap1 fun (bqqq:Nat)↦bqqq) (List.map (Value.int IntKind.i64) l))∧AObj.sc 5 (AObj.ro (List.map (Value.int IntKind.i64) l))=true)∧Ob (AObj.rw (tpV3 b n c f l m) none=AObj.rw (tpV3 b n c f l m) none∧true=true)∧Ob (AObj.rw (tpV4 b n c f l m) (some 1)=AObj.rw (List.map (nmap1 fun (bqqqq:Nat)↦bqqqq) (tpV4 b n c f l m)) (some 1)∧AObj.sc 5 (AObj.rw (tpV4 b n c f l m) (some 1))=true)∧Ob (AObj.rw (Value.slice none 0 0::I10 empI []) none=AObj.rw (Value.slice none 0 0::I10 empI []) none∧true=true)∧Ob (AObj.rw [Value.slice (some ⟨2,0,some 0⟩) m.length 0,vi (bif Nat.beq 1 (tpV1 b n c f l m x) then IntKind.i64.wrap (tpV0 b n c f l m x) else sf b l m x 0),vi (bif Nat.beq 2 (tpV1 b n c f l m x) then IntKind.i64.wrap (tpV0 b n c f l m x) else sf b l m x 1),vi (bif Nat.beq 3 (tpV1 b n c f l m x) then IntKind.i64.wrap (tpV0 b n c f l m x) else sf b l m x 2),vi (bif Nat.beq 4 (tpV1 b n c f l m x) then IntKind.i64.wrap (tpV0 b n c f l m x) else sf b l m x 3),vi (bif Nat.beq 5 (tpV1 b n c f l m x) then IntKind.i64.wrap (tpV0 b n c f l m x) else sf b l m x 4),vi (bif Nat.beq 6 (tpV1 b n c f l m x) then IntKind.i64.wrap (tpV0 b n c f l m x) else sf b l m x 5),vi (bif Nat.beq 7 (tpV1 b n c f l m x) then IntKind.i64.wrap (tpV0 b n c f l m x) else sf b l m x 6),vi (bif Nat.beq 8 (tpV1 b n c f l m x) then IntKind.i64.wrap (tpV0 b n c f l m x) else sf b l m x 7),vi (bif Nat.beq 9 (tpV1 b n c f l m x) then IntKind.i64.wrap (tpV0 b n c f l m x) else sf b l m x 8),vi (bif Nat.beq 10 (tpV1 b n c f l m x) then IntKind.i64.wrap (tpV0 b n c f l m x) else sf b l m x 9)] none=AObj.rw (Value.slice (some ⟨2,0,some 0⟩) m.length 0::I10 (sf b l m y) []) none∧true=true)∧True)∧Ob (ptr0 1=ptr0 1)∧Ob (ptr0 3=ptr0 3)∧Ob (ptr0 4=ptr0 4)∧Ob (getI (List.map (Value.int IntKind.i64) l) (tpV2 b n c f l m x)=rAt b l m y)∧Ob (IntKind.i64.wrap (tpV0 b n c f l m x)=rSt b l m y)∧Ob (Value.slice (some ⟨2,0,some 0⟩) m.length 0=Value.slice (some ⟨2,0,some 0⟩) m.length 0)∧Ob ((m.length:Int)=(m.length:Int))∧Ob (IntKind.i64.wrap ((x:Int)+(1:Int))=(y:Int))∧True)∧(decide ((x:Int)<(m.length:Int))=false→Ob (11≤11)∧(Ob (AObj.ro (List.map (Value.int IntKind.i64) l)=AObj.ro (List.map (nmap1 fun (bqqqqq:Nat)↦bqqqqq) (List.map (Value.int IntKind.i64) l))∧AObj.sc 3 (AObj.ro (List.map (Value.int IntKind.i64) l))=true)∧Ob (AObj.rw (tpV3 b n c f l m) none=AObj.rw (tpV3 b n c f l m) none∧true=true)∧Ob (AObj.rw (tpV4 b n c f l m) (some 1)=AObj.rw (List.map (nmap1 fun (bqqqqqq:Nat)↦bqqqqqq) (tpV4 b n c f l m)) (some 1)∧AObj.sc 3 (AObj.rw (tpV4 b n c f l m) (some 1))=true)∧True)∧Ob (Value.agg { toList := (Value.slice (some ⟨2,0,some 0⟩) m.length 0::I10 (sf b l m x) []) }=Value.agg { toList := (Value.slice (some ⟨2,0,some 0⟩) m.length 0::I10 (stp b l m) []) })∧True)
theorem tpV_eq : tpV = fun (b : Int) (n c f : Nat) (l m : List Int) => vc Try.prog prE1 3 45 true (tpI b n c f l m) tpB [] (argFr 0 [ptr0 1,newS 2 m.length]) (itE b n c f l [rws m]) (retR Try.prog Try.f60 3 (fun b => b) (.agg (newS 2 m.length :: I10 (stp b l m) []).toArray) (itE b n c f l [rws m])) := by kernel_rfl
theorem B10_at3 {b : Int} {a : Value} {f : Int} {tm : Nat→Bool} {i : Nat} (h : i < 10) : BoolAt (vi b :: a :: vi f :: B10 tm []) (3 + i)∧getB (vi b :: a :: vi f :: B10 tm []) (3 + i) = tm i := by
 rcases i with _ | _ | _ | _ | _ | _ | _ | _ | _ | _ | i <;> first | exact ⟨rfl,rfl⟩ | omega
theorem tmd_lt {n i : Nat} (h : i < n) : tmd n i = true := by show Nat.blt i n = true; rw [Nat.blt_eq]; omega
theorem itV_ok (b : Int) (n c f k : Nat) (l : List Int) (x : Nat→Int) (hl : l.length = n * 2) (hn : n≤10) : itV b n c f k l x := by
 unfold itV itV2 itV1 itV0
 simp only [SS,reduceCtorEq,Arg.list,Arg.num,Arg.flag,intOf,andP,Nat.reduceLeDiff,Nat.reduceAdd,Nat.reduceMul,Nat.reduceLT,ckAsk,CK.ask,pl_fold,tw_fold,getI_2b,intAt_2b]
 refine ⟨⟨0,⟨by omega,all_none⟩,rfl⟩,fun y ⟨hy,hj⟩ => ⟨fun h1 => ?_,fun h1 => dB_true fun i hi => hj i (by omega)⟩⟩
 have h10 : y < 10 := by omega
 obtain ⟨a1,a2⟩ := B10_at3 (b := b) (a := Value.slice (some (ad0 0)) n c) (f := f) (tm := tmd n) h10
 obtain ⟨e1,e2⟩ := I10_getI1 (sl := newS 2 k) (st := x) h10
 have e1' : getI (Value.slice (some { block := 2,off := 0,spot := some 0 }) k 0 :: I10 x []) (1 + y) = x y := e1
 rw [e1',a2]
 refine ⟨by omega,by omega,by omega,a1,fun _ => ⟨by omega,e2,fun h3 => dB_false fun k => ?_,fun h3 => ⟨y + 1,⟨by omega,all_snoc hj (by omega)⟩,by omega,wrap_succ (n := 10) (by omega) (by omega)⟩⟩,fun h2 => ?_⟩
 · have := k y (by omega); omega
 · rw [tmd_lt (by omega)] at h2; cases h2
theorem tpV_ok (b : Int) (n c f : Nat) (l m : List Int) (hl : l.length = n * 2) (hn : n≤10) (hr : rngP b n l) (hm : m.length≤10) (ha : ∀ j,j < m.length→0≤m.getD j 0∧m.getD j 0 < n) : tpV b n c f l m := by
 unfold tpV tpV4 tpV3 tpV2 tpV1 tpV0
 simp only [SS,reduceCtorEq,Arg.list,Arg.num,Arg.flag,intOf,andP,Nat.reduceLeDiff,Nat.reduceAdd,Nat.reduceMul,Nat.reduceLT,ckAsk,CK.ask,pl_fold,tw_fold,nb1_1,nb1_2,nb1_3,nb1_4,nb1_5,nb1_6,nb1_7,nb1_8,nb1_9,nb1_10]
 refine ⟨⟨0,by omega,rfl,rfl,rfl,rfl⟩,fun x hx => ⟨fun h1 => ?_,fun h1 => ?_⟩⟩
 · have ax := ha x (by omega)
   have a1 := rAt_bd hr ha x (by omega)
   have a2 : 0≤pl l (m.getD x 0).toNat∧pl l (m.getD x 0).toNat≤1000 := rAt_bd hr ha (x + 1) (by omega)
   have s2 := rSt_bd hr ha (x + 1) (by omega)
   have w2 : IntKind.i64.wrap (rSt b l m x + dist (rAt b l m x) (pl l (m.getD x 0).toNat)) = rSt b l m (x + 1) := by
     show IntKind.i64.wrap (rSt b l m (x + 1)) = _
     exact wrap_in (by omega) (by omega)
   rw [w2]
   obtain ⟨e1,e2⟩ := I10_getI1 (sl := newS 2 m.length) (st := sf b l m x) (x := (m.getD x 0).toNat) (by omega)
   exact ⟨by omega,by omega,by omega,by omega,by omega,by omega,e2,x + 1,by omega,by omega,rfl,rfl,rfl,wrap_succ (n := m.length) (by omega) (by omega)⟩
 · rw [show x = m.length by omega]; rfl
theorem inTB_l10 {n : Nat} {l : List Int} {x : Nat→Int} (hn : n≤10) : inTB n l (l10 (x 0) (x 1) (x 2) (x 3) (x 4) (x 5) (x 6) (x 7) (x 8) (x 9)) = inTB n l x := by
 unfold inTB
 congr 1
 have : ∀ i,i < 10→l10 (x 0) (x 1) (x 2) (x 3) (x 4) (x 5) (x 6) (x 7) (x 8) (x 9) i = x i := fun i hi => by
   rcases i with _ | _ | _ | _ | _ | _ | _ | _ | _ | _ | i <;> first | rfl | omega
 exact propext ⟨fun h i hi => by rw [← this i (by omega)]; exact h i hi,fun h i hi => by rw [this i (by omega)]; exact h i hi⟩
def AtW (b : Int) (n c f : Nat) (l : List Int) (H : Heap) : Prop := H[0]? = some (ros l)∧H[1]? = some (.rw (walkC b n c f (tmd n)) none)
noncomputable def tpCt (b : Int) (n c f : Nat) (l m : List Int) : List Value→Heap→Option (Option Prop × Value × Heap × List Nat) := fun args H => match args with
 | [.pointer (some ⟨1,0,none⟩),.slice (some ⟨k,0,some 0⟩) y 0] => match Nat.ble 2 k with
   | true => some (some (AtW b n c f l H∧H[k]? = some (rws m)∧y = m.length∧l.length = n * 2∧n≤10∧rngP b n l∧m.length≤10∧∀ j,j < m.length→0≤m.getD j 0∧m.getD j 0 < n),.agg (newS k y :: I10 (stp b l m) []).toArray,H,[])
   | false => none
 | _ => none
theorem itV_call (b : Int) (n c f k : Nat) (l : List Int) (x : Nat→Int) (hl : l.length = n * 2) (hn : n≤10) : Call Try.prog 61 [ptr0 1,.agg (newS 2 k :: I10 x []).toArray] (itE b n c f l [.gone]) fun v H' => v = .bool (inTB n l x)∧H' = itE b n c f l [.gone] := by
 have h := itV_ok b n c f k l x hl hn
 rw [itV_eq] at h
 exact Call.ofVcR (H := itE b n c f l [.gone]) (args := [ptr0 1,.agg (newS 2 k :: I10 x []).toArray]) (σ := fun b => b) (v2 := .bool (inTB n l x)) (H2 := itE b n c f l [.gone]) prE1_ok mixed (c := itB) (inv := itI b n c f l k x) Try.func61 (by kernel_rfl) h
theorem tpV_call (b : Int) (n c f : Nat) (l m : List Int) (hl : l.length = n * 2) (hn : n≤10) (hr : rngP b n l) (hm : m.length≤10) (ha : ∀ j,j < m.length→0≤m.getD j 0∧m.getD j 0 < n) : Call Try.prog 60 [ptr0 1,newS 2 m.length] (itE b n c f l [rws m]) fun v H' => v = .agg (newS 2 m.length :: I10 (stp b l m) []).toArray∧H' = itE b n c f l [rws m] := by
 have h := tpV_ok b n c f l m hl hn hr hm ha
 rw [tpV_eq] at h
 exact Call.ofVcR (H := itE b n c f l [rws m]) (args := [ptr0 1,newS 2 m.length]) (σ := fun b => b) (v2 := .agg (newS 2 m.length :: I10 (stp b l m) []).toArray) (H2 := itE b n c f l [rws m]) prE1_ok mixed (c := tpB) (inv := tpI b n c f l m) Try.func60 (by kernel_rfl) h
theorem walk_omap {σ : Nat→Nat} {b : Int} {n c f : Nat} {tm : Nat→Bool} (h : σ 0 = 0) : omap σ (.rw (walkC b n c f tm) none) = .rw (walkC b n c f tm) none := by
 show AObj.rw ((walkC b n c f tm).map (nmap1 σ)) none = _
 show AObj.rw (vi b :: Value.slice (some ⟨σ 0,0,none⟩) n c :: vi f :: (B10 tm []).map (nmap1 σ)) none = _
 rw [h]; rfl
theorem ros_omap {σ : Nat→Nat} {l : List Int} : omap σ (ros l) = ros l := by
 show AObj.ro ((l.map (.int .i64)).map (nmap1 σ)) = _
 rw [nmap1_all all_sc_int]; rfl
theorem rws_omap {σ : Nat→Nat} {l : List Int} : omap σ (rws l) = rws l := omap_ints
theorem ros_sc {l : List Int} {n : Nat} : (ros l).sc n = true := List.all_eq_true.2 fun u hu => by
 obtain ⟨x,_,rfl⟩ := List.mem_map.1 hu; rfl
theorem rws_sc {l : List Int} {n : Nat} : (rws l).sc n = true := List.all_eq_true.2 fun u hu => by
 obtain ⟨x,_,rfl⟩ := List.mem_map.1 hu; rfl
theorem ros_nm {l : List Int} {p : Nat→Bool} : (ros l).nm p = true := List.all_eq_true.2 fun u hu => by
 obtain ⟨x,_,rfl⟩ := List.mem_map.1 hu; rfl
theorem rws_nm {l : List Int} {p : Nat→Bool} : (rws l).nm p = true := List.all_eq_true.2 fun u hu => by
 obtain ⟨x,_,rfl⟩ := List.mem_map.1 hu; rfl
theorem walk_frame {fn : FuncId} {b : Int} {n c f : Nat} {l : List Int} {H : Heap} {o : AObj} {k : Nat} {args vs : List Value} {v : Value} (hA : AtW b n c f l H) (hk : 2≤k) (hkH : k < H.length) (ho : o = .gone∨(H[k]? = some o∧∀ σ,omap σ o = o)) (hos : ∀ n,o.sc n = true) (hon : ∀ p,o.nm p = true)
   (hargs : vs = args.map (nmap fun c => [0,1,k].getD c 0)) (hsa : args.all (sc 3) = true) (h : Call Try.prog fn args (itE b n c f l [o]) fun v' F' => v' = v∧F' = itE b n c f l [o])
   (hv : nm (fun d => decide (d < 3) || decide (3≤d)) v = true) (hvs : sc H.length (nmap (nameL [0,1,k] 3 H.length) v) = true) :
   Call Try.prog fn vs H fun v' H2 => v' = nmap (nameL [0,1,k] 3 H.length) v∧H2 = H := by
 have hH : 2 < H.length := by omega
 refine Call.frameP (Et := itE b n c f l [o]) (L := [0,1,k]) (args := args) rfl (by simp; omega) (fun x hx => by simp at hx; omega) (fun c' o' hc => ?_) (fun o' ho' => ?_) (fun c' o' hc _ => ?_) (fun o' ho' => ?_) hargs hsa h (fun o' ho' => ?_) hv hvs
 · match c',hc with
   | 0,hc => cases hc; exact .inr (by rw [ros_omap]; exact hA.1)
   | 1,hc => cases hc; exact .inr (by rw [walk_omap rfl]; exact hA.2)
   | 2,hc =>
     cases hc
     rcases ho with rfl | ⟨h1,h2⟩
     · exact .inl rfl
     · exact .inr (by rw [h2]; exact h1)
   | c' + 3,hc => simp [itE] at hc
 · rcases List.mem_cons.1 ho' with rfl | ho'
   · exact ros_sc
   rcases List.mem_cons.1 ho' with rfl | ho'
   · rfl
   · rw [List.mem_singleton.1 ho']; exact hos _
 · match c',hc with
   | 0,hc => cases hc; exact ⟨by rw [ros_omap,ros_omap],by rw [ros_omap]; exact ros_sc⟩
   | 1,hc => cases hc; exact ⟨by rw [walk_omap rfl,walk_omap rfl],by rw [walk_omap rfl]; show ((vi b :: sl0 n c :: vi f :: B10 (tmd n) []).all _) = true; simp [sl0,B10,sc1,sc0]; omega⟩
   | 2,hc =>
     cases hc
     rcases ho with rfl | ⟨h1,h2⟩
     · exact ⟨rfl,rfl⟩
     · exact ⟨by rw [h2,h2],by rw [h2]; exact hos _⟩
   | c' + 3,hc => simp [itE] at hc
 · rcases List.mem_cons.1 ho' with rfl | ho'
   · exact ros_sc
   rcases List.mem_cons.1 ho' with rfl | ho'
   · show ((vi b :: sl0 n c :: vi f :: B10 (tmd n) []).all _) = true; simp [sl0,B10,sc1,sc0]; omega
   · rw [List.mem_singleton.1 ho']; exact hos _
 · rcases List.mem_cons.1 ho' with rfl | ho'
   · exact ros_nm
   rcases List.mem_cons.1 ho' with rfl | ho'
   · rfl
   · rw [List.mem_singleton.1 ho']; exact hon _
theorem ag_lt {k n : Nat} {ls : List Value} {m : Nat} {args : List Value} {H : Heap} (hs : args.all (sc H.length) = true) (h : Value.agg (Value.slice (some ⟨k,0,some 0⟩) n m :: ls).toArray ∈ args) : k < H.length := by
 have h0 := List.all_eq_true.1 hs _ h
 have h1 : ((Value.slice (some ⟨k,0,some 0⟩) n m :: ls).toArray.all (sc1 H.length)) = true := h0
 rw [← Array.all_toList] at h1
 simp only [List.all_cons,Bool.and_eq_true] at h1
 exact of_decide_eq_true (show decide (k < H.length) = true from h1.1)
theorem sl_lt {k n : Nat} {m : Nat} {s : Option Nat} {args : List Value} {H : Heap} (hs : args.all (sc H.length) = true) (h : Value.slice (some ⟨k,0,s⟩) n m ∈ args) : k < H.length :=
 of_decide_eq_true (show decide (k < H.length) = true from List.all_eq_true.1 hs _ h)
theorem agg_nmap {σ : Nat→Nat} {k y : Nat} {cs : List Value} (hcs : cs.all (sc1 0) = true) : nmap σ (.agg (newS k y :: cs).toArray) = .agg (newS (σ k) y :: cs).toArray := by
 show Value.agg ((newS k y :: cs).toArray.map (nmap1 σ)) = _
 rw [List.map_toArray,List.map_cons,nmap1_all hcs]; rfl
theorem agg_sc {n k y : Nat} {cs : List Value} (hk : k < n) (hcs : cs.all (sc1 0) = true) : sc n (.agg (newS k y :: cs).toArray) = true := by
 show (newS k y :: cs).toArray.all (sc1 n) = true
 rw [← Array.all_toList]
 simp only [List.all_cons,Bool.and_eq_true]
 exact ⟨decide_eq_true hk,List.all_eq_true.2 fun u hu => sc1_mono (Nat.zero_le _) (List.all_eq_true.1 hcs u hu)⟩
theorem agg_nm {p : Nat→Bool} {k y : Nat} {cs : List Value} (hk : p k = true) (hcs : cs.all (sc1 0) = true) : nm p (.agg (newS k y :: cs).toArray) = true := by
 show (newS k y :: cs).toArray.all (nm1 p) = true
 rw [← Array.all_toList]
 simp only [List.all_cons,Bool.and_eq_true]
 exact ⟨hk,List.all_eq_true.2 fun u hu => nm1_closed (List.all_eq_true.1 hcs u hu)⟩
theorem tp_ok (b : Int) (n c f : Nat) (l m : List Int) : ∀ args H φ v H' lg,tpCt b n c f l m args H = some (φ,v,H',lg)→Asks φ→Call Try.prog 60 args H (fun v' H2 => v' = v∧H2 = H')∧Kept H H' lg := by
 intro args H φ v H' lg h hφ
 unfold tpCt at h
 split at h <;> try (cases h; done)
 rename_i k y
 split at h <;> cases h
 rename_i hk
 obtain ⟨h1,h2,h3,h4,h5,h6,h7,h8⟩ := hφ
 subst h3
 refine ⟨fun ρ w R hs => ?_,Kept.refl _ _⟩
 have hkH : k < H.length := sl_lt hs (List.mem_cons_of_mem _ List.mem_cons_self)
 have e : nmap (nameL [0,1,k] 3 H.length) (.agg (newS 2 m.length :: I10 (stp b l m) []).toArray) = .agg (newS k m.length :: I10 (stp b l m) []).toArray := agg_nmap rfl
 have hsv : sc H.length (.agg (newS k m.length :: I10 (stp b l m) []).toArray) = true := by
   exact agg_sc hkH rfl
 have := walk_frame (fn := 60) (o := rws m) (vs := [ptr0 1,newS k m.length]) h1 (Nat.le_of_ble_eq_true hk) hkH (.inr ⟨h2,fun _ => rws_omap⟩) (fun _ => rws_sc) (fun _ => rws_nm) (args := [ptr0 1,newS 2 m.length]) rfl rfl (tpV_call b n c f l m h4 h5 h6 h7 h8) (agg_nm rfl rfl) (by rw [e]; exact hsv)
 rw [e] at this
 exact this ρ w R hs
end Go.Pier.Rd
namespace Go.Pier.Rd
open Go Go.Pier Go.Proofs
noncomputable def ycT (o : Option ((Value→Heap→Prop)→Prop)) (Q : Value→Heap→Prop) : Prop := match o with | some T => T Q | none => False
def NL (st : Nat→Int) : Int := mxN st 9
theorem stepL_no {g : (Nat→Int)→Bool} {N : (Nat→Int)→Int} {s : LS} {x : Nat→Int} (h : g x = false) : stepL g N s x = s := by unfold stepL; rw [h]
theorem stepL_new {g : (Nat→Int)→Bool} {N : (Nat→Int)→Int} {s : LS} {x : Nat→Int} (h : g x = true) (h2 : s.no = true∨N x < N s.st) : stepL g N s x = ⟨false,x⟩ := by
 unfold stepL; rw [h]
 have : (s.no || decide (N x < N s.st)) = true := by
   rcases h2 with h2 | h2
   · rw [h2]; rfl
   · rw [decide_eq_true h2,Bool.or_true]
 simp only [this]
theorem stepL_old {g : (Nat→Int)→Bool} {N : (Nat→Int)→Int} {s : LS} {x : Nat→Int} (h1 : s.no = false) (h2 : ¬ N x < N s.st) : stepL g N s x = s := by
 unfold stepL
 cases g x with
 | false => rfl
 | true =>
   have : (s.no || decide (N x < N s.st)) = false := by rw [h1,decide_eq_false h2]; rfl
   simp only [this]
theorem slot_sc {m k n : Nat} {no : Bool} {st : Nat→Int} (hk : k < m) : AObj.sc m (.rw (slotV no k n :: I10 st []) none) = true := by
 cases no with
 | true => rfl
 | false =>
   show ((newS k n :: I10 st []).all (sc1 m)) = true
   rw [List.all_cons,Bool.and_eq_true]
   exact ⟨decide_eq_true hk,rfl⟩
end Go.Pier.Rd
namespace Go.Pier.Rd
open Go Go.Pier Go.Proofs
end Go.Pier.Rd
namespace Go.Pier
open Go
variable {P : Program} {H : Heap} {f : FuncId}
end Go.Pier
namespace Go.Pier
open Go
def orcLim (P : Program) : Orc := fun env H o => match o.op with
 | .slice t x lo hi mx => match env x,envs env lo.toList,envs env hi.toList,envs env mx.toList with
   | some (.slice (some ⟨b,0,some 0⟩) m 0),some [],some [.int k u],some [.int k' u'] => match P.underlying t,H[b]? with
     | some (.slice elem),some (.rw cs (some 1)) => match sizeT P elem with
       | some 1 => some (m≤cs.length∧u = m∧u' = m,some (.slice (some ⟨b,0,none⟩) m m),H)
       | _ => none
     | _,_ => none
   | _,_,_,_ => none
 | _ => none
theorem orcLim_ok {P : Program} : OrcOk P (orcLim P) := fun env H o φ v H' h hφ => by
 unfold orcLim at h
 split at h <;> try (cases h; done)
 rename_i t x lo hi mx hop
 split at h <;> try (cases h; done)
 rename_i b m k u k' u' h1 h2 h3 h4
 split at h <;> try (cases h; done)
 rename_i elem cs hu hb
 split at h <;> cases h
 rename_i hs
 obtain ⟨k1,rfl,rfl⟩ := hφ
 unfold evOp
 rw [hop]
 simp only [h1,h2,h3,h4,Option.bind_some]
 have : aSlice P H t (.slice (some ⟨b,0,some 0⟩) m 0) ([] : List Value).head? [Value.int k (m : Int)].head? [Value.int k' (m : Int)].head? = some (.slice (some ⟨b,0,none⟩) m m) := by
   have ho : openAt H ⟨b,0,some 0⟩ 1 0 m = true := by
     unfold openAt
     simp only [hb]
     simp
     omega
   unfold aSlice
   rw [hu]
   simp only [List.head?_cons,List.head?_nil,hs,Option.bind_some,ho,and_self,if_true,aBounds,bnd]
   simp [Addr.add,base]
 rw [this]; rfl
end Go.Pier
namespace Go.Pier
open Go
variable {P : Program} {H : Heap}
structure FrmC where
 f : FuncId
 args : List Value
 E : Heap
 v : Value
 F : Heap
 N : Heap
def tt' : Nat→Bool := fun _ => true
def FrmC.chk (p : FrmC) : Bool := Nat.beq p.F.length p.E.length && (p.E.all (fun o => o.wr && o.sc p.E.length) && (p.args.all (sc p.E.length) && ((p.F ++ p.N).all (fun o => o.nm tt') && (p.N.all (fun o => !o.isRo) && nm tt' p.v))))
def FrmC.Ok (P : Program) (p : FrmC) : Prop := Call P p.f p.args p.E (fun v' F' => v' = p.v∧F' = p.F ++ p.N)∧p.chk = true
theorem FrmC.ok_ev {p : FrmC} {tbl : Tbl} (ht : TblOk P tbl) {n : Nat} (h : (gcFun (evFunT P (evCT P tbl n none)) p.f p.args p.E).map (fun r => (r.1,r.2.1)) = some (p.v,p.F ++ p.N)) (hp : p.chk = true) : p.Ok P := by
 rw [Option.map_eq_some_iff] at h
 obtain ⟨⟨v,H2,l⟩,h1,h2⟩ := h
 cases h2
 exact ⟨(ExactC.ok_ev (p := ⟨p.f,p.args,p.E,p.v,p.F ++ p.N,l⟩) ht h1).1,hp⟩
def valNames : Value→List Nat
 | .slice (some a) _ _ => [a.block]
 | .pointer (some a) => [a.block]
 | .agg cs => cs.toList.flatMap fun | .slice (some a) _ _ => [a.block] | .pointer (some a) => [a.block] | _ => []
 | _ => []
def dedup : List Nat→List Nat→List Nat
 | acc,[] => acc.reverse
 | acc,b :: r => match acc.any (Nat.beq b) with
   | true => dedup acc r
   | false => dedup (b :: acc) r
def frmNames (args : List Value) (H : Heap) : List Nat :=
 let L := args.flatMap valNames
 dedup [] (L ++ L.flatMap fun (b : Nat) => match H[b]? with
   | some (AObj.rw cs _) => cs.flatMap fun (v : Value) => match v with | .map (some r) => [r] | v => valNames v
   | _ => [])
def objsB (σ : Nat→Nat) (H : Heap) : List Nat→Heap→Bool
 | [],[] => true
 | b :: L,o :: E => (match H[b]? with | some o' => oeq o' (omap σ o) | none => false) && objsB σ H L E
 | _,_ => false
theorem objsB_ok {σ : Nat→Nat} : ∀ {L : List Nat} {E : Heap},objsB σ H L E = true→∀ (c : Nat) (o : AObj),E[c]? = some o→H[L.getD c 0]? = some (omap σ o)
 | [],[],_,c,o,h => by simp at h
 | [],_ :: _,h,_,_,_ => by cases h
 | _ :: _,[],h,_,_,_ => by cases h
 | b :: L,o' :: E,h,c,o,hc => by
   simp only [objsB,Bool.and_eq_true] at h
   cases c with
   | zero =>
     simp only [List.getElem?_cons_zero,Option.some.injEq] at hc
     subst hc
     have h1 := h.1
     split at h1
     · rename_i o2 ho; rw [show (b :: L).getD 0 0 = b from rfl,ho,oeq_eq h1]
     · cases h1
   | succ c =>
     simp only [List.getElem?_cons_succ] at hc
     exact objsB_ok h.2 c o hc
def FrmC.go (p : FrmC) (args : List Value) (H : Heap) : Option (Value × Heap × List Nat) :=
 let L := frmNames args H
 let τ := nameL L p.E.length H.length
 match Nat.beq L.length p.E.length && (nodupB L && (allB (fun b => Nat.blt b H.length) L && (listB veq (p.args.map (nmap fun c => L.getD c 0)) args && (objsB (fun c => L.getD c 0) H L p.E &&
     (((p.F ++ p.N).all fun o => (omap τ o).sc (H.length + p.N.length)) && sc (H.length + p.N.length) (nmap τ p.v)))))) with
 | true => some (nmap τ p.v,setL H L (p.F.map (omap τ)) ++ p.N.map (omap τ),L)
 | false => none
theorem any_nm {m e : Nat} (he : e = m) : (fun d => decide (d < m) || decide (e≤d)) = tt' := by
 subst he
 funext d
 simp only [tt',Bool.or_eq_true,decide_eq_true_eq]
 by_cases h : d < e
 · simp [h]
 · simp [h]; omega
theorem read_sc {σ : Nat→Nat} {B : List Nat} {m : Nat} : ∀ {l : List Value},l.all (sc m) = true→ReadA2 H σ B m (l.map Arg2.val) (l.map (nmap σ))
 | [],_ => trivial
 | v :: l,h => by
   rw [List.all_cons,Bool.and_eq_true] at h
   exact ⟨rfl,h.1,read_sc h.2⟩
theorem FrmC.go_ok {p : FrmC} (h : p.Ok P) {args : List Value} {v : Value} {H' : Heap} {l : List Nat} (hg : p.go args H = some (v,H',l)) : Call P p.f args H (fun v' H2 => v' = v∧H2 = H')∧Kept H H' l := by
 obtain ⟨hcall,hc⟩ := h
 unfold FrmC.chk at hc
 simp only [Bool.and_eq_true,List.all_eq_true,Bool.not_eq_true'] at hc
 obtain ⟨c1,c2,c3,c4,c5,c6⟩ := hc
 have c1 := Nat.eq_of_beq_eq_true c1
 unfold FrmC.go at hg
 dsimp only at hg
 split at hg <;> cases hg
 rename_i hk
 simp only [Bool.and_eq_true,List.all_eq_true] at hk
 obtain ⟨k1,k2,k3,k4,k5,k6,k7⟩ := hk
 have k1 := Nat.eq_of_beq_eq_true k1
 have ka := listB_eq (fun _ _ => veq_eq) k4
 have e0 : canonH2 (p.args.map Arg2.val) = [] := canonH2_vals
 have := Call.frameL (P := P) (f := p.f) (H := H) (Et := p.E) (Ft := p.F) (N := p.N) (L := frmNames args H) (ags := p.args.map Arg2.val) (vs := args) (v := p.v) k1 c1 (nodupB_ok k2)
   (fun b hb => by have := allB_ok k3 b hb; rw [Nat.blt_eq] at this; exact this)
   (objsB_ok k5) (fun o ho => by have := c2 o ho; simpa using this)
   (by
     have := read_sc (H := H) (σ := fun c => (frmNames args H).getD c 0) (B := frmNames args H) (List.all_eq_true.2 c3)
     rw [ka] at this; exact this)
   (fun caps => by rw [canonA2_vals,e0,List.append_nil,List.append_nil]; exact hcall)
   (fun o ho => by rw [e0,List.append_nil,any_nm rfl]; exact c4 o ho)
   c5
   (by rw [e0,List.append_nil,any_nm rfl]; exact c6)
   (fun o ho => by rw [e0,List.append_nil]; exact k6 o ho)
   (by rw [e0,List.append_nil]; exact k7)
 rw [e0,List.append_nil] at this
 exact this
def frmFind : List FrmC→FuncId→List Value→Heap→Option (Value × Heap × List Nat)
 | [],_,_,_ => none
 | p :: l,f,args,H => match Nat.beq p.f f with
   | true => match p.go args H with
     | some q => some q
     | none => frmFind l f args H
   | false => frmFind l f args H
theorem frmFind_ok {f : FuncId} {args : List Value} {v : Value} {H' : Heap} {lg : List Nat} : ∀ {l : List FrmC},(∀ p ∈ l,p.Ok P)→frmFind l f args H = some (v,H',lg)→Call P f args H (fun v' H2 => v' = v∧H2 = H')∧Kept H H' lg
 | [],_,h => by cases h
 | p :: l,hl,h => by
   unfold frmFind at h
   split at h
   · rename_i hf
     obtain rfl := Nat.eq_of_beq_eq_true hf
     split at h
     · rename_i hq
       cases h
       exact FrmC.go_ok (hl p List.mem_cons_self) hq
     · exact frmFind_ok (fun q hq => hl q (List.mem_cons_of_mem _ hq)) h
   · exact frmFind_ok (fun q hq => hl q (List.mem_cons_of_mem _ hq)) h
def frmTbl (l : List FrmC) (tbl : Tbl) : Tbl := fun f => match (l.any fun p => Nat.beq p.f f) with
 | true => some fun args H => match frmFind l f args H with
   | some q => some q
   | none => match tbl f with
     | some g => g args H
     | none => none
 | false => tbl f
theorem frmTbl_ok {l : List FrmC} {tbl : Tbl} (hl : ∀ p ∈ l,p.Ok P) (ht : TblOk P tbl) : TblOk P (frmTbl l tbl) := by
 intro f g hg args H v H' lg h
 unfold frmTbl at hg
 split at hg
 · cases hg
   simp only at h
   split at h
   · rename_i hq
     cases h
     exact frmFind_ok hl hq
   · split at h <;> try (cases h; done)
     rename_i g hg
     exact ht f g hg args H v H' lg h
 · exact ht f g hg args H v H' lg h
end Go.Pier
namespace Go.Pier.Rd
open Go Go.Pier Go.Proofs
noncomputable def grB : Code := Try.f134.body.getD .skip
noncomputable def fdR (b : Int) (n : Nat) (l : List Int) (no : Bool) (st : Nat→Int) (r : List (List Int)) : LS := foldR b l (inTB n l) NL ⟨no,st⟩ r
theorem stepL_emp {g : (Nat→Int)→Bool} {N : (Nat→Int)→Int} {s : LS} {x : Nat→Int} (h : s.no = true→s.st = empI) : (stepL g N s x).no = true→(stepL g N s x).st = empI := by
 unfold stepL
 split
 · split
   · intro h; cases h
   · exact h
 · exact h
theorem foldR_emp {b : Int} {l : List Int} {g : (Nat→Int)→Bool} {N : (Nat→Int)→Int} : ∀ (r : List (List Int)) (s : LS),(s.no = true→s.st = empI)→(foldR b l g N s r).no = true→(foldR b l g N s r).st = empI
 | [],_,h => h
 | m :: r,s,h => foldR_emp r (stepL g N s (stp b l m)) (stepL_emp h)
theorem slot_map {σ : Nat→Nat} {k n : Nat} {no : Bool} {st : Nat→Int} : omap σ (.rw (slotV no k n :: I10 st []) none) = .rw (slotV no (σ k) n :: I10 st []) none := by cases no <;> rfl
theorem getD_lt {L : List Nat} {H : Heap} (h : L.all (fun b => Nat.blt b H.length) = true) : ∀ b ∈ L,b < H.length := fun b hb => by
 have := List.all_eq_true.1 h b hb
 rwa [Nat.blt_eq] at this
theorem whole_len {n : Nat} {m : List Int} (h : Whole n m) : m.length = n := by have := h.len; omega
theorem whole_mem {n : Nat} {m : List Int} (h : Whole n m) : ∀ j,j < m.length→0≤m.getD j 0∧m.getD j 0 < n := fun j hj => by
 have := h.mem (m.getD j 0) (ints_mem hj)
 omega
end Go.Pier.Rd
namespace Go.Pier.Rd
open Go Go.Pier Go.Proofs
theorem begun_nil {n g : Nat} (h : g≤n) : Begun n g g [] := ⟨by simp,h,by simp,List.nodup_nil,fun a h1 h2 => by omega⟩
end Go.Pier.Rd
namespace Go.Pier
open Go
variable {P : Program}
theorem undl {t : TypeId} {d : TypeDesc} (h : P.underlying t = some d) : pureRun P (Go.underlying t) = some d := by
 show pureRun P (match P.underlying t with | some d => (Sem.pure d : Sem TypeDesc) | none => stuck "no such type") = _
 rw [h]; rfl
theorem eqNum {t : TypeId} {k : IntKind} (d : Nat) (h : P.underlying t = some (.int k)) (a b : Int) : pureRun P (Op.equalIn (d + 1) t (.int k a) (.int k b)) = some (a == b) := by
 unfold Op.equalIn
 rw [pureRun_bind (undl h)]
 simp
 rfl
theorem loop_all {α : Type} {f : α→Option Bool × Unit→Sem (ForInStep (Option Bool × Unit))} {e : α→Bool} : ∀ (l : List α),(∀ i ∈ l,∀ s,pureRun P (f i s) = some (if e i = true then .yield (none,()) else .done (some false,()))) →
   pureRun P (forIn l ((none,()) : Option Bool × Unit) f) = some (if l.all e = true then (none,()) else (some false,()))
 | [],_ => rfl
 | a :: l,h => by
   rw [List.forIn_cons,pureRun_bind (h a List.mem_cons_self _)]
   cases he : e a with
   | true =>
     simp only [if_true,List.all_cons,he,Bool.true_and]
     exact loop_all l fun i hi s => h i (List.mem_cons_of_mem _ hi) s
   | false => simp [he]; rfl
structure TwoNums (P : Program) (t : TypeId) (g0 g1 : Field) : Prop where
 ud : ∃ fs,P.underlying t = some (.struct fs)∧fs.toList = [g0,g1]
 st : P.stoodInHeld t = false
 n0 : g0.name ≠ "_"
 n1 : g1.name ≠ "_"
 o0 : (g0.offset == 0) = true
 o1 : (g1.offset == 0) = false
 t0 : P.underlying g0.type = some (.int .i64)
 t1 : P.underlying g1.type = some (.int .i64)
 p0 : ∀ a b : Int,pureRun P (part g0.type #[vi a,vi b] g0.offset) = some (vi a)
 p1 : ∀ a b : Int,pureRun P (part g1.type #[vi a,vi b] g1.offset) = some (vi b)
 gd : P.eqGuardType P.depth t = false
theorem TwoNums.eq {t : TypeId} {g0 g1 : Field} (T : TwoNums P t g0 g1) (d : Nat) (a b x y : Int) : pureRun P (Op.equalIn (d + 2) t (.agg #[vi a,vi b]) (.agg #[vi x,vi y])) = some ((a == x) && (b == y)) := by
 obtain ⟨fs,hu,hl⟩ := T.ud
 unfold Op.equalIn
 rw [pureRun_bind (undl hu)]
 simp only []
 rw [pureRun_bind (show pureRun P program = some P from rfl)]
 rw [if_neg (show ¬ Program.stoodInHeld P t = true by rw [T.st]; exact Bool.false_ne_true)]
 rw [← Array.forIn_toList,hl]
 rw [pureRun_bind (loop_all (e := fun f : Field => if (f.offset == 0) = true then a == x else b == y) _ fun f hf s => ?_)]
 · simp only [List.all_cons,List.all_nil,T.o0,T.o1,if_true,Bool.false_eq_true,if_false,Bool.and_true]
   cases (a == x) <;> cases (b == y) <;> rfl
 · rcases List.mem_cons.1 hf with rfl | hf
   · rw [if_pos T.n0,pureRun_bind (T.p0 a b),pureRun_bind (T.p0 x y),pureRun_bind (eqNum _ T.t0 _ _),T.o0]
     simp only [if_true]
     cases (a == x) <;> rfl
   · rw [List.mem_singleton.1 hf]
     rw [if_pos T.n1,pureRun_bind (T.p1 a b),pureRun_bind (T.p1 x y),pureRun_bind (eqNum _ T.t1 _ _),T.o1]
     simp only [Bool.false_eq_true,if_false]
     cases (b == y) <;> rfl
end Go.Pier
namespace Go.Pier.Rd
open Go Go.Pier Go.Proofs
end Go.Pier.Rd
