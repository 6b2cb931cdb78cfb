import Derived.Test.YtbmdkgoclijgkaaPierKS7
import Derived.Test.YtbmdkgoclijgkaaPierKS10
import Derived.KernelRfl
set_option linter.unusedSimpArgs false
set_option linter.unusedVariables false
set_option maxRecDepth 100000
namespace Go.Pier.Rd
open Go Go.Pier Go.Proofs
noncomputable def scB : Code := Try.f15.body.getD .skip
noncomputable def frU : Ct := ((Ct.none.add 18 (pureG [] worksS)).add 22 (pureP (fun b n l => vi (errP b n l)) (vi 6))).add 24 (pure3 psP (specQ fun b n l => .tuple #[vi (lenF b n l),vi (lerF b n l)]))
noncomputable def scT : Ct := (frU.add 33 (pure3 psP (specQ fun b n l => .tuple #[vi (dlyF b n l),vi 0]))).add 31 (pure3 psPI (specI fun b n l s => .tuple #[.agg #[vi (loF b n l s),vi (hiF b n l s)],vi (wnrF b n l s)]))
noncomputable def scE : VEnv := { ct := scT,orc := orcOr (orcEq2 43) prO,cc := ccIn Try.prog fnE [⟨45,Try.f45,fun _ _ _ => none⟩] }
def scI (b : Int) (n c : Nat) (l : List Int) (t w : Int) : Nat→Option LInv := invOf 0 (.mk [
   ⟨Unit,fun _ => True,fun _ => [(2,.int .u8 w),(3,ptr0 1),(7,vi (cOf t)),(8,ptr0 2),(9,vi 0)],fun _ => [ros l,boxP b n c,.rw [vi (cOf t * b),nilS] none],fun _ => 1000001,fun _ _ => none⟩,
   ⟨Nat,fun i => 0 < i∧i≤n,fun i => [(2,.int .u8 w),(3,ptr0 1),(7,vi (cOf t)),(8,ptr0 2),(9,vi i)],fun i => [ros l,boxP b n c,.rw [vi (cOf t * b),newS 3 i] none,rw2 (scL (cOf t) l i)],fun i => n - i,fun _ _ => none⟩]
 (fun _ => nsub 2 4) (fun i j => match j with | 0 => [] | _ => match i with | 0 => [nsub 3 4] | _ => [nsub 3 5]))
noncomputable def scV0 (l:List Int) := (List.map (Value.int IntKind.i64) l)
noncomputable def scV1 (l:List Int) (t:Int) (x:Nat) := (List.map (Value.int IntKind.i64) (scL (cOf t) l x))
noncomputable def scV2 (b:Int) (n:Nat) (l:List Int) (t:Int) (w:Int) (x:Nat):Bool := (loF (cOf t * b) x (intsOf (scV1 l t x)) ((IntKind.i64.wrap w).tmod (n:Int))==IntKind.i64.wrap (cOf t * loF b n (intsOf (scV0 l)) ((IntKind.i64.wrap w).tmod (n:Int))) && hiF (cOf t * b) x (intsOf (scV1 l t x)) ((IntKind.i64.wrap w).tmod (n:Int))==IntKind.i64.wrap (cOf t * getI [vi (loF b n (intsOf (scV0 l)) ((IntKind.i64.wrap w).tmod (n:Int))),vi (hiF b n (intsOf (scV0 l)) ((IntKind.i64.wrap w).tmod (n:Int)))] (0+1)))
noncomputable def scV3 (b:Int) (n:Nat) (l:List Int) (w:Int):List Value := [vi (loF b n (intsOf (scV0 l)) ((IntKind.i64.wrap w).tmod (n:Int))),vi (hiF b n (intsOf (scV0 l)) ((IntKind.i64.wrap w).tmod (n:Int)))]
noncomputable def scV4  : Prop := (Value.bool false = Value.bool true)
noncomputable def scV5 (b:Int) (n:Nat) (l:List Int):Prop := ((true=true∧Flat (scV0 l))∧okL (Leaf.view (scV0 l) n false)∧errP b n (intsOf (scV0 l))=(0:Int))
noncomputable def scV6 (n:Nat) (w:Int) := ((IntKind.i64.wrap w).tmod (n:Int))
noncomputable def scV7 (b:Int) (l:List Int) (t:Int) (x:Nat):Prop := ((true=true∧Flat (scV1 l t x))∧okL (Leaf.view (scV1 l t x) x false)∧errP (cOf t * b) x (intsOf (scV1 l t x))=(0:Int))
noncomputable def scV8 (b:Int) (n:Nat) (c:Nat):Prop := (AObj.rw [vi b,Value.slice (some (ad0 0)) n c] none=AObj.rw [vi b,Value.slice (some (ad0 0)) n c] none∧true=true)
noncomputable def scV9 (b:Int) (n:Nat) (l:List Int) (t:Int) (w:Int) (x:Nat):Prop := ((true=true∧Flat (scV1 l t x))∧okL (Leaf.view (scV1 l t x) x false)∧errP (cOf t * b) x (intsOf (scV1 l t x))=(0:Int)∧(0:Int)≤(IntKind.i64.wrap w).tmod (n:Int)∧(IntKind.i64.wrap w).tmod (n:Int)<(x:Int))
noncomputable def scV10 (b:Int) (n:Nat) (l:List Int) (t:Int) (x:Nat):Bool := (lenF (cOf t * b) x (intsOf (scV1 l t x))==IntKind.i64.wrap (cOf t * lenF b n (intsOf (scV0 l))))
noncomputable def scV11 (b:Int) (n:Nat) (l:List Int) (t:Int) (x:Nat):Bool := (dlyF (cOf t * b) x (intsOf (scV1 l t x))==IntKind.i64.wrap (cOf t * dlyF b n (intsOf (scV0 l))))
noncomputable def scV12 (b:Int) (n:Nat) (l:List Int) (w:Int):Prop := ((true=true∧Flat (scV0 l))∧okL (Leaf.view (scV0 l) n false)∧errP b n (intsOf (scV0 l))=(0:Int)∧(0:Int)≤(IntKind.i64.wrap w).tmod (n:Int)∧(IntKind.i64.wrap w).tmod (n:Int)<(n:Int))
noncomputable def scV13 (b:Int) (n:Nat) (l:List Int) (t:Int) (w:Int) (x:Nat):Bool := (wnrF b n (intsOf (scV0 l)) (scV6 n w) !=wnrF (cOf t * b) x (intsOf (scV1 l t x)) (scV6 n w))
noncomputable def scV14 (b:Int) (n:Nat) (l:List Int) (w:Int) := (vi (loF b n (intsOf (scV0 l)) (scV6 n w)))
noncomputable def scV15 (b:Int) (n:Nat) (l:List Int) (t:Int) (x:Nat):Bool := (lerF b n (intsOf (scV0 l)) !=lerF (cOf t * b) x (intsOf (scV1 l t x)))
noncomputable def scV16 (b:Int) (t:Int):List Value := [vi (IntKind.i64.wrap (IntKind.i64.wrap ((1:Int)+IntKind.i64.wrap (t.tmod (4:Int))) * b)),Value.slice none 0 0]
noncomputable def scV17  : Prop := (Value.bool true = Value.bool true)
noncomputable def scV18 (b:Int) (n:Nat) (l:List Int) (w:Int) := (IntAt IntKind.i64 (scV3 b n l w) (0+1))
noncomputable def scV19 (l:List Int) (t:Int) (x:Nat) := (andP (some (0+2≤2∧true=true)) (x+1≤1099511627776∧(2 * (x+1)+256) * 16≤281474976710656∧2=2∧(scV1 l t x).length=x * 2))
noncomputable def scV20 (l:List Int) (t:Int) (x:Nat) := (List.map (Value.int IntKind.i64) (scL (cOf t) l x)++[vi (IntKind.i64.wrap (cOf t * getI (scV0 l) (0+(x:Int).toNat * 2))),vi (IntKind.i64.wrap (cOf t * getI (scV0 l) (0+(x:Int).toNat * 2+1)))])
noncomputable def scV21  := (andP (some ((0 : Nat) + (2 : Nat)≤(2 : Nat)∧true = true)) ((1 : Nat)≤(1099511627776 : Nat)∧(4128 : Nat)≤(281474976710656 : Nat)∧(2 : Nat) = (2 : Nat)∧(0 : Nat) = (0 : Nat)∧(0 : Nat) < (1 : Nat)))
noncomputable def scV22 (t:Int):Prop := (IntKind.i64.wrap ((1:Int)+IntKind.i64.wrap (t.tmod (4:Int)))=cOf t)
noncomputable def scV23  := (Value.int IntKind.i64)
noncomputable def scV24 (l:List Int):Prop := (AObj.ro (scV0 l)=AObj.ro (List.map (nmap1 (nsub 3 4)) (scV0 l))∧AObj.sc 4 (AObj.ro (scV0 l))=true)
noncomputable def scV25 (l:List Int):Prop := (AObj.ro (scV0 l)=AObj.ro (List.map (nmap1 (nsub 3 5)) (scV0 l))∧AObj.sc 4 (AObj.ro (scV0 l))=true)
noncomputable def scV26 (b:Int) (l:List Int) (t:Int) (x:Nat):Bool := (!errP (cOf t * b) x (intsOf (scV1 l t x))==(0:Int))
noncomputable def scV27  := ((0 : Nat) + (1 : Nat))
noncomputable def scV28 (b:Int) (t:Int) (x:Nat):List Value := [vi (cOf t * b),Value.slice (some ⟨5,0,some 0⟩) (x+1) 0]
noncomputable def scV29 (b:Int) (t:Int):List Value := [vi (cOf t * b),Value.slice (some ⟨4,0,some 0⟩) 1 0]
noncomputable def scV30 (n:Nat):Prop := ((n:Int)≠(0:Int))
noncomputable def scV31 (l:List Int) (t:Int):List Value := [vi (IntKind.i64.wrap (cOf t * getI (scV0 l) 0)),vi (IntKind.i64.wrap (cOf t * getI (scV0 l) 1))]
noncomputable def scV32 (b:Int) (t:Int):Prop := (AObj.rw (scV16 b t) none=AObj.rw [vi (cOf t * b),Value.slice none 0 0] none∧true=true)
noncomputable def scV33  (x:Nat) := (!decide ((14:Int)<(x:Int)))
noncomputable def scV34 (l:List Int) (x:Nat) := (IntAt IntKind.i64 (scV0 l) (0+(x:Int).toNat * 2+1))
noncomputable def scV :=
fun (b:Int) (n c:Nat) (l:List Int) (t w:Int)↦((!decide ((14:Int)<(n:Int)))=true→Ob ((true=true∧Flat (scV0 l))∧okL (Leaf.view (scV0 l) n false))∧((!errP b n (intsOf (scV0 l))==(0:Int))=true→Ob True∧True∧Ob scV17)∧((!errP b n (intsOf (scV0 l))==(0:Int))=false→Ob ((4:Int)≠(0:Int))∧Ob (some (vi b)=some (vi b))∧Ob (0+2≤2)∧((∃ (y:Unit),Ob True∧(Ob (AObj.ro (scV0 l)=AObj.ro (List.map (nmap1 fun (x:Nat)↦match x.beq 2 with | true => 4 | false => x) (scV0 l))∧AObj.sc 3 (AObj.ro (scV0 l))=true)∧Ob (scV8 b n c)∧Ob (scV32 b t)∧True)∧Ob (w=w)∧Ob (ptr0 1=ptr0 1)∧Ob (scV22 t)∧Ob (ptr0 4=ptr0 4)∧Ob ((0:Int)=(0:Int))∧True)∨∃ (yq:Nat),Ob (0<yq∧yq≤n)∧(Ob (AObj.ro (scV0 l)=AObj.ro (List.map (nmap1 fun (x:Nat)↦match x.beq 2 with | true => 4 | false => x) (scV0 l))∧AObj.sc 4 (AObj.ro (scV0 l))=true)∧Ob (scV8 b n c)∧Ob (AObj.rw (scV16 b t) none=AObj.rw [vi (cOf t * b),Value.slice (some ⟨3,0,some 0⟩) yq 0] none∧true=true)∧Ob (AObj.rw [vi b,Value.slice (some (ad0 0)) n c] none=AObj.rw (List.map (nmap1 fun (x:Nat)↦match x.beq 2 with | true => 4 | false => x) (List.map scV23 (scL (cOf t) l yq))) (some 2)∧AObj.sc 4 (AObj.rw (List.map scV23 (scL (cOf t) l yq)) (some 2))=true)∧True)∧Ob (w=w)∧Ob (ptr0 1=ptr0 1)∧Ob (scV22 t)∧Ob (ptr0 4=ptr0 4)∧Ob ((0:Int)=(yq:Int))∧True)∧(∀ (xq:Unit),Ob True→(decide ((0:Int)<(n:Int))=true→Ob ((0:Int)≤(0:Int)∧(0:Int)<(n:Int)∧true=true)∧Ob (IntAt IntKind.i64 (scV0 l) 0)∧Ob ((0:Int)≤(0:Int)∧(0:Int)<(n:Int)∧true=true)∧Ob (IntAt IntKind.i64 (scV0 l) 1)∧Ob scV21∧Ob (2≤2)∧(False∨∃ (yqq:Nat),Ob (0<yqq∧yqq≤n)∧Ob (n-yqq<1000001)∧(Ob (scV24 l)∧Ob (scV8 b n c)∧Ob (AObj.rw (scV29 b t) none=AObj.rw [vi (cOf t * b),Value.slice (some ⟨4,0,some 0⟩) yqq 0] none∧true=true)∧Ob (AObj.rw (scV31 l t) (some 2)=AObj.rw (List.map (nmap1 (nsub 3 4)) (List.map scV23 (scL (cOf t) l yqq))) (some 2)∧AObj.sc 4 (AObj.rw (List.map scV23 (scL (cOf t) l yqq)) (some 2))=true)∧True)∧Ob (w=w)∧Ob (ptr0 1=ptr0 1)∧Ob (cOf t=cOf t)∧Ob (ptr0 2=ptr0 2)∧Ob (IntKind.i64.wrap ((0:Int)+(1:Int))=(yqq:Int))∧True))∧(decide ((0:Int)<(n:Int))=false→(true=true→Ob True∧(true=true→Ob True∧True∧Ob scV17)∧(true=false→Ob (scV30 n)∧Ob (scV5 b n l)∧False))∧(true=false→(true=true→Ob True∧True∧Ob scV17)∧(true=false→Ob (scV30 n)∧Ob (scV5 b n l)∧False))))∧∀ (x:Nat),Ob (0<x∧x≤n)→(decide ((x:Int)<(n:Int))=true→Ob ((0:Int)≤(x:Int)∧(x:Int)<(n:Int)∧true=true)∧Ob (IntAt IntKind.i64 (scV0 l) (0+(x:Int).toNat * 2))∧Ob ((0:Int)≤(x:Int)∧(x:Int)<(n:Int)∧true=true)∧Ob (scV34 l x)∧Ob (scV19 l t x)∧Ob (2≤2)∧(False∨∃ (yqqq:Nat),Ob (0<yqqq∧yqqq≤n)∧Ob (n-yqqq<n-x)∧(Ob (scV25 l)∧Ob (scV8 b n c)∧Ob (AObj.rw (scV28 b t x) none=AObj.rw [vi (cOf t * b),Value.slice (some ⟨5,0,some 0⟩) yqqq 0] none∧true=true)∧Ob (AObj.rw (scV20 l t x) (some 2)=AObj.rw (List.map (nmap1 (nsub 3 5)) (List.map scV23 (scL (cOf t) l yqqq))) (some 2)∧AObj.sc 4 (AObj.rw (List.map scV23 (scL (cOf t) l yqqq)) (some 2))=true)∧True)∧Ob (w=w)∧Ob (ptr0 1=ptr0 1)∧Ob (cOf t=cOf t)∧Ob (ptr0 2=ptr0 2)∧Ob (IntKind.i64.wrap ((x:Int)+(1:Int))=(yqqq:Int))∧True))∧(decide ((x:Int)<(n:Int))=false→((scV33 x)=true→Ob ((true=true∧Flat (scV1 l t x))∧okL (Leaf.view (scV1 l t x) x false))∧((scV26 b l t x)=true→Ob True∧True∧Ob scV17)∧((scV26 b l t x)=false→Ob (scV30 n)∧Ob (scV5 b n l)∧Ob (scV7 b l t x)∧Ob (scV5 b n l)∧Ob (scV7 b l t x)∧Ob (scV12 b n l w)∧Ob (0+2≤2)∧Ob (scV9 b n l t w x)∧Ob (0+2≤2)∧(false=false→(false=false→((scV15 b n l t x)=false→((scV13 b n l t w x)=false→(decide (lenF b n (intsOf (scV0 l))<(0:Int))=false→(decide ((9000:Int)<lenF b n (intsOf (scV0 l)))=false→(decide (dlyF b n (intsOf (scV0 l))<(-9000:Int))=false→(decide ((20000:Int)<dlyF b n (intsOf (scV0 l)))=false→Ob (some (scV14 b n l w)=some (scV14 b n l w))∧(decide (loF b n (intsOf (scV0 l)) (scV6 n w)<(0:Int))=false→Ob (scV18 b n l w)∧(decide ((9000:Int)<getI (scV3 b n l w) scV27)=true→True∧Ob scV4)∧(decide ((9000:Int)<getI (scV3 b n l w) scV27)=false→((scV10 b n l t x)=true→((scV11 b n l t x)=true→Ob (some (scV14 b n l w)=some (scV14 b n l w))∧Ob (scV18 b n l w)∧Ob True∧((scV2 b n l t w x)=true→Ob True∧True∧Ob scV17)∧((scV2 b n l t w x)=false→True∧Ob scV4))∧((scV11 b n l t x)=false→True∧Ob scV4))∧((scV10 b n l t x)=false→True∧Ob scV4)))∧(decide (loF b n (intsOf (scV0 l)) (scV6 n w)<(0:Int))=true→True∧Ob scV4))∧(decide ((20000:Int)<dlyF b n (intsOf (scV0 l)))=true→True∧Ob scV4))∧(decide (dlyF b n (intsOf (scV0 l))<(-9000:Int))=true→True∧Ob scV4))∧(decide ((9000:Int)<lenF b n (intsOf (scV0 l)))=true→True∧Ob scV4))∧(decide (lenF b n (intsOf (scV0 l))<(0:Int))=true→True∧Ob scV4))∧((scV13 b n l t w x)=true→True∧Ob scV4))∧((scV15 b n l t x)=true→True∧Ob scV4))∧(false=true→True∧Ob scV4))∧(false=true→True∧Ob scV4)))∧((scV33 x)=false→(true=true→Ob True∧True∧Ob scV17)∧(true=false→Ob (scV30 n)∧Ob (scV5 b n l)∧Ob (scV7 b l t x)∧Ob (scV5 b n l)∧Ob (scV7 b l t x)∧Ob (scV12 b n l w)∧Ob (0+2≤2)∧Ob (scV9 b n l t w x)∧Ob (0+2≤2)∧(false=false→(false=false→((scV15 b n l t x)=false→((scV13 b n l t w x)=false→(decide (lenF b n (intsOf (scV0 l))<(0:Int))=false→(decide ((9000:Int)<lenF b n (intsOf (scV0 l)))=false→(decide (dlyF b n (intsOf (scV0 l))<(-9000:Int))=false→(decide ((20000:Int)<dlyF b n (intsOf (scV0 l)))=false→Ob (some (scV14 b n l w)=some (scV14 b n l w))∧(decide (loF b n (intsOf (scV0 l)) (scV6 n w)<(0:Int))=false→Ob (scV18 b n l w)∧(decide ((9000:Int)<getI (scV3 b n l w) scV27)=true→True∧Ob scV4)∧(decide ((9000:Int)<getI (scV3 b n l w) scV27)=false→((scV10 b n l t x)=true→((scV11 b n l t x)=true→Ob (some (scV14 b n l w)=some (scV14 b n l w))∧Ob (scV18 b n l w)∧Ob True∧((scV2 b n l t w x)=true→Ob True∧True∧Ob scV17)∧((scV2 b n l t w x)=false→True∧Ob scV4))∧((scV11 b n l t x)=false→True∧Ob scV4))∧((scV10 b n l t x)=false→True∧Ob scV4)))∧(decide (loF b n (intsOf (scV0 l)) (scV6 n w)<(0:Int))=true→True∧Ob scV4))∧(decide ((20000:Int)<dlyF b n (intsOf (scV0 l)))=true→True∧Ob scV4))∧(decide (dlyF b n (intsOf (scV0 l))<(-9000:Int))=true→True∧Ob scV4))∧(decide ((9000:Int)<lenF b n (intsOf (scV0 l)))=true→True∧Ob scV4))∧(decide (lenF b n (intsOf (scV0 l))<(0:Int))=true→True∧Ob scV4))∧((scV13 b n l t w x)=true→True∧Ob scV4))∧((scV15 b n l t x)=true→True∧Ob scV4))∧(false=true→True∧Ob scV4))∧(false=true→True∧Ob scV4))))))∧((!decide ((14:Int)<(n:Int)))=false→(true=true→Ob True∧True∧Ob scV17)∧(true=false→Ob ((4:Int)≠(0:Int))∧Ob (some (vi b)=some (vi b))∧Ob (0+2≤2)∧((∃ (y:Unit),Ob True∧(Ob (AObj.ro (scV0 l)=AObj.ro (List.map (nmap1 fun (x:Nat)↦match x.beq 2 with | true => 4 | false => x) (scV0 l))∧AObj.sc 3 (AObj.ro (scV0 l))=true)∧Ob (scV8 b n c)∧Ob (scV32 b t)∧True)∧Ob (w=w)∧Ob (ptr0 1=ptr0 1)∧Ob (scV22 t)∧Ob (ptr0 4=ptr0 4)∧Ob ((0:Int)=(0:Int))∧True)∨∃ (yqqqq:Nat),Ob (0<yqqqq∧yqqqq≤n)∧(Ob (AObj.ro (scV0 l)=AObj.ro (List.map (nmap1 fun (x:Nat)↦match x.beq 2 with | true => 4 | false => x) (scV0 l))∧AObj.sc 4 (AObj.ro (scV0 l))=true)∧Ob (scV8 b n c)∧Ob (AObj.rw (scV16 b t) none=AObj.rw [vi (cOf t * b),Value.slice (some ⟨3,0,some 0⟩) yqqqq 0] none∧true=true)∧Ob (AObj.rw [vi b,Value.slice (some (ad0 0)) n c] none=AObj.rw (List.map (nmap1 fun (x:Nat)↦match x.beq 2 with | true => 4 | false => x) (List.map scV23 (scL (cOf t) l yqqqq))) (some 2)∧AObj.sc 4 (AObj.rw (List.map scV23 (scL (cOf t) l yqqqq)) (some 2))=true)∧True)∧Ob (w=w)∧Ob (ptr0 1=ptr0 1)∧Ob (scV22 t)∧Ob (ptr0 4=ptr0 4)∧Ob ((0:Int)=(yqqqq:Int))∧True)∧(∀ (xqq:Unit),Ob True→(decide ((0:Int)<(n:Int))=true→Ob ((0:Int)≤(0:Int)∧(0:Int)<(n:Int)∧true=true)∧Ob (IntAt IntKind.i64 (scV0 l) 0)∧Ob ((0:Int)≤(0:Int)∧(0:Int)<(n:Int)∧true=true)∧Ob (IntAt IntKind.i64 (scV0 l) 1)∧Ob scV21∧Ob (2≤2)∧(False∨∃ (yqqqqq:Nat),Ob (0<yqqqqq∧yqqqqq≤n)∧Ob (n-yqqqqq<1000001)∧(Ob (scV24 l)∧Ob (scV8 b n c)∧Ob (AObj.rw (scV29 b t) none=AObj.rw [vi (cOf t * b),Value.slice (some ⟨4,0,some 0⟩) yqqqqq 0] none∧true=true)∧Ob (AObj.rw (scV31 l t) (some 2)=AObj.rw (List.map (nmap1 (nsub 3 4)) (List.map scV23 (scL (cOf t) l yqqqqq))) (some 2)∧AObj.sc 4 (AObj.rw (List.map scV23 (scL (cOf t) l yqqqqq)) (some 2))=true)∧True)∧Ob (w=w)∧Ob (ptr0 1=ptr0 1)∧Ob (cOf t=cOf t)∧Ob (ptr0 2=ptr0 2)∧Ob (IntKind.i64.wrap ((0:Int)+(1:Int))=(yqqqqq:Int))∧True))∧(decide ((0:Int)<(n:Int))=false→(true=true→Ob True∧(true=true→Ob True∧True∧Ob scV17)∧(true=false→Ob (scV30 n)∧Ob (scV5 b n l)∧False))∧(true=false→(true=true→Ob True∧True∧Ob scV17)∧(true=false→Ob (scV30 n)∧Ob (scV5 b n l)∧False))))∧∀ (x:Nat),Ob (0<x∧x≤n)→(decide ((x:Int)<(n:Int))=true→Ob ((0:Int)≤(x:Int)∧(x:Int)<(n:Int)∧true=true)∧Ob (IntAt IntKind.i64 (scV0 l) (0+(x:Int).toNat * 2))∧Ob ((0:Int)≤(x:Int)∧(x:Int)<(n:Int)∧true=true)∧Ob (scV34 l x)∧Ob (scV19 l t x)∧Ob (2≤2)∧(False∨∃ (yqqqqqq:Nat),Ob (0<yqqqqqq∧yqqqqqq≤n)∧Ob (n-yqqqqqq<n-x)∧(Ob (scV25 l)∧Ob (scV8 b n c)∧Ob (AObj.rw (scV28 b t x) none=AObj.rw [vi (cOf t * b),Value.slice (some ⟨5,0,some 0⟩) yqqqqqq 0] none∧true=true)∧Ob (AObj.rw (scV20 l t x) (some 2)=AObj.rw (List.map (nmap1 (nsub 3 5)) (List.map scV23 (scL (cOf t) l yqqqqqq))) (some 2)∧AObj.sc 4 (AObj.rw (List.map scV23 (scL (cOf t) l yqqqqqq)) (some 2))=true)∧True)∧Ob (w=w)∧Ob (ptr0 1=ptr0 1)∧Ob (cOf t=cOf t)∧Ob (ptr0 2=ptr0 2)∧Ob (IntKind.i64.wrap ((x:Int)+(1:Int))=(yqqqqqq:Int))∧True))∧(decide ((x:Int)<(n:Int))=false→((scV33 x)=true→Ob ((true=true∧Flat (scV1 l t x))∧okL (Leaf.view (scV1 l t x) x false))∧((scV26 b l t x)=true→Ob True∧True∧Ob scV17)∧((scV26 b l t x)=false→Ob (scV30 n)∧Ob (scV5 b n l)∧Ob (scV7 b l t x)∧Ob (scV5 b n l)∧Ob (scV7 b l t x)∧Ob (scV12 b n l w)∧Ob (0+2≤2)∧Ob (scV9 b n l t w x)∧Ob (0+2≤2)∧(false=false→(false=false→((scV15 b n l t x)=false→((scV13 b n l t w x)=false→(decide (lenF b n (intsOf (scV0 l))<(0:Int))=false→(decide ((9000:Int)<lenF b n (intsOf (scV0 l)))=false→(decide (dlyF b n (intsOf (scV0 l))<(-9000:Int))=false→(decide ((20000:Int)<dlyF b n (intsOf (scV0 l)))=false→Ob (some (scV14 b n l w)=some (scV14 b n l w))∧(decide (loF b n (intsOf (scV0 l)) (scV6 n w)<(0:Int))=false→Ob (scV18 b n l w)∧(decide ((9000:Int)<getI (scV3 b n l w) scV27)=true→True∧Ob scV4)∧(decide ((9000:Int)<getI (scV3 b n l w) scV27)=false→((scV10 b n l t x)=true→((scV11 b n l t x)=true→Ob (some (scV14 b n l w)=some (scV14 b n l w))∧Ob (scV18 b n l w)∧Ob True∧((scV2 b n l t w x)=true→Ob True∧True∧Ob scV17)∧((scV2 b n l t w x)=false→True∧Ob scV4))∧((scV11 b n l t x)=false→True∧Ob scV4))∧((scV10 b n l t x)=false→True∧Ob scV4)))∧(decide (loF b n (intsOf (scV0 l)) (scV6 n w)<(0:Int))=true→True∧Ob scV4))∧(decide ((20000:Int)<dlyF b n (intsOf (scV0 l)))=true→True∧Ob scV4))∧(decide (dlyF b n (intsOf (scV0 l))<(-9000:Int))=true→True∧Ob scV4))∧(decide ((9000:Int)<lenF b n (intsOf (scV0 l)))=true→True∧Ob scV4))∧(decide (lenF b n (intsOf (scV0 l))<(0:Int))=true→True∧Ob scV4))∧((scV13 b n l t w x)=true→True∧Ob scV4))∧((scV15 b n l t x)=true→True∧Ob scV4))∧(false=true→True∧Ob scV4))∧(false=true→True∧Ob scV4)))∧((scV33 x)=false→(true=true→Ob True∧True∧Ob scV17)∧(true=false→Ob (scV30 n)∧Ob (scV5 b n l)∧Ob (scV7 b l t x)∧Ob (scV5 b n l)∧Ob (scV7 b l t x)∧Ob (scV12 b n l w)∧Ob (0+2≤2)∧Ob (scV9 b n l t w x)∧Ob (0+2≤2)∧(false=false→(false=false→((scV15 b n l t x)=false→((scV13 b n l t w x)=false→(decide (lenF b n (intsOf (scV0 l))<(0:Int))=false→(decide ((9000:Int)<lenF b n (intsOf (scV0 l)))=false→(decide (dlyF b n (intsOf (scV0 l))<(-9000:Int))=false→(decide ((20000:Int)<dlyF b n (intsOf (scV0 l)))=false→Ob (some (scV14 b n l w)=some (scV14 b n l w))∧(decide (loF b n (intsOf (scV0 l)) (scV6 n w)<(0:Int))=false→Ob (scV18 b n l w)∧(decide ((9000:Int)<getI (scV3 b n l w) scV27)=true→True∧Ob scV4)∧(decide ((9000:Int)<getI (scV3 b n l w) scV27)=false→((scV10 b n l t x)=true→((scV11 b n l t x)=true→Ob (some (scV14 b n l w)=some (scV14 b n l w))∧Ob (scV18 b n l w)∧Ob True∧((scV2 b n l t w x)=true→Ob True∧True∧Ob scV17)∧((scV2 b n l t w x)=false→True∧Ob scV4))∧((scV11 b n l t x)=false→True∧Ob scV4))∧((scV10 b n l t x)=false→True∧Ob scV4)))∧(decide (loF b n (intsOf (scV0 l)) (scV6 n w)<(0:Int))=true→True∧Ob scV4))∧(decide ((20000:Int)<dlyF b n (intsOf (scV0 l)))=true→True∧Ob scV4))∧(decide (dlyF b n (intsOf (scV0 l))<(-9000:Int))=true→True∧Ob scV4))∧(decide ((9000:Int)<lenF b n (intsOf (scV0 l)))=true→True∧Ob scV4))∧(decide (lenF b n (intsOf (scV0 l))<(0:Int))=true→True∧Ob scV4))∧((scV13 b n l t w x)=true→True∧Ob scV4))∧((scV15 b n l t x)=true→True∧Ob scV4))∧(false=true→True∧Ob scV4))∧(false=true→True∧Ob scV4))))))
theorem scV_eq : scV = fun (b : Int) (n c : Nat) (l : List Int) (t w : Int) => vc Try.prog scE 1 177 true (scI b n c l t w) scB [] (argFr 0 [pierV b (some ⟨0,0,none⟩) n c,.int .u8 t,.int .u8 w]) [ros l] (retK Try.prog Try.f15 (fun v _ => v = .bool true)) := by kernel_rfl
noncomputable def scN :=
fun (b t w:Int)↦(true=true→Ob True∧(true=true→Ob True∧True∧Ob (Value.bool true=Value.bool true))∧(true=false→Ob ((4:Int)≠(0:Int))∧Ob (some (vi b)=some (vi b))∧Ob (0+2≤2)∧False))∧(true=false→(true=true→Ob True∧True∧Ob (Value.bool true=Value.bool true))∧(true=false→Ob ((4:Int)≠(0:Int))∧Ob (some (vi b)=some (vi b))∧Ob (0+2≤2)∧False))
theorem scN_eq : scN = fun (b : Int) (t w : Int) => vc Try.prog scE 0 177 true (fun _ => none) scB [] (argFr 0 [pierV b none 0 0,.int .u8 t,.int .u8 w]) [] (retK Try.prog Try.f15 (fun v _ => v = .bool true)) := by kernel_rfl
noncomputable def scH :=
fun (b:Int) (c:Nat) (s:Option Nat) (t w:Int)↦(true=true→Ob True∧(true=true→Ob True∧True∧Ob (Value.bool true=Value.bool true))∧(true=false→Ob ((4:Int)≠(0:Int))∧Ob (some (vi b)=some (vi b))∧Ob (0+2≤2)∧False))∧(true=false→(true=true→Ob True∧True∧Ob (Value.bool true=Value.bool true))∧(true=false→Ob ((4:Int)≠(0:Int))∧Ob (some (vi b)=some (vi b))∧Ob (0+2≤2)∧False))
theorem scH_eq : scH = fun (b : Int) (c : Nat) (s : Option Nat) (t w : Int) => vc Try.prog scE 1 177 true (fun _ => none) scB [] (argFr 0 [pierV b (some ⟨0,0,s⟩) 0 c,.int .u8 t,.int .u8 w]) [.gone] (retK Try.prog Try.f15 (fun v _ => v = .bool true)) := by kernel_rfl
theorem cOf_bd {t : Int} (ht : 0≤t∧t < 256) : 1≤cOf t∧cOf t≤4 := by
 unfold cOf
 have h1 := Int.tmod_nonneg 4 ht.1
 have h2 := Int.tmod_lt_of_pos t (show (0 : Int) < 4 by decide)
 omega
theorem cOf_wrap {t : Int} (ht : 0≤t∧t < 256) : IntKind.i64.wrap (1 + IntKind.i64.wrap (t.tmod 4)) = cOf t := by
 have h1 := Int.tmod_nonneg 4 ht.1
 have h2 := Int.tmod_lt_of_pos t (show (0 : Int) < 4 by decide)
 rw [wrap_in (x := t.tmod 4) (by omega) (by omega),wrap_in (by omega) (by omega)]
 rfl
theorem mul_in {k x a b : Int} (hk : 1≤k∧k≤4) (hx : a≤x∧x≤b) : (a≤0→4 * a≤k * x)∧(0≤b→k * x≤4 * b) := by
 obtain rfl | rfl | rfl | rfl : k = 1∨k = 2∨k = 3∨k = 4 := by omega
 all_goals omega
theorem scV_ok (b : Int) (n c : Nat) (l : List Int) (t w : Int) (hl : l.length = n * 2) (ht : 0≤t∧t < 256) (hw : 0≤w∧w < 256) : scV b n c l t w := by
 unfold scV scV34 scV33 scV32 scV31 scV30 scV29 scV28 scV27 scV26 scV25 scV24 scV23 scV22 scV21 scV20 scV19 scV18 scV17 scV16 scV15 scV14 scV13 scV12 scV11 scV10 scV9 scV8 scV7 scV6 scV5 scV4 scV3 scV2 scV1 scV0
 simp only [SS,reduceCtorEq,Arg.list,Arg.num,Arg.flag,intOf,andP,Nat.reduceLeDiff,Nat.reduceAdd,Nat.reduceMul,Nat.reduceLT,ckAsk,CK.ask,pl_fold,tw_fold,getI_2a,intAt_2a,getI_2b,intAt_2b,rw2]
 refine fun h14 => ⟨⟨flat_ints,okL_ints hl (by omega)⟩,fun hP => ?_⟩
 obtain ⟨⟨n1,n2⟩,hr,ho⟩ := errP_cases hP
 have hc := cOf_bd ht
 have wt : IntKind.i64.wrap (1 + IntKind.i64.wrap (t.tmod 4)) = cOf t := cOf_wrap ht
 have hb := hr.2
 have cb := mul_in (x := b) hc hb
 refine ⟨by omega,⟨?_,wt⟩,fun h0 => ?_,fun x hx => ⟨fun h1 => ?_,fun h1 _ => ?_⟩⟩
 · rw [wt,wrap_in (by omega) (by omega)]
 · have q := (hr.1 0 (by omega))
   have q1 := mul_in (x := pl l 0) hc q.1
   have q2 := mul_in (x := tw l 0) hc q.2
   refine ⟨by omega,by omega,by omega,by omega,1,by omega,by omega,⟨rfl,?_⟩,by decide⟩
   have g0 : l.getD 0 0 = pl l 0 := rfl
   have g1 : l.getD 1 0 = tw l 0 := rfl
   rw [g0,g1,wrap_in (by omega) (by omega),wrap_in (by omega) (by omega)]
   rfl
 · have q := (hr.1 x (by omega))
   have q1 := mul_in (x := pl l x) hc q.1
   have q2 := mul_in (x := tw l x) hc q.2
   refine ⟨by omega,by omega,by omega,by omega,⟨by omega,by omega,scl_len x⟩,x + 1,by omega,by omega,⟨rfl,?_⟩,wrap_succ (n := n) (by omega) (by omega)⟩
   rw [wrap_in (by omega) (by omega),wrap_in (by omega) (by omega),scL,List.map_append]
   rfl
 · obtain rfl : x = n := by omega
   refine ⟨⟨flat_ints,okL_ints (scl_len x) (by omega)⟩,fun hQ => ?_⟩
   have hi : 0≤(IntKind.i64.wrap w).tmod (x : Int)∧(IntKind.i64.wrap w).tmod (x : Int) < x := by
     rw [wrap_in (by omega) (by omega)]
     exact ⟨Int.tmod_nonneg _ hw.1,Int.tmod_lt_of_pos _ (by omega)⟩
   generalize (IntKind.i64.wrap w).tmod (x : Int) = s at hi ⊢
   have F1 : Flat (List.map (Value.int .i64) l) := flat_ints
   have F2 : okL (Leaf.view (List.map (Value.int .i64) l) x false) := okL_ints hl (by omega)
   have G1 : Flat (List.map (Value.int .i64) (scL (cOf t) l x)) := flat_ints
   have G2 : okL (Leaf.view (List.map (Value.int .i64) (scL (cOf t) l x)) x false) := okL_ints (scl_len x) (by omega)
   refine ⟨by omega,⟨F1,F2,hP⟩,⟨G1,G2,hQ⟩,⟨F1,F2,hP⟩,⟨G1,G2,hQ⟩,⟨F1,F2,hP,hi⟩,⟨G1,G2,hQ,hi⟩,?_⟩
   obtain ⟨a1,a2⟩ := len_mul hc hP
   obtain ⟨b1,b2,b3⟩ := span_mul (s := s) hc hP
   have d1 := dly_mul hc hP
   have a3 := len_bd hP
   have d2 := dly_bd hP
   have b4 := span_bd hP hi
   have m1 := mul_in hc a3
   have m2 := mul_in hc d2
   have m3 := mul_in hc b4.1
   have m4 := mul_in hc b4.2
   refine ⟨fun _ => ⟨fun _ => ⟨fun _ => ⟨fun _ => ⟨fun _ => ⟨fun _ => ⟨fun _ => ⟨fun h => by omega,fun _ => ⟨fun _ => ⟨fun _ h => ?_,fun h => h ?_⟩,fun h => h ?_⟩⟩,fun h => by omega⟩,fun h => by omega⟩,fun h => by omega⟩,fun h => by omega⟩,fun h => by omega⟩,fun h => h b3.symm⟩,fun h => h a2.symm⟩
   · rw [wrap_in (x := cOf t * loF b x l s) (by omega) (by omega),wrap_in (x := cOf t * hiF b x l s) (by omega) (by omega),b1,b2,beq_self_eq_true,beq_self_eq_true] at h
     cases h
   · rw [wrap_in (by omega) (by omega)]; exact d1
   · rw [wrap_in (by omega) (by omega)]; exact a1
theorem scN_ok (b t w : Int) : scN b t w := by
 unfold scN
 simp only [SS,reduceCtorEq,Arg.list,Arg.num,Arg.flag,intOf,andP,Nat.reduceLeDiff,Nat.reduceAdd,Nat.reduceMul,Nat.reduceLT]
theorem scH_ok (b : Int) (c : Nat) (s : Option Nat) (t w : Int) : scH b c s t w := by
 unfold scH
 simp only [SS,reduceCtorEq,Arg.list,Arg.num,Arg.flag,intOf,andP,Nat.reduceLeDiff,Nat.reduceAdd,Nat.reduceMul,Nat.reduceLT]
theorem frU_ok : CtOk Try.prog frU := ((CtOk.none.add worksG_ok).add rcpG_ok).add shG_ok
theorem scT_ok : CtOk Try.prog scT := (frU_ok.add dlG_ok).add wnG_ok
noncomputable def fs43 : Array Field := match Try.prog.underlying 43 with | some (.struct f) => f | _ => #[]
noncomputable def fd0 : Field := fs43.toList.getD 0 default
noncomputable def fd1 : Field := fs43.toList.getD 1 default
theorem two43 : TwoNums Try.prog 43 fd0 fd1 where
 ud := ⟨fs43,by kernel_rfl,by kernel_rfl⟩
 st := by kernel_rfl
 n0 := of_decide_eq_true (by kernel_rfl)
 n1 := of_decide_eq_true (by kernel_rfl)
 o0 := by kernel_rfl
 o1 := by kernel_rfl
 t0 := by kernel_rfl
 t1 := by kernel_rfl
 p0 a b := by kernel_rfl
 p1 a b := by kernel_rfl
 gd := by kernel_rfl
theorem scE_ok : VOk Try.prog scE := ⟨scT_ok,ccIn_ok fnE_ok mixed (inl_one Try.func45),E0_ok.yc,orcOr_ok (orcEq2_ok two43) prE1_ok.orc⟩
abbrev psSc : List K3 := [.agg [.int .i64,.rows [.i .i64,.i .i64] true],.one (.int .u8),.one (.int .u8)]
theorem u8_wf {n : Int} (h : (Lit.int .u8 n).wf = true) : 0≤n∧n < 256 := by
 simp only [Lit.wf,Bool.and_eq_true,decide_eq_true_eq] at h
 have h1 : IntKind.u8.min = 0 := rfl
 have h2 : IntKind.u8.max = 255 := rfl
 rw [h1,h2] at h
 omega
theorem fits_sc {r : List Arg3} (h : fits3 psSc r) : ∃ p t w,r = [p,.one (.plain (.int .u8 t)),.one (.plain (.int .u8 w))]∧fits3 psPT [p]∧(0≤t∧t < 256)∧0≤w∧w < 256 := by
 obtain ⟨ls,r,rfl,hg,h⟩ := fits3_agg h
 obtain ⟨z,r1,rfl,⟨t,rfl,ht⟩,h2⟩ := fits3_one h
 obtain ⟨z,r2,rfl,⟨w,rfl,hw⟩,h3⟩ := fits3_one h2
 obtain rfl := fits3_nil h3
 exact ⟨.agg ls,t,w,rfl,⟨hg,trivial⟩,u8_wf ht,u8_wf hw⟩
theorem scaled_small (r : List Arg3) (hr : fits3 psSc r) (caps : Nat→Nat) (hcaps : caps3 caps 0 r) : Call Try.prog 15 (canon3 caps 0 r) (canonH3 r) isTrue := by
 obtain ⟨p,t,w,rfl,hp,ht,hw⟩ := fits_sc hr
 obtain ⟨b,lf,hq,hl⟩ := fits_p hp
 obtain rfl : p = _ := (List.cons.inj hq).1
 rcases hl with rfl | ⟨s,rfl⟩ | ⟨l,n,rfl,hl⟩
 · exact Call.ofVc scE_ok mixed (c := scB) Try.func15 (by kernel_rfl) (cast (congrFun (congrFun (congrFun scN_eq b) t) w) (scN_ok b t w))
 · exact Call.ofVc scE_ok mixed (c := scB) Try.func15 (by kernel_rfl) (cast (congrFun (congrFun (congrFun (congrFun (congrFun scH_eq b) (caps 0)) s) t) w) (scH_ok b (caps 0) s t w))
 · have h := scV_ok b n (caps 0) l t w hl ht hw
   rw [scV_eq] at h
   exact Call.ofVc (H := [ros l]) (args := [pierV b (some ⟨0,0,none⟩) n (caps 0),.int .u8 t,.int .u8 w]) scE_ok mixed (c := scB) (inv := scI b n (caps 0) l t w) (R := isTrue) Try.func15 (by kernel_rfl) (cast (by kernel_rfl) h)
theorem scaled_law {K : Type} : ∀ (H : Heap) (avs : List Value) (ds : List (DataW K)),Still H→ReadsAll Try.prog H Try.f15.params.toList avs ds→Call Try.prog 15 avs H fun v _ => v = .bool true :=
 law_of3 (ps := psSc) (by kernel_rfl) scaled_small
end Go.Pier.Rd
