import Derived.Test.YtbhpfkfedannjaaPierKM10
import Derived.Test.YtbhpfkfedannjaaPierKM11
import Derived.KernelRfl
set_option linter.unusedSimpArgs false
set_option linter.unusedVariables false
set_option maxRecDepth 100000
namespace Go.Pier.Rd
open Go Go.Pier Go.Proofs
noncomputable def moB : Code := Try.f13.body.getD .skip
noncomputable def moU1 : Ct := ((Ct.none.add 18 (pureG [] worksS)).add 22 (pureP (fun b n l => vi (errP b n l)) (vi 6))).add 28 (pure3 psP (specQ fun b n l => .tuple #[vi (cntF b n l),vi 0]))
noncomputable def moE0 : VEnv := { ct := moU1,orc := prO,cc := ccIn Try.prog fnD [⟨45,Try.f45,fun _ _ _ => none⟩] }
noncomputable def moU2 (b : Int) (n c : Nat) (l : List Int) (bv : Value) (P : Heap→Prop) (o : Nat→Bool) : Ct := Ct.none.add 46 (wkCt b n c l bv P o)
noncomputable def moE2 (b : Int) (n c : Nat) (l : List Int) (bv : Value) (P : Heap→Prop) (o : Nat→Bool) : VEnv := { ct := moU2 b n c l bv P o,orc := prO }
noncomputable def moE3 : VEnv := { ct := Ct.none,orc := prO }
def aStay (P : Program) (tys : Array TypeId) (s x : Value) : Option (Prop × Value) :=
 match tys[0]?,tys[1]? with
 | some t0,some t1 => match P.underlying t0,P.underlying t1,s,x with
   | some (.slice elem),some (.slice _),.slice (some a) sLen sCap,.slice _ n _ => match a.spot,P.info? elem,zeroT P elem with
     | none,some i,some z => some (n = 0∧sLen≤1099511627776∧(2 * sLen + 256) * i.bytes≤281474976710656∧z.cells.size = i.size∧sLen≤sCap,.slice (some a) sLen sCap)
     | _,_,_ => none
   | _,_,_,_ => none
 | _,_ => none
def orcAt (P : Program) (k : Nat) : Orc := fun env H o => match o.op with
 | .call c => match c.callee with
   | .builtin .append => match o.dst with
     | some d => match Nat.beq d k with
       | true => match envs env c.args.toList with
         | some [s,x] => match aStay P c.argTypes s x with
           | some (φ,v) => some (φ,some v,H)
           | none => none
         | _ => none
       | false => none
     | none => none
   | _ => none
 | _ => none
noncomputable def moE2f (b : Int) (n c : Nat) (l : List Int) (bv : Value) (P : Heap→Prop) (o : Nat→Bool) : VEnv := { ct := moU2 b n c l bv P o,orc := orcOr (orcAt Try.prog 106) prO }
noncomputable def moU4 : Ct := (Ct.none.add 18 (pureG [] worksS)).add 24 (pure3 psP (specQ fun b n l => .tuple #[vi (lenF b n l),vi (lerF b n l)]))
noncomputable def moE4 : VEnv := { ct := moU4,orc := prO,cc := crAny }
def idS (b : Nat) : Nat := b
def moS (b : Nat) : Nat := bif Nat.beq b 3 then 6 else bif Nat.beq b 4 then 5 else bif Nat.beq b 5 then 7 else b
def moSZ (b : Nat) : Nat := bif Nat.beq b 3 then 5 else bif Nat.beq b 5 then 6 else b
def lsL (g : Int) (m : List Int) (i : Nat) : List Int := del g (m.take i)
def xL (g : Nat) (l : List Int) : List Int := l.take (g * 2) ++ l.drop ((g + 1) * 2)
noncomputable def moK : KD := retK Try.prog Try.f13 (fun v _ => v = .bool true)
def moFb (bv : Value) (g : Int) : Fr := [(1,bv),(5,ptr0 2),(10,.bool false),(17,vi g)]
def moF3 (g : Int) (n : Nat) : Fr := [(5,ptr0 2),(10,.bool false),(17,vi g),(18,ptr0 3),(19,newS 5 n)]
def moH3 (b : Int) (n c : Nat) (l xl own : List Int) : Heap := [ros l,.gone,boxP b n c,.rw [vi b,newS 4 (n - 1)] none,rw2 xl,rws own]
def moF4 (n k : Nat) : Fr := [(5,ptr0 2),(10,.bool false),(18,ptr0 3),(19,newS 5 n),(20,newS 6 k)]
def moH4 (b : Int) (n c : Nat) (l xl own less : List Int) : Heap := [ros l,.gone,boxP b n c,.rw [vi b,newS 4 (n - 1)] none,rw2 xl,rws own,rws less]
noncomputable def moI (b g : Int) (n c : Nat) (l xl own : List Int) : Nat→Option LInv := invOf 0 (.mk [
   ⟨Nat,fun i => i≤n∧lsL g own i = [],fun i => [(5,ptr0 2),(10,.bool false),(17,vi g),(18,ptr0 3),(19,newS 5 n),(20,nilS),(21,vi i)],
     fun _ => moH3 b n c l xl own,fun i => n - i,fun _ _ => none⟩,
   ⟨Nat,fun i => i≤n∧lsL g own i ≠ [],fun i => [(5,ptr0 2),(10,.bool false),(17,vi g),(18,ptr0 3),(19,newS 5 n),(20,newS 6 (lsL g own i).length),(21,vi i)],
     fun i => moH4 b n c l xl own (lsL g own i),fun i => n - i,fun _ _ => none⟩]
 (fun _ => idS) (fun i j => match j with | 0 => (match i with | 0 => [idS] | _ => []) | _ => match i with | 0 => [nsub 6 7] | _ => [idS,nsub 6 8]))
noncomputable def moNN0  : Prop := (Value.bool true = Value.bool true)
noncomputable def moNN :=
fun (b w k : Int) (z : Bool)↦(true = true→Ob True∧(true = false→(false = true→Ob True∧True∧Ob moNN0)∧(false = false→False))∧(true = true→Ob True∧True∧Ob moNN0))∧(true = false→(true = false→(false = true→Ob True∧True∧Ob moNN0)∧(false = false→False))∧(true = true→Ob True∧True∧Ob moNN0))
theorem moNN_eq : moNN = fun (b w k : Int) (z : Bool) => vc Try.prog moE0 0 186 true (fun _ => none) moB [] (argFr 0 [pierV b none 0 0,nilS,.bool z,.int .u8 k,.int .u16 w]) [] (retK Try.prog Try.f13 (fun v _ => v = .bool true)) := by kernel_rfl
noncomputable def moNH0  : Prop := (Value.bool true = Value.bool true)
noncomputable def moNH :=
fun (b w k : Int) (z : Bool) (d : Nat) (t : Option Nat)↦(true = true→Ob True∧(true = false→(false = true→Ob True∧True∧Ob moNH0)∧(false = false→False))∧(true = true→Ob True∧True∧Ob moNH0))∧(true = false→(true = false→(false = true→Ob True∧True∧Ob moNH0)∧(false = false→False))∧(true = true→Ob True∧True∧Ob moNH0))
theorem moNH_eq : moNH = fun (b w k : Int) (z : Bool) (d : Nat) (t : Option Nat) => vc Try.prog moE0 1 186 true (fun _ => none) moB [] (argFr 0 [pierV b none 0 0,.slice (some ⟨0,0,t⟩) 0 d,.bool z,.int .u8 k,.int .u16 w]) [.gone] (retK Try.prog Try.f13 (fun v _ => v = .bool true)) := by kernel_rfl
noncomputable def moNV0  : Prop := (Value.bool true = Value.bool true)
noncomputable def moNV :=
fun (b w k : Int) (z : Bool) (d : Nat) (q : List Int)↦(true = true→Ob True∧(true = false→(decide ((40 : Int) < (↑q.length : Int)) = true→Ob True∧True∧Ob moNV0)∧(decide ((40 : Int) < (↑q.length : Int)) = false→False))∧(true = true→Ob True∧True∧Ob moNV0))∧(true = false→(true = false→(decide ((40 : Int) < (↑q.length : Int)) = true→Ob True∧True∧Ob moNV0)∧(decide ((40 : Int) < (↑q.length : Int)) = false→False))∧(true = true→Ob True∧True∧Ob moNV0))
theorem moNV_eq : moNV = fun (b w k : Int) (z : Bool) (d : Nat) (q : List Int) => vc Try.prog moE0 1 186 true (fun _ => none) moB [] (argFr 0 [pierV b none 0 0,.slice (some ⟨0,0,none⟩) q.length d,.bool z,.int .u8 k,.int .u16 w]) [roU q] (retK Try.prog Try.f13 (fun v _ => v = .bool true)) := by kernel_rfl
noncomputable def moHN0  : Prop := (Value.bool true = Value.bool true)
noncomputable def moHN :=
fun (b w k : Int) (z : Bool) (c : Nat) (s : Option Nat)↦(true = true→Ob True∧(true = false→(false = true→Ob True∧True∧Ob moHN0)∧(false = false→False))∧(true = true→Ob True∧True∧Ob moHN0))∧(true = false→(true = false→(false = true→Ob True∧True∧Ob moHN0)∧(false = false→False))∧(true = true→Ob True∧True∧Ob moHN0))
theorem moHN_eq : moHN = fun (b w k : Int) (z : Bool) (c : Nat) (s : Option Nat) => vc Try.prog moE0 1 186 true (fun _ => none) moB [] (argFr 0 [pierV b (some ⟨0,0,s⟩) 0 c,nilS,.bool z,.int .u8 k,.int .u16 w]) [.gone] (retK Try.prog Try.f13 (fun v _ => v = .bool true)) := by kernel_rfl
noncomputable def moHH0  : Prop := (Value.bool true = Value.bool true)
noncomputable def moHH :=
fun (b w k : Int) (z : Bool) (c : Nat) (s : Option Nat) (d : Nat) (t : Option Nat)↦(true = true→Ob True∧(true = false→(false = true→Ob True∧True∧Ob moHH0)∧(false = false→False))∧(true = true→Ob True∧True∧Ob moHH0))∧(true = false→(true = false→(false = true→Ob True∧True∧Ob moHH0)∧(false = false→False))∧(true = true→Ob True∧True∧Ob moHH0))
theorem moHH_eq : moHH = fun (b w k : Int) (z : Bool) (c : Nat) (s : Option Nat) (d : Nat) (t : Option Nat) => vc Try.prog moE0 2 186 true (fun _ => none) moB [] (argFr 0 [pierV b (some ⟨0,0,s⟩) 0 c,.slice (some ⟨1,0,t⟩) 0 d,.bool z,.int .u8 k,.int .u16 w]) [.gone,.gone] (retK Try.prog Try.f13 (fun v _ => v = .bool true)) := by kernel_rfl
noncomputable def moHV0  : Prop := (Value.bool true = Value.bool true)
noncomputable def moHV :=
fun (b w k : Int) (z : Bool) (c : Nat) (s : Option Nat) (d : Nat) (q : List Int)↦(true = true→Ob True∧(true = false→(decide ((40 : Int) < (↑q.length : Int)) = true→Ob True∧True∧Ob moHV0)∧(decide ((40 : Int) < (↑q.length : Int)) = false→False))∧(true = true→Ob True∧True∧Ob moHV0))∧(true = false→(true = false→(decide ((40 : Int) < (↑q.length : Int)) = true→Ob True∧True∧Ob moHV0)∧(decide ((40 : Int) < (↑q.length : Int)) = false→False))∧(true = true→Ob True∧True∧Ob moHV0))
theorem moHV_eq : moHV = fun (b w k : Int) (z : Bool) (c : Nat) (s : Option Nat) (d : Nat) (q : List Int) => vc Try.prog moE0 2 186 true (fun _ => none) moB [] (argFr 0 [pierV b (some ⟨0,0,s⟩) 0 c,.slice (some ⟨1,0,none⟩) q.length d,.bool z,.int .u8 k,.int .u16 w]) [.gone,roU q] (retK Try.prog Try.f13 (fun v _ => v = .bool true)) := by kernel_rfl
noncomputable def moAN0 (w:Int) (k:Int) (n:Nat) (l:List Int) := (putL ([]++List.take (n * 2) (List.drop 0 (List.map (Value.int IntKind.i64) l))) (0+((IntKind.i64.wrap k).tmod (n:Int)).toNat * 2+1) [vi (if IntKind.i64.wrap (getI ([]++List.take (n * 2) (List.drop 0 (List.map (Value.int IntKind.i64) l))) (0+((IntKind.i64.wrap k).tmod (n:Int)).toNat * 2+1)+IntKind.i64.wrap w)<(9000:Int) then IntKind.i64.wrap (getI ([]++List.take (n * 2) (List.drop 0 (List.map (Value.int IntKind.i64) l))) (0+((IntKind.i64.wrap k).tmod (n:Int)).toNat * 2+1)+IntKind.i64.wrap w) else (9000:Int))])
noncomputable def moAN1 (l:List Int) := (List.map (Value.int IntKind.i64) l)
noncomputable def moAN2 (n:Nat) (l:List Int):Prop := (andP (some (andP (some (0+n * 2≤(moAN1 l).length∧true=true)) (0+n≤1099511627776∧(2 * (0+n)+256) * 16≤281474976710656∧(List.take (n * 2) (List.drop 0 (moAN1 l))).length=n * 2∧0<0+n∧0+0≤0))) ¬0+n≤0)
noncomputable def moAN3 (l:List Int):Prop := (AObj.ro (moAN1 l)=AObj.ro (List.map (nmap1 idS) (moAN1 l))∧AObj.sc 3 (AObj.ro (moAN1 l))=true)
noncomputable def moAN4 (b:Int) (n:Nat) (c:Nat):Prop := (AObj.rw [vi b,Value.slice (some (ad0 0)) n c] none=AObj.rw [vi b,Value.slice (some (ad0 0)) n c] none∧true=true)
noncomputable def moAN5  : Prop := (Value.slice none (0 : Nat) (0 : Nat) = Value.slice none (0 : Nat) (0 : Nat))
noncomputable def moAN6 (n:Nat) (l:List Int) := ([]++List.take (n * 2) (List.drop 0 (moAN1 l)))
noncomputable def moAN7  : Prop := (Value.bool false = Value.bool true)
noncomputable def moAN8  : Prop := (Value.bool true = Value.bool true)
noncomputable def moAN9 (b:Int) (w:Int) (k:Int) (n:Nat) (l:List Int):Prop := ((true=true∧Flat (moAN0 w k n l))∧okL (Leaf.view (moAN0 w k n l) (0+n) false)∧errP b (0+n) (intsOf (moAN0 w k n l))=(0:Int))
noncomputable def moAN10 (b:Int) (n:Nat) (l:List Int):Prop := ((true=true∧Flat (moAN1 l))∧okL (Leaf.view (moAN1 l) n false)∧errP b n (intsOf (moAN1 l))=(0:Int))
noncomputable def moAN11 (k:Int) (n:Nat) (l:List Int) := (IntAt IntKind.i64 (moAN6 n l) (0+((IntKind.i64.wrap k).tmod (n:Int)).toNat * 2+1))
noncomputable def moAN12 (n:Nat) (z:Bool):Prop := (IntKind.i64.wrap ((n:Int)-(1:Int))=bif z then (n:Int)-(1:Int) else (0:Int))
noncomputable def moAN :=
fun (b w k:Int) (n c:Nat) (l:List Int) (z:Bool)↦((!decide ((14:Int)<(n:Int)))=true→Ob ((true=true∧Flat (moAN1 l))∧okL (Leaf.view (moAN1 l) n false))∧((!errP b n (intsOf (moAN1 l))==(0:Int))=false→(false=true→Ob True∧True∧Ob moAN8)∧(false=false→Ob (moAN10 b n l)∧Ob (some (vi b)=some (vi b))∧Ob (moAN2 n l)∧Ob (0+2≤2)∧Ob ((n:Int)≠(0:Int))∧Ob ((0:Int)≤(IntKind.i64.wrap k).tmod (n:Int)∧(IntKind.i64.wrap k).tmod (n:Int)<(↑(0+n):Int)∧true=true)∧Ob (moAN11 k n l)∧Ob ((0:Int)≤(IntKind.i64.wrap k).tmod (n:Int)∧(IntKind.i64.wrap k).tmod (n:Int)<(↑(0+n):Int)∧true=true)∧Ob (0+((IntKind.i64.wrap k).tmod (n:Int)).toNat * 2+1+1≤(moAN6 n l).length)∧Ob (moAN9 b w k n l)∧(false=false→(false=false→(decide (cntF b (0+n) (intsOf (moAN0 w k n l))<cntF b n (intsOf (moAN1 l)))=true→True∧Ob moAN7)∧(decide (cntF b (0+n) (intsOf (moAN0 w k n l))<cntF b n (intsOf (moAN1 l)))=false→(decide ((n:Int)<(2:Int))=true→Ob True∧True∧Ob moAN8)∧(decide ((n:Int)<(2:Int))=false→(z=true→∃ (y:Unit),Ob (2≤n∧errP b n l=(0:Int))∧(Ob (moAN3 l)∧Ob (moAN4 b n c)∧True)∧Ob moAN5∧Ob (ptr0 2=ptr0 2)∧Ob (false=false)∧Ob (moAN12 n z)∧True)∧(z=false→∃ (y:Unit),Ob (2≤n∧errP b n l=(0:Int))∧(Ob (moAN3 l)∧Ob (moAN4 b n c)∧True)∧Ob moAN5∧Ob (ptr0 2=ptr0 2)∧Ob (false=false)∧Ob ((0:Int)=bif z then (n:Int)-(1:Int) else (0:Int))∧True))))∧(false=true→True∧Ob moAN7))∧(false=true→True∧Ob moAN7)))∧((!errP b n (intsOf (moAN1 l))==(0:Int))=true→Ob True∧True∧Ob moAN8))∧((!decide ((14:Int)<(n:Int)))=false→(true=false→(false=true→Ob True∧True∧Ob moAN8)∧(false=false→Ob (moAN10 b n l)∧Ob (some (vi b)=some (vi b))∧Ob (moAN2 n l)∧Ob (0+2≤2)∧Ob ((n:Int)≠(0:Int))∧Ob ((0:Int)≤(IntKind.i64.wrap k).tmod (n:Int)∧(IntKind.i64.wrap k).tmod (n:Int)<(↑(0+n):Int)∧true=true)∧Ob (moAN11 k n l)∧Ob ((0:Int)≤(IntKind.i64.wrap k).tmod (n:Int)∧(IntKind.i64.wrap k).tmod (n:Int)<(↑(0+n):Int)∧true=true)∧Ob (0+((IntKind.i64.wrap k).tmod (n:Int)).toNat * 2+1+1≤(moAN6 n l).length)∧Ob (moAN9 b w k n l)∧(false=false→(false=false→(decide (cntF b (0+n) (intsOf (moAN0 w k n l))<cntF b n (intsOf (moAN1 l)))=true→True∧Ob moAN7)∧(decide (cntF b (0+n) (intsOf (moAN0 w k n l))<cntF b n (intsOf (moAN1 l)))=false→(decide ((n:Int)<(2:Int))=true→Ob True∧True∧Ob moAN8)∧(decide ((n:Int)<(2:Int))=false→(z=true→∃ (y:Unit),Ob (2≤n∧errP b n l=(0:Int))∧(Ob (moAN3 l)∧Ob (moAN4 b n c)∧True)∧Ob moAN5∧Ob (ptr0 2=ptr0 2)∧Ob (false=false)∧Ob (moAN12 n z)∧True)∧(z=false→∃ (y:Unit),Ob (2≤n∧errP b n l=(0:Int))∧(Ob (moAN3 l)∧Ob (moAN4 b n c)∧True)∧Ob moAN5∧Ob (ptr0 2=ptr0 2)∧Ob (false=false)∧Ob ((0:Int)=bif z then (n:Int)-(1:Int) else (0:Int))∧True))))∧(false=true→True∧Ob moAN7))∧(false=true→True∧Ob moAN7)))∧(true=true→Ob True∧True∧Ob moAN8))
theorem moAN_eq : moAN = fun (b w k : Int) (n c : Nat) (l : List Int) (z : Bool) => vc Try.prog moE0 2 186 true (fun _ => none) (headC 10 moB) [] (argFr 0 [pierV b (some ⟨0,0,none⟩) n c,nilS,.bool z,.int .u8 k,.int .u16 w]) [ros l,.gone] (cutK 2 idS (fun _ : Unit => 2≤n∧errP b n l = 0) (fun _ => moFb nilS (bif z then (n : Int) - 1 else 0)) (fun _ => [ros l,.gone,boxP b n c]) moK) := by kernel_rfl
noncomputable def moAH0 (w:Int) (k:Int) (n:Nat) (l:List Int) := (putL ([]++List.take (n * 2) (List.drop 0 (List.map (Value.int IntKind.i64) l))) (0+((IntKind.i64.wrap k).tmod (n:Int)).toNat * 2+1) [vi (if IntKind.i64.wrap (getI ([]++List.take (n * 2) (List.drop 0 (List.map (Value.int IntKind.i64) l))) (0+((IntKind.i64.wrap k).tmod (n:Int)).toNat * 2+1)+IntKind.i64.wrap w)<(9000:Int) then IntKind.i64.wrap (getI ([]++List.take (n * 2) (List.drop 0 (List.map (Value.int IntKind.i64) l))) (0+((IntKind.i64.wrap k).tmod (n:Int)).toNat * 2+1)+IntKind.i64.wrap w) else (9000:Int))])
noncomputable def moAH1 (l:List Int) := (List.map (Value.int IntKind.i64) l)
noncomputable def moAH2 (d:Nat) (s:Option Nat):Prop := (Value.slice (some ⟨1,0,s⟩) 0 d=Value.slice (some ⟨idS 1,0,s⟩) 0 d)
noncomputable def moAH3 (n:Nat) (l:List Int):Prop := (andP (some (andP (some (0+n * 2≤(moAH1 l).length∧true=true)) (0+n≤1099511627776∧(2 * (0+n)+256) * 16≤281474976710656∧(List.take (n * 2) (List.drop 0 (moAH1 l))).length=n * 2∧0<0+n∧0+0≤0))) ¬0+n≤0)
noncomputable def moAH4 (l:List Int):Prop := (AObj.ro (moAH1 l)=AObj.ro (List.map (nmap1 idS) (moAH1 l))∧AObj.sc 3 (AObj.ro (moAH1 l))=true)
noncomputable def moAH5 (b:Int) (n:Nat) (c:Nat):Prop := (AObj.rw [vi b,Value.slice (some (ad0 0)) n c] none=AObj.rw [vi b,Value.slice (some (ad0 0)) n c] none∧true=true)
noncomputable def moAH6 (n:Nat) (l:List Int) := ([]++List.take (n * 2) (List.drop 0 (moAH1 l)))
noncomputable def moAH7  : Prop := (Value.bool false = Value.bool true)
noncomputable def moAH8  : Prop := (Value.bool true = Value.bool true)
noncomputable def moAH9 (b:Int) (w:Int) (k:Int) (n:Nat) (l:List Int):Prop := ((true=true∧Flat (moAH0 w k n l))∧okL (Leaf.view (moAH0 w k n l) (0+n) false)∧errP b (0+n) (intsOf (moAH0 w k n l))=(0:Int))
noncomputable def moAH10 (b:Int) (n:Nat) (l:List Int):Prop := ((true=true∧Flat (moAH1 l))∧okL (Leaf.view (moAH1 l) n false)∧errP b n (intsOf (moAH1 l))=(0:Int))
noncomputable def moAH11 (k:Int) (n:Nat) (l:List Int) := (IntAt IntKind.i64 (moAH6 n l) (0+((IntKind.i64.wrap k).tmod (n:Int)).toNat * 2+1))
noncomputable def moAH12 (n:Nat) (z:Bool):Prop := (IntKind.i64.wrap ((n:Int)-(1:Int))=bif z then (n:Int)-(1:Int) else (0:Int))
noncomputable def moAH :=
fun (b w k:Int) (n c:Nat) (l:List Int) (z:Bool) (d:Nat) (s:Option Nat)↦((!decide ((14:Int)<(n:Int)))=true→Ob ((true=true∧Flat (moAH1 l))∧okL (Leaf.view (moAH1 l) n false))∧((!errP b n (intsOf (moAH1 l))==(0:Int))=false→(false=true→Ob True∧True∧Ob moAH8)∧(false=false→Ob (moAH10 b n l)∧Ob (some (vi b)=some (vi b))∧Ob (moAH3 n l)∧Ob (0+2≤2)∧Ob ((n:Int)≠(0:Int))∧Ob ((0:Int)≤(IntKind.i64.wrap k).tmod (n:Int)∧(IntKind.i64.wrap k).tmod (n:Int)<(↑(0+n):Int)∧true=true)∧Ob (moAH11 k n l)∧Ob ((0:Int)≤(IntKind.i64.wrap k).tmod (n:Int)∧(IntKind.i64.wrap k).tmod (n:Int)<(↑(0+n):Int)∧true=true)∧Ob (0+((IntKind.i64.wrap k).tmod (n:Int)).toNat * 2+1+1≤(moAH6 n l).length)∧Ob (moAH9 b w k n l)∧(false=false→(false=false→(decide (cntF b (0+n) (intsOf (moAH0 w k n l))<cntF b n (intsOf (moAH1 l)))=true→True∧Ob moAH7)∧(decide (cntF b (0+n) (intsOf (moAH0 w k n l))<cntF b n (intsOf (moAH1 l)))=false→(decide ((n:Int)<(2:Int))=true→Ob True∧True∧Ob moAH8)∧(decide ((n:Int)<(2:Int))=false→(z=true→∃ (y:Unit),Ob (2≤n∧errP b n l=(0:Int))∧(Ob (moAH4 l)∧Ob (moAH5 b n c)∧True)∧Ob (moAH2 d s)∧Ob (ptr0 2=ptr0 2)∧Ob (false=false)∧Ob (moAH12 n z)∧True)∧(z=false→∃ (y:Unit),Ob (2≤n∧errP b n l=(0:Int))∧(Ob (moAH4 l)∧Ob (moAH5 b n c)∧True)∧Ob (moAH2 d s)∧Ob (ptr0 2=ptr0 2)∧Ob (false=false)∧Ob ((0:Int)=bif z then (n:Int)-(1:Int) else (0:Int))∧True))))∧(false=true→True∧Ob moAH7))∧(false=true→True∧Ob moAH7)))∧((!errP b n (intsOf (moAH1 l))==(0:Int))=true→Ob True∧True∧Ob moAH8))∧((!decide ((14:Int)<(n:Int)))=false→(true=false→(false=true→Ob True∧True∧Ob moAH8)∧(false=false→Ob (moAH10 b n l)∧Ob (some (vi b)=some (vi b))∧Ob (moAH3 n l)∧Ob (0+2≤2)∧Ob ((n:Int)≠(0:Int))∧Ob ((0:Int)≤(IntKind.i64.wrap k).tmod (n:Int)∧(IntKind.i64.wrap k).tmod (n:Int)<(↑(0+n):Int)∧true=true)∧Ob (moAH11 k n l)∧Ob ((0:Int)≤(IntKind.i64.wrap k).tmod (n:Int)∧(IntKind.i64.wrap k).tmod (n:Int)<(↑(0+n):Int)∧true=true)∧Ob (0+((IntKind.i64.wrap k).tmod (n:Int)).toNat * 2+1+1≤(moAH6 n l).length)∧Ob (moAH9 b w k n l)∧(false=false→(false=false→(decide (cntF b (0+n) (intsOf (moAH0 w k n l))<cntF b n (intsOf (moAH1 l)))=true→True∧Ob moAH7)∧(decide (cntF b (0+n) (intsOf (moAH0 w k n l))<cntF b n (intsOf (moAH1 l)))=false→(decide ((n:Int)<(2:Int))=true→Ob True∧True∧Ob moAH8)∧(decide ((n:Int)<(2:Int))=false→(z=true→∃ (y:Unit),Ob (2≤n∧errP b n l=(0:Int))∧(Ob (moAH4 l)∧Ob (moAH5 b n c)∧True)∧Ob (moAH2 d s)∧Ob (ptr0 2=ptr0 2)∧Ob (false=false)∧Ob (moAH12 n z)∧True)∧(z=false→∃ (y:Unit),Ob (2≤n∧errP b n l=(0:Int))∧(Ob (moAH4 l)∧Ob (moAH5 b n c)∧True)∧Ob (moAH2 d s)∧Ob (ptr0 2=ptr0 2)∧Ob (false=false)∧Ob ((0:Int)=bif z then (n:Int)-(1:Int) else (0:Int))∧True))))∧(false=true→True∧Ob moAH7))∧(false=true→True∧Ob moAH7)))∧(true=true→Ob True∧True∧Ob moAH8))
theorem moAH_eq : moAH = fun (b w k : Int) (n c : Nat) (l : List Int) (z : Bool) (d : Nat) (s : Option Nat) => vc Try.prog moE0 2 186 true (fun _ => none) (headC 10 moB) [] (argFr 0 [pierV b (some ⟨0,0,none⟩) n c,(.slice (some ⟨1,0,s⟩) 0 d),.bool z,.int .u8 k,.int .u16 w]) [ros l,.gone] (cutK 2 idS (fun _ : Unit => 2≤n∧errP b n l = 0) (fun _ => moFb (.slice (some ⟨1,0,s⟩) 0 d) (bif z then (n : Int) - 1 else 0)) (fun _ => [ros l,.gone,boxP b n c]) moK) := by kernel_rfl
noncomputable def moAV0 (w:Int) (k:Int) (n:Nat) (l:List Int) := (putL ([]++List.take (n * 2) (List.drop 0 (List.map (Value.int IntKind.i64) l))) (0+((IntKind.i64.wrap k).tmod (n:Int)).toNat * 2+1) [vi (if IntKind.i64.wrap (getI ([]++List.take (n * 2) (List.drop 0 (List.map (Value.int IntKind.i64) l))) (0+((IntKind.i64.wrap k).tmod (n:Int)).toNat * 2+1)+IntKind.i64.wrap w)<(9000:Int) then IntKind.i64.wrap (getI ([]++List.take (n * 2) (List.drop 0 (List.map (Value.int IntKind.i64) l))) (0+((IntKind.i64.wrap k).tmod (n:Int)).toNat * 2+1)+IntKind.i64.wrap w) else (9000:Int))])
noncomputable def moAV1 (l:List Int) := (List.map (Value.int IntKind.i64) l)
noncomputable def moAV2 (q:List Int):Prop := (AObj.ro (List.map (Value.int IntKind.u8) q)=AObj.ro (List.map (nmap1 idS) (List.map (Value.int IntKind.u8) q))∧AObj.sc 3 (AObj.ro (List.map (Value.int IntKind.u8) q))=true)
noncomputable def moAV3 (n:Nat) (l:List Int):Prop := (andP (some (andP (some (0+n * 2≤(moAV1 l).length∧true=true)) (0+n≤1099511627776∧(2 * (0+n)+256) * 16≤281474976710656∧(List.take (n * 2) (List.drop 0 (moAV1 l))).length=n * 2∧0<0+n∧0+0≤0))) ¬0+n≤0)
noncomputable def moAV4 (l:List Int):Prop := (AObj.ro (moAV1 l)=AObj.ro (List.map (nmap1 idS) (moAV1 l))∧AObj.sc 3 (AObj.ro (moAV1 l))=true)
noncomputable def moAV5 (b:Int) (n:Nat) (c:Nat):Prop := (AObj.rw [vi b,Value.slice (some (ad0 0)) n c] none=AObj.rw [vi b,Value.slice (some (ad0 0)) n c] none∧true=true)
noncomputable def moAV6 (d:Nat) (q:List Int):Prop := (Value.slice (some (ad0 1)) q.length d=Value.slice (some (ad0 1)) q.length d)
noncomputable def moAV7 (n:Nat) (l:List Int) := ([]++List.take (n * 2) (List.drop 0 (moAV1 l)))
noncomputable def moAV8  : Prop := (Value.bool false = Value.bool true)
noncomputable def moAV9  : Prop := (Value.bool true = Value.bool true)
noncomputable def moAV10 (b:Int) (w:Int) (k:Int) (n:Nat) (l:List Int):Prop := ((true=true∧Flat (moAV0 w k n l))∧okL (Leaf.view (moAV0 w k n l) (0+n) false)∧errP b (0+n) (intsOf (moAV0 w k n l))=(0:Int))
noncomputable def moAV11 (b:Int) (n:Nat) (l:List Int):Prop := ((true=true∧Flat (moAV1 l))∧okL (Leaf.view (moAV1 l) n false)∧errP b n (intsOf (moAV1 l))=(0:Int))
noncomputable def moAV12 (k:Int) (n:Nat) (l:List Int) := (IntAt IntKind.i64 (moAV7 n l) (0+((IntKind.i64.wrap k).tmod (n:Int)).toNat * 2+1))
noncomputable def moAV13 (n:Nat) (z:Bool):Prop := (IntKind.i64.wrap ((n:Int)-(1:Int))=bif z then (n:Int)-(1:Int) else (0:Int))
noncomputable def moAV :=
fun (b w k:Int) (n c:Nat) (l:List Int) (z:Bool) (d:Nat) (q:List Int)↦((!decide ((14:Int)<(n:Int)))=true→Ob ((true=true∧Flat (moAV1 l))∧okL (Leaf.view (moAV1 l) n false))∧((!errP b n (intsOf (moAV1 l))==(0:Int))=false→(decide ((40:Int)<(q.length:Int))=true→Ob True∧True∧Ob moAV9)∧(decide ((40:Int)<(q.length:Int))=false→Ob (moAV11 b n l)∧Ob (some (vi b)=some (vi b))∧Ob (moAV3 n l)∧Ob (0+2≤2)∧Ob ((n:Int)≠(0:Int))∧Ob ((0:Int)≤(IntKind.i64.wrap k).tmod (n:Int)∧(IntKind.i64.wrap k).tmod (n:Int)<(↑(0+n):Int)∧true=true)∧Ob (moAV12 k n l)∧Ob ((0:Int)≤(IntKind.i64.wrap k).tmod (n:Int)∧(IntKind.i64.wrap k).tmod (n:Int)<(↑(0+n):Int)∧true=true)∧Ob (0+((IntKind.i64.wrap k).tmod (n:Int)).toNat * 2+1+1≤(moAV7 n l).length)∧Ob (moAV10 b w k n l)∧(false=false→(false=false→(decide (cntF b (0+n) (intsOf (moAV0 w k n l))<cntF b n (intsOf (moAV1 l)))=true→True∧Ob moAV8)∧(decide (cntF b (0+n) (intsOf (moAV0 w k n l))<cntF b n (intsOf (moAV1 l)))=false→(decide ((n:Int)<(2:Int))=true→Ob True∧True∧Ob moAV9)∧(decide ((n:Int)<(2:Int))=false→(z=true→∃ (y:Unit),Ob (2≤n∧errP b n l=(0:Int)∧q.length≤40)∧(Ob (moAV4 l)∧Ob (moAV2 q)∧Ob (moAV5 b n c)∧True)∧Ob (moAV6 d q)∧Ob (ptr0 2=ptr0 2)∧Ob (false=false)∧Ob (moAV13 n z)∧True)∧(z=false→∃ (y:Unit),Ob (2≤n∧errP b n l=(0:Int)∧q.length≤40)∧(Ob (moAV4 l)∧Ob (moAV2 q)∧Ob (moAV5 b n c)∧True)∧Ob (moAV6 d q)∧Ob (ptr0 2=ptr0 2)∧Ob (false=false)∧Ob ((0:Int)=bif z then (n:Int)-(1:Int) else (0:Int))∧True))))∧(false=true→True∧Ob moAV8))∧(false=true→True∧Ob moAV8)))∧((!errP b n (intsOf (moAV1 l))==(0:Int))=true→Ob True∧True∧Ob moAV9))∧((!decide ((14:Int)<(n:Int)))=false→(true=false→(decide ((40:Int)<(q.length:Int))=true→Ob True∧True∧Ob moAV9)∧(decide ((40:Int)<(q.length:Int))=false→Ob (moAV11 b n l)∧Ob (some (vi b)=some (vi b))∧Ob (moAV3 n l)∧Ob (0+2≤2)∧Ob ((n:Int)≠(0:Int))∧Ob ((0:Int)≤(IntKind.i64.wrap k).tmod (n:Int)∧(IntKind.i64.wrap k).tmod (n:Int)<(↑(0+n):Int)∧true=true)∧Ob (moAV12 k n l)∧Ob ((0:Int)≤(IntKind.i64.wrap k).tmod (n:Int)∧(IntKind.i64.wrap k).tmod (n:Int)<(↑(0+n):Int)∧true=true)∧Ob (0+((IntKind.i64.wrap k).tmod (n:Int)).toNat * 2+1+1≤(moAV7 n l).length)∧Ob (moAV10 b w k n l)∧(false=false→(false=false→(decide (cntF b (0+n) (intsOf (moAV0 w k n l))<cntF b n (intsOf (moAV1 l)))=true→True∧Ob moAV8)∧(decide (cntF b (0+n) (intsOf (moAV0 w k n l))<cntF b n (intsOf (moAV1 l)))=false→(decide ((n:Int)<(2:Int))=true→Ob True∧True∧Ob moAV9)∧(decide ((n:Int)<(2:Int))=false→(z=true→∃ (y:Unit),Ob (2≤n∧errP b n l=(0:Int)∧q.length≤40)∧(Ob (moAV4 l)∧Ob (moAV2 q)∧Ob (moAV5 b n c)∧True)∧Ob (moAV6 d q)∧Ob (ptr0 2=ptr0 2)∧Ob (false=false)∧Ob (moAV13 n z)∧True)∧(z=false→∃ (y:Unit),Ob (2≤n∧errP b n l=(0:Int)∧q.length≤40)∧(Ob (moAV4 l)∧Ob (moAV2 q)∧Ob (moAV5 b n c)∧True)∧Ob (moAV6 d q)∧Ob (ptr0 2=ptr0 2)∧Ob (false=false)∧Ob ((0:Int)=bif z then (n:Int)-(1:Int) else (0:Int))∧True))))∧(false=true→True∧Ob moAV8))∧(false=true→True∧Ob moAV8)))∧(true=true→Ob True∧True∧Ob moAV9))
theorem moAV_eq : moAV = fun (b w k : Int) (n c : Nat) (l : List Int) (z : Bool) (d : Nat) (q : List Int) => vc Try.prog moE0 2 186 true (fun _ => none) (headC 10 moB) [] (argFr 0 [pierV b (some ⟨0,0,none⟩) n c,(sl1 q.length d),.bool z,.int .u8 k,.int .u16 w]) [ros l,roU q] (cutK 2 idS (fun _ : Unit => 2≤n∧errP b n l = 0∧q.length≤40) (fun _ => moFb (sl1 q.length d) (bif z then (n : Int) - 1 else 0)) (fun _ => [ros l,roU q,boxP b n c]) moK) := by kernel_rfl
noncomputable def moT0 (n:Nat) := (IntKind.i64.wrap ((n:Int)-(1:Int)+(1:Int)))
noncomputable def moT1 (l:List Int) := (List.map (Value.int IntKind.i64) l)
noncomputable def moT2 (n:Nat) (c:Nat) (l:List Int) := ([]++List.take (((n:Int)-(1:Int)).toNat * 2) (List.drop 0 (moT1 l))++List.take ((n-(moT0 n).toNat) * 2) (List.drop (if c=(moT0 n).toNat then 0 else 0+(moT0 n).toNat * 2) (moT1 l)))
noncomputable def moT3 (n:Nat) := ((n:Int)-(1:Int))
noncomputable def moT4 (b:Int) (n:Nat):List Value := [vi b,Value.slice (some ⟨5,0,some 0⟩) (0+(moT3 n).toNat+(n-(moT0 n).toNat)) 0]
noncomputable def moT5 (b:Int) (n:Nat) (c:Nat):List Value := [vi b,Value.slice (some (ad0 0)) n c]
noncomputable def moT6  := (Value.int IntKind.i64)
noncomputable def moT :=
fun (b:Int) (n c:Nat) (l:List Int) (bv:Value) (X:AObj) (P:Heap→Prop) (o:Nat→Bool)↦Ob (some (vi b)=some (vi b))∧Ob (n≤c∧(0:Int)≤(n:Int)-(1:Int)∧(n:Int)-(1:Int)≤(c:Int))∧Ob (andP (some (andP (some (0+(moT3 n).toNat * 2≤(moT1 l).length∧true=true)) (0+(moT3 n).toNat≤1099511627776∧(2 * (0+(moT3 n).toNat)+256) * 16≤281474976710656∧(List.take ((moT3 n).toNat * 2) (List.drop 0 (moT1 l))).length=(moT3 n).toNat * 2∧0<0+(moT3 n).toNat∧0+0≤0))) ¬0+(moT3 n).toNat≤0)∧Ob (n≤c∧(0:Int)≤IntKind.i64.wrap ((n:Int)-(1:Int)+(1:Int))∧IntKind.i64.wrap ((n:Int)-(1:Int)+(1:Int))≤(n:Int))∧Ob (andP (some ((if c=(moT0 n).toNat then 0 else 0+(moT0 n).toNat * 2)+(n-(moT0 n).toNat) * 2≤(moT1 l).length∧true=true)) (0+(moT3 n).toNat+(n-(moT0 n).toNat)≤1099511627776∧(2 * (0+(moT3 n).toNat+(n-(moT0 n).toNat))+256) * 16≤281474976710656∧(List.take ((n-(moT0 n).toNat) * 2) (List.drop (if c=(moT0 n).toNat then 0 else 0+(moT0 n).toNat * 2) (moT1 l))).length=(n-(moT0 n).toNat) * 2∧([]++List.take ((moT3 n).toNat * 2) (List.drop 0 (moT1 l))).length=(0+(moT3 n).toNat) * 2))∧Ob (0+2≤2)∧Ob ([Value.agg { toList := (moT5 b n c) },(some bv).getD (Value.tuple ⟨[]⟩)]=[Value.agg { toList := (moT5 b n c) },bv]∧P [AObj.ro (moT1 l),X,AObj.rw (moT5 b n c) none,AObj.rw [] none,AObj.gone,AObj.rw (moT2 n c l) (some 2),AObj.rw (moT4 b n) none])∧∃ (y:Unit),Ob True∧(Ob (AObj.ro (moT1 l)=AObj.ro (List.map (nmap1 moS) (moT1 l))∧AObj.sc 6 (AObj.ro (moT1 l))=true)∧Ob (AObj.rw (moT5 b n c) none=AObj.rw (moT5 b n c) none∧true=true)∧Ob (AObj.rw (moT4 b n) none=AObj.rw [vi b,Value.slice (some ⟨5,0,some 0⟩) (n-1) 0] none∧true=true)∧Ob (AObj.rw (moT2 n c l) (some 2)=AObj.rw (List.map (nmap1 moS) (List.map moT6 (xL (n-1) l))) (some 2)∧AObj.sc 6 (AObj.rw (List.map moT6 (xL (n-1) l)) (some 2))=true)∧Ob (AObj.rw (List.map moT6 (wL n (lefts b n l) o n)) (some 1)=AObj.rw (List.map (nmap1 moS) (List.map moT6 (wL n (lefts b n l) o n))) (some 1)∧AObj.sc 6 (AObj.rw (List.map moT6 (wL n (lefts b n l) o n)) (some 1))=true)∧True)∧Ob (ptr0 2=ptr0 2)∧Ob (false=false)∧Ob ((n:Int)-(1:Int)=(n:Int)-(1:Int))∧Ob (ptr0 6=ptr0 6)∧Ob (Value.slice (some ⟨7,0,some 0⟩) n 0=Value.slice (some ⟨7,0,some 0⟩) n 0)∧True
theorem moT_eq : moT = fun (b : Int) (n c : Nat) (l : List Int) (bv : Value) (X : AObj) (P : Heap→Prop) (o : Nat→Bool) => vc Try.prog (moE2 b n c l bv P o) 2 186 true (fun _ => none) (headC 1 (tailC 10 moB)) [] (moFb bv ((n : Int) - 1)) [ros l,X,boxP b n c] (cutK 2 moS (fun _ : Unit => True) (fun _ => moF3 ((n : Int) - 1) n) (fun _ => moH3 b n c l (xL (n - 1) l) (wL n (lefts b n l) o n)) moK) := by kernel_rfl
noncomputable def moZ0  := (Value.int IntKind.i64)
noncomputable def moZ1 (c:Nat) (l:List Int) := (List.drop (if c=1 then 0 else 2) (List.map moZ0 l))
noncomputable def moZ2 (b:Int) (n:Nat):List Value := [vi b,Value.slice (some ⟨4,0,some 0⟩) (0+(n-1)) 0]
noncomputable def moZ3 (b:Int) (n:Nat) (c:Nat):List Value := [vi b,Value.slice (some (ad0 0)) n c]
noncomputable def moZ :=
fun (b:Int) (n c:Nat) (l:List Int) (bv:Value) (X:AObj) (P:Heap→Prop) (o:Nat→Bool)↦Ob (some (vi b)=some (vi b))∧Ob (n≤c∧(0:Int)≤(0:Int)∧(0:Int)≤(c:Int))∧Ob (0=0∧0≤1099511627776∧4096≤281474976710656∧2=2∧0≤0)∧Ob (n≤c∧(0:Int)≤IntKind.i64.wrap ((0:Int)+(1:Int))∧IntKind.i64.wrap ((0:Int)+(1:Int))≤(n:Int))∧Ob (andP (some (andP (some ((if c=1 then 0 else 2)+(n-1) * 2≤(List.map moZ0 l).length∧true=true)) (0+(n-1)≤1099511627776∧(2 * (0+(n-1))+256) * 16≤281474976710656∧(List.take ((n-1) * 2) (moZ1 c l)).length=(n-1) * 2∧0<0+(n-1)∧0+0≤0))) ¬0+(n-1)≤0)∧Ob (0+2≤2)∧Ob ([Value.agg { toList := (moZ3 b n c) },(some bv).getD (Value.tuple ⟨[]⟩)]=[Value.agg { toList := (moZ3 b n c) },bv]∧P [AObj.ro (List.map moZ0 l),X,AObj.rw (moZ3 b n c) none,AObj.rw [] none,AObj.rw ([]++List.take ((n-1) * 2) (moZ1 c l)) (some 2),AObj.rw (moZ2 b n) none])∧∃ (y:Unit),Ob True∧(Ob (AObj.ro (List.map moZ0 l)=AObj.ro (List.map (nmap1 moSZ) (List.map moZ0 l))∧AObj.sc 6 (AObj.ro (List.map moZ0 l))=true)∧Ob (AObj.rw (moZ3 b n c) none=AObj.rw (moZ3 b n c) none∧true=true)∧Ob (AObj.rw (moZ2 b n) none=AObj.rw [vi b,Value.slice (some ⟨4,0,some 0⟩) (n-1) 0] none∧true=true)∧Ob (AObj.rw ([]++List.take ((n-1) * 2) (moZ1 c l)) (some 2)=AObj.rw (List.map (nmap1 moSZ) (List.map moZ0 (xL 0 l))) (some 2)∧AObj.sc 6 (AObj.rw (List.map moZ0 (xL 0 l)) (some 2))=true)∧Ob (AObj.rw (List.map moZ0 (wL n (lefts b n l) o n)) (some 1)=AObj.rw (List.map (nmap1 moSZ) (List.map moZ0 (wL n (lefts b n l) o n))) (some 1)∧AObj.sc 6 (AObj.rw (List.map moZ0 (wL n (lefts b n l) o n)) (some 1))=true)∧True)∧Ob (ptr0 2=ptr0 2)∧Ob (false=false)∧Ob ((0:Int)=(0:Int))∧Ob (ptr0 5=ptr0 5)∧Ob (Value.slice (some ⟨6,0,some 0⟩) n 0=Value.slice (some ⟨6,0,some 0⟩) n 0)∧True
theorem moZ_eq : moZ = fun (b : Int) (n c : Nat) (l : List Int) (bv : Value) (X : AObj) (P : Heap→Prop) (o : Nat→Bool) => vc Try.prog (moE2f b n c l bv P o) 2 186 true (fun _ => none) (headC 1 (tailC 10 moB)) [] (moFb bv 0) [ros l,X,boxP b n c] (cutK 2 moSZ (fun _ : Unit => True) (fun _ => moF3 0 n) (fun _ => moH3 b n c l (xL 0 l) (wL n (lefts b n l) o n)) moK) := by kernel_rfl
noncomputable def moC0 (b:Int) (n:Nat):Prop := (AObj.rw [vi b,Value.slice (some ⟨4,0,some 0⟩) (n-1) 0] none=AObj.rw [vi b,Value.slice (some ⟨4,0,some 0⟩) (n-1) 0] none∧true=true)
noncomputable def moC1 (n:Nat):Prop := (Value.slice (some ⟨5,0,some 0⟩) n 0=Value.slice (some ⟨5,0,some 0⟩) n 0)
noncomputable def moC2  := (Value.int IntKind.i64)
noncomputable def moC3 (b:Int) (n:Nat) (c:Nat):Prop := (AObj.rw [vi b,Value.slice (some (ad0 0)) n c] none=AObj.rw [vi b,Value.slice (some (ad0 0)) n c] none∧true=true)
noncomputable def moC4 (own:List Int):Prop := (AObj.rw (List.map moC2 own) (some 1)=AObj.rw (List.map (nmap1 idS) (List.map moC2 own)) (some 1)∧AObj.sc 7 (AObj.rw (List.map moC2 own) (some 1))=true)
noncomputable def moC5 (xl:List Int):Prop := (AObj.rw (List.map moC2 xl) (some 2)=AObj.rw (List.map (nmap1 idS) (List.map moC2 xl)) (some 2)∧AObj.sc 7 (AObj.rw (List.map moC2 xl) (some 2))=true)
noncomputable def moC6  (x:Nat) (y:Nat):Prop := (IntKind.i64.wrap ((x:Int)+(1:Int))=(y:Int))
noncomputable def moC7 (l:List Int):Prop := (AObj.ro (List.map moC2 l)=AObj.ro (List.map (nmap1 idS) (List.map moC2 l))∧AObj.sc 7 (AObj.ro (List.map moC2 l))=true)
noncomputable def moC8  (x:Nat) := (0+(x:Int).toNat * 1)
noncomputable def moC9 (own:List Int) := (List.map moC2 own)
noncomputable def moC10 (xl:List Int):Prop := (AObj.rw (List.map moC2 xl) (some 2)=AObj.rw (List.map (nmap1 (nsub 6 7)) (List.map moC2 xl)) (some 2)∧AObj.sc 7 (AObj.rw (List.map moC2 xl) (some 2))=true)
noncomputable def moC11 (xl:List Int):Prop := (AObj.rw (List.map moC2 xl) (some 2)=AObj.rw (List.map (nmap1 (nsub 6 8)) (List.map moC2 xl)) (some 2)∧AObj.sc 7 (AObj.rw (List.map moC2 xl) (some 2))=true)
noncomputable def moC12 (xl:List Int):Prop := (AObj.rw (List.map moC2 xl) (some 2)=AObj.rw (List.map (nmap1 idS) (List.map moC2 xl)) (some 2)∧AObj.sc 6 (AObj.rw (List.map moC2 xl) (some 2))=true)
noncomputable def moC13 (own:List Int):Prop := (AObj.rw (moC9 own) (some 1)=AObj.rw (List.map (nmap1 (nsub 6 7)) (moC9 own)) (some 1)∧AObj.sc 7 (AObj.rw (moC9 own) (some 1))=true)
noncomputable def moC14 (own:List Int):Prop := (AObj.rw (moC9 own) (some 1)=AObj.rw (List.map (nmap1 (nsub 6 8)) (moC9 own)) (some 1)∧AObj.sc 7 (AObj.rw (moC9 own) (some 1))=true)
noncomputable def moC15 (own:List Int):Prop := (AObj.rw (moC9 own) (some 1)=AObj.rw (List.map (nmap1 idS) (moC9 own)) (some 1)∧AObj.sc 6 (AObj.rw (moC9 own) (some 1))=true)
noncomputable def moC16 (l:List Int):Prop := (AObj.ro (List.map moC2 l)=AObj.ro (List.map (nmap1 (nsub 6 7)) (List.map moC2 l))∧AObj.sc 7 (AObj.ro (List.map moC2 l))=true)
noncomputable def moC17 (l:List Int):Prop := (AObj.ro (List.map moC2 l)=AObj.ro (List.map (nmap1 (nsub 6 8)) (List.map moC2 l))∧AObj.sc 7 (AObj.ro (List.map moC2 l))=true)
noncomputable def moC18 (g:Int) (own:List Int) (x:Nat) := (andP (some (0+1≤1∧true=true)) ((lsL g own x).length+1≤1099511627776∧(2 * ((lsL g own x).length+1)+256) * 8≤281474976710656∧1=1∧(List.map moC2 (lsL g own x)).length=(lsL g own x).length * 1))
noncomputable def moC19 (l:List Int):Prop := (AObj.ro (List.map moC2 l)=AObj.ro (List.map (nmap1 idS) (List.map moC2 l))∧AObj.sc 6 (AObj.ro (List.map moC2 l))=true)
noncomputable def moC20 (g:Int) (own:List Int) (y:Nat) := (AObj.rw (List.map moC2 (lsL g own y)) (some 1))
noncomputable def moC21 (g:Int) (own:List Int) (x:Nat) (y:Nat):Prop := (Value.slice (some ⟨8,0,some 0⟩) ((lsL g own x).length+1) 0=Value.slice (some ⟨6,0,some 0⟩) (lsL g own y).length 0)
noncomputable def moC22 (g:Int) (own:List Int) (x:Nat) (y:Nat):Prop := (Value.slice (some ⟨8,0,some 0⟩) ((lsL g own x).length+1) 0=Value.slice (some ⟨8,0,some 0⟩) (lsL g own y).length 0)
noncomputable def moC23  := (andP (some ((0 : Nat) + (1 : Nat)≤(1 : Nat)∧true = true)) ((1 : Nat)≤(1099511627776 : Nat)∧(2064 : Nat)≤(281474976710656 : Nat)∧(1 : Nat) = (1 : Nat)∧(0 : Nat) = (0 : Nat)∧(0 : Nat) < (1 : Nat)))
noncomputable def moC24 (g:Int) (own:List Int) (y:Nat):Prop := (Value.slice (some ⟨7,0,some 0⟩) 1 0=Value.slice (some ⟨7,0,some 0⟩) (lsL g own y).length 0)
noncomputable def moC25  : Prop := (Value.slice (some { block := (7 : Nat),off := (0 : Nat),spot := some (0 : Nat) }) (1 : Nat) (0 : Nat) = Value.slice none (0 : Nat) (0 : Nat))
noncomputable def moC26 (g:Int) (own:List Int) (y:Nat):Prop := (AObj.gone=AObj.rw (List.map (nmap1 idS) (List.map moC2 (lsL g own y))) (some 1)∧AObj.sc 7 (moC20 g own y)=true)
noncomputable def moC27 (own:List Int) (x:Nat) := (IntAt IntKind.i64 (moC9 own) (moC8 x))
noncomputable def moC28  : Prop := (Value.slice none (0 : Nat) (0 : Nat) = Value.slice none (0 : Nat) (0 : Nat))
noncomputable def moC :=
fun (b g:Int) (n c:Nat) (l xl own:List Int)↦((∃ (y:Nat),Ob (y≤n∧lsL g own y=[])∧(Ob (AObj.ro (List.map moC2 l)=AObj.ro (List.map (nmap1 fun (bq:Nat)↦bq) (List.map moC2 l))∧AObj.sc 6 (AObj.ro (List.map moC2 l))=true)∧Ob (moC3 b n c)∧Ob (moC0 b n)∧Ob (AObj.rw (List.map moC2 xl) (some 2)=AObj.rw (List.map (nmap1 fun (bqq:Nat)↦bqq) (List.map moC2 xl)) (some 2)∧AObj.sc 6 (AObj.rw (List.map moC2 xl) (some 2))=true)∧Ob (AObj.rw (moC9 own) (some 1)=AObj.rw (List.map (nmap1 fun (bqqq:Nat)↦bqqq) (moC9 own)) (some 1)∧AObj.sc 6 (AObj.rw (moC9 own) (some 1))=true)∧True)∧Ob (ptr0 2=ptr0 2)∧Ob (false=false)∧Ob (g=g)∧Ob (ptr0 3=ptr0 3)∧Ob (moC1 n)∧Ob moC28∧Ob ((0:Int)=(y:Int))∧True)∨∃ (y:Nat),Ob (y≤n∧lsL g own y≠[])∧(Ob (AObj.ro (List.map moC2 l)=AObj.ro (List.map (nmap1 fun (bqqqq:Nat)↦bqqqq) (List.map moC2 l))∧AObj.sc 7 (AObj.ro (List.map moC2 l))=true)∧Ob (moC3 b n c)∧Ob (moC0 b n)∧Ob (AObj.rw (List.map moC2 xl) (some 2)=AObj.rw (List.map (nmap1 fun (bqqqqq:Nat)↦bqqqqq) (List.map moC2 xl)) (some 2)∧AObj.sc 7 (AObj.rw (List.map moC2 xl) (some 2))=true)∧Ob (AObj.rw (moC9 own) (some 1)=AObj.rw (List.map (nmap1 fun (bqqqqqq:Nat)↦bqqqqqq) (moC9 own)) (some 1)∧AObj.sc 7 (AObj.rw (moC9 own) (some 1))=true)∧False)∧Ob (ptr0 2=ptr0 2)∧Ob (false=false)∧Ob (g=g)∧Ob (ptr0 3=ptr0 3)∧Ob (moC1 n)∧Ob (Value.slice none 0 0=Value.slice (some ⟨6,0,some 0⟩) (lsL g own y).length 0)∧Ob ((0:Int)=(y:Int))∧True)∧(∀ (x:Nat),Ob (x≤n∧lsL g own x=[])→(decide ((x:Int)<(n:Int))=true→Ob ((0:Int)≤(x:Int)∧(x:Int)<(n:Int)∧true=true)∧Ob (moC27 own x)∧((getI (moC9 own) (moC8 x) !=g)=true→Ob ((0:Int)≤(x:Int)∧(x:Int)<(n:Int)∧true=true)∧Ob (moC27 own x)∧(decide (g<getI (moC9 own) (moC8 x))=true→Ob moC23∧((∃ (y:Nat),Ob (y≤n∧lsL g own y=[])∧Ob (n-y<n-x)∧(Ob (moC19 l)∧Ob (moC3 b n c)∧Ob (moC0 b n)∧Ob (moC12 xl)∧Ob (moC15 own)∧True)∧Ob (ptr0 2=ptr0 2)∧Ob (false=false)∧Ob (g=g)∧Ob (ptr0 3=ptr0 3)∧Ob (moC1 n)∧Ob moC25∧Ob (moC6 x y)∧True)∨∃ (y:Nat),Ob (y≤n∧lsL g own y≠[])∧Ob (n-y<n-x)∧(Ob (moC16 l)∧Ob (moC3 b n c)∧Ob (moC0 b n)∧Ob (moC10 xl)∧Ob (moC13 own)∧Ob (AObj.rw [vi (IntKind.i64.wrap (getI (moC9 own) (moC8 x)-(1:Int)))] (some 1)=AObj.rw (List.map (nmap1 (nsub 6 7)) (List.map moC2 (lsL g own y))) (some 1)∧AObj.sc 7 (moC20 g own y)=true)∧True)∧Ob (ptr0 2=ptr0 2)∧Ob (false=false)∧Ob (g=g)∧Ob (ptr0 3=ptr0 3)∧Ob (moC1 n)∧Ob (moC24 g own y)∧Ob (moC6 x y)∧True))∧(decide (g<getI (moC9 own) (moC8 x))=false→Ob moC23∧((∃ (y:Nat),Ob (y≤n∧lsL g own y=[])∧Ob (n-y<n-x)∧(Ob (moC19 l)∧Ob (moC3 b n c)∧Ob (moC0 b n)∧Ob (moC12 xl)∧Ob (moC15 own)∧True)∧Ob (ptr0 2=ptr0 2)∧Ob (false=false)∧Ob (g=g)∧Ob (ptr0 3=ptr0 3)∧Ob (moC1 n)∧Ob moC25∧Ob (moC6 x y)∧True)∨∃ (y:Nat),Ob (y≤n∧lsL g own y≠[])∧Ob (n-y<n-x)∧(Ob (moC16 l)∧Ob (moC3 b n c)∧Ob (moC0 b n)∧Ob (moC10 xl)∧Ob (moC13 own)∧Ob (AObj.rw [vi (getI (moC9 own) (moC8 x))] (some 1)=AObj.rw (List.map (nmap1 (nsub 6 7)) (List.map moC2 (lsL g own y))) (some 1)∧AObj.sc 7 (moC20 g own y)=true)∧True)∧Ob (ptr0 2=ptr0 2)∧Ob (false=false)∧Ob (g=g)∧Ob (ptr0 3=ptr0 3)∧Ob (moC1 n)∧Ob (moC24 g own y)∧Ob (moC6 x y)∧True)))∧((getI (moC9 own) (moC8 x) !=g)=false→(∃ (y:Nat),Ob (y≤n∧lsL g own y=[])∧Ob (n-y<n-x)∧(Ob (moC19 l)∧Ob (moC3 b n c)∧Ob (moC0 b n)∧Ob (moC12 xl)∧Ob (moC15 own)∧True)∧Ob (ptr0 2=ptr0 2)∧Ob (false=false)∧Ob (g=g)∧Ob (ptr0 3=ptr0 3)∧Ob (moC1 n)∧Ob moC28∧Ob (moC6 x y)∧True)∨∃ (y:Nat),Ob (y≤n∧lsL g own y≠[])∧Ob (n-y<n-x)∧(Ob (moC16 l)∧Ob (moC3 b n c)∧Ob (moC0 b n)∧Ob (moC10 xl)∧Ob (moC13 own)∧False)∧Ob (ptr0 2=ptr0 2)∧Ob (false=false)∧Ob (g=g)∧Ob (ptr0 3=ptr0 3)∧Ob (moC1 n)∧Ob (Value.slice none 0 0=Value.slice (some ⟨7,0,some 0⟩) (lsL g own y).length 0)∧Ob (moC6 x y)∧True))∧(decide ((x:Int)<(n:Int))=false→∃ (yq:Unit),Ob True∧(Ob (moC7 l)∧Ob (moC3 b n c)∧Ob (moC0 b n)∧Ob (moC5 xl)∧Ob (moC4 own)∧False)∧Ob (ptr0 2=ptr0 2)∧Ob (false=false)∧Ob (ptr0 3=ptr0 3)∧Ob (moC1 n)∧Ob (Value.slice none 0 0=Value.slice (some ⟨6,0,some 0⟩) (del g own).length 0)∧True))∧∀ (x:Nat),Ob (x≤n∧lsL g own x≠[])→(decide ((x:Int)<(n:Int))=true→Ob ((0:Int)≤(x:Int)∧(x:Int)<(n:Int)∧true=true)∧Ob (moC27 own x)∧((getI (moC9 own) (moC8 x) !=g)=true→Ob ((0:Int)≤(x:Int)∧(x:Int)<(n:Int)∧true=true)∧Ob (moC27 own x)∧(decide (g<getI (moC9 own) (moC8 x))=true→Ob (moC18 g own x)∧(False∨(∃ (y:Nat),Ob (y≤n∧lsL g own y≠[])∧Ob (n-y<n-x)∧(Ob (moC7 l)∧Ob (moC3 b n c)∧Ob (moC0 b n)∧Ob (moC5 xl)∧Ob (moC4 own)∧Ob (moC26 g own y)∧True)∧Ob (ptr0 2=ptr0 2)∧Ob (false=false)∧Ob (g=g)∧Ob (ptr0 3=ptr0 3)∧Ob (moC1 n)∧Ob (moC21 g own x y)∧Ob (moC6 x y)∧True)∨∃ (y:Nat),Ob (y≤n∧lsL g own y≠[])∧Ob (n-y<n-x)∧(Ob (moC17 l)∧Ob (moC3 b n c)∧Ob (moC0 b n)∧Ob (moC11 xl)∧Ob (moC14 own)∧Ob (AObj.rw (List.map moC2 (lsL g own x)++[vi (IntKind.i64.wrap (getI (moC9 own) (moC8 x)-(1:Int)))]) (some 1)=AObj.rw (List.map (nmap1 (nsub 6 8)) (List.map moC2 (lsL g own y))) (some 1)∧AObj.sc 7 (moC20 g own y)=true)∧True)∧Ob (ptr0 2=ptr0 2)∧Ob (false=false)∧Ob (g=g)∧Ob (ptr0 3=ptr0 3)∧Ob (moC1 n)∧Ob (moC22 g own x y)∧Ob (moC6 x y)∧True))∧(decide (g<getI (moC9 own) (moC8 x))=false→Ob (moC18 g own x)∧(False∨(∃ (y:Nat),Ob (y≤n∧lsL g own y≠[])∧Ob (n-y<n-x)∧(Ob (moC7 l)∧Ob (moC3 b n c)∧Ob (moC0 b n)∧Ob (moC5 xl)∧Ob (moC4 own)∧Ob (moC26 g own y)∧True)∧Ob (ptr0 2=ptr0 2)∧Ob (false=false)∧Ob (g=g)∧Ob (ptr0 3=ptr0 3)∧Ob (moC1 n)∧Ob (moC21 g own x y)∧Ob (moC6 x y)∧True)∨∃ (y:Nat),Ob (y≤n∧lsL g own y≠[])∧Ob (n-y<n-x)∧(Ob (moC17 l)∧Ob (moC3 b n c)∧Ob (moC0 b n)∧Ob (moC11 xl)∧Ob (moC14 own)∧Ob (AObj.rw (List.map moC2 (lsL g own x)++[vi (getI (moC9 own) (moC8 x))]) (some 1)=AObj.rw (List.map (nmap1 (nsub 6 8)) (List.map moC2 (lsL g own y))) (some 1)∧AObj.sc 7 (moC20 g own y)=true)∧True)∧Ob (ptr0 2=ptr0 2)∧Ob (false=false)∧Ob (g=g)∧Ob (ptr0 3=ptr0 3)∧Ob (moC1 n)∧Ob (moC22 g own x y)∧Ob (moC6 x y)∧True)))∧((getI (moC9 own) (moC8 x) !=g)=false→False∨(∃ (y:Nat),Ob (y≤n∧lsL g own y≠[])∧Ob (n-y<n-x)∧(Ob (moC7 l)∧Ob (moC3 b n c)∧Ob (moC0 b n)∧Ob (moC5 xl)∧Ob (moC4 own)∧Ob (AObj.rw (List.map moC2 (lsL g own x)) (some 1)=AObj.rw (List.map (nmap1 idS) (List.map moC2 (lsL g own y))) (some 1)∧AObj.sc 7 (moC20 g own y)=true)∧True)∧Ob (ptr0 2=ptr0 2)∧Ob (false=false)∧Ob (g=g)∧Ob (ptr0 3=ptr0 3)∧Ob (moC1 n)∧Ob (Value.slice (some ⟨6,0,some 0⟩) (lsL g own x).length 0=Value.slice (some ⟨6,0,some 0⟩) (lsL g own y).length 0)∧Ob (moC6 x y)∧True)∨∃ (y:Nat),Ob (y≤n∧lsL g own y≠[])∧Ob (n-y<n-x)∧(Ob (moC17 l)∧Ob (moC3 b n c)∧Ob (moC0 b n)∧Ob (moC11 xl)∧Ob (moC14 own)∧False)∧Ob (ptr0 2=ptr0 2)∧Ob (false=false)∧Ob (g=g)∧Ob (ptr0 3=ptr0 3)∧Ob (moC1 n)∧Ob (Value.slice (some ⟨6,0,some 0⟩) (lsL g own x).length 0=Value.slice (some ⟨8,0,some 0⟩) (lsL g own y).length 0)∧Ob (moC6 x y)∧True))∧(decide ((x:Int)<(n:Int))=false→∃ (yqq:Unit),Ob True∧(Ob (moC7 l)∧Ob (moC3 b n c)∧Ob (moC0 b n)∧Ob (moC5 xl)∧Ob (moC4 own)∧Ob (AObj.rw (List.map moC2 (lsL g own x)) (some 1)=AObj.rw (List.map (nmap1 idS) (List.map moC2 (del g own))) (some 1)∧AObj.sc 7 (AObj.rw (List.map moC2 (del g own)) (some 1))=true)∧True)∧Ob (ptr0 2=ptr0 2)∧Ob (false=false)∧Ob (ptr0 3=ptr0 3)∧Ob (moC1 n)∧Ob (Value.slice (some ⟨6,0,some 0⟩) (lsL g own x).length 0=Value.slice (some ⟨6,0,some 0⟩) (del g own).length 0)∧True)
theorem moC_eq : moC = fun (b g : Int) (n c : Nat) (l xl own : List Int) => vc Try.prog moE3 2 186 true (moI b g n c l xl own) (headC 1 (tailC 1 (tailC 10 moB))) [] (moF3 g n) (moH3 b n c l xl own) (cutK 2 idS (fun _ : Unit => True) (fun _ => moF4 n (del g own).length) (fun _ => moH4 b n c l xl own (del g own)) moK) := by kernel_rfl
noncomputable def moD0  := (Value.int IntKind.i64)
noncomputable def moD1 (l:List Int) := (intsOf (List.map moD0 l))
noncomputable def moD2 (xl:List Int) := (intsOf (List.map moD0 xl))
noncomputable def moD3  : Prop := (Value.bool false = Value.bool true)
noncomputable def moD4  : Prop := (Value.bool true = Value.bool true)
noncomputable def moD5 (b:Int) (n:Nat) (xl:List Int):Bool := (lerF b (n-1) (moD2 xl)==(0:Int))
noncomputable def moD :=
fun (b:Int) (n c:Nat) (l xl own less:List Int)↦Ob (Asks (some (((true=true∧Flat (List.map moD0 l))∧true=true∧Flat (List.map moD0 own))∧(okL (Leaf.view (List.map moD0 l) n false)∧okM (Leaf.view (List.map moD0 own) n false))∧n≤1000)))∧∀ (s:Value) (o:AObj),Ob (Asks (some (((true=true∧Flat (List.map moD0 xl))∧true=true∧Flat (List.map moD0 less))∧(okL (Leaf.view (List.map moD0 xl) (n-1) false)∧okM (Leaf.view (List.map moD0 less) less.length false))∧less.length≤1000)))∧∀ (s:Value) (o:AObj),Ob ((true=true∧Flat (List.map moD0 l))∧okL (Leaf.view (List.map moD0 l) n false)∧errP b n (moD1 l)=(0:Int))∧Ob ((true=true∧Flat (List.map moD0 xl))∧okL (Leaf.view (List.map moD0 xl) (n-1) false)∧errP b (n-1) (moD2 xl)=(0:Int))∧((errR b n (moD1 l) (intsOf (List.map moD0 own)) !=(0:Int))=false→((errR b (n-1) (moD2 xl) (intsOf (List.map moD0 less))==(0:Int))=true→((lerF b n (moD1 l) !=(0:Int))=false→((moD5 b n xl)=true→(decide (lenF b (n-1) (moD2 xl)≤lenF b n (moD1 l))=true→Ob True∧True∧Ob moD4)∧(decide (lenF b (n-1) (moD2 xl)≤lenF b n (moD1 l))=false→True∧Ob moD3))∧((moD5 b n xl)=false→True∧Ob moD3))∧((lerF b n (moD1 l) !=(0:Int))=true→Ob True∧True∧Ob moD4))∧((errR b (n-1) (moD2 xl) (intsOf (List.map moD0 less))==(0:Int))=false→True∧Ob moD3))∧((errR b n (moD1 l) (intsOf (List.map moD0 own)) !=(0:Int))=true→((lerF b n (moD1 l) !=(0:Int))=false→((moD5 b n xl)=true→(decide (lenF b (n-1) (moD2 xl)≤lenF b n (moD1 l))=true→Ob True∧True∧Ob moD4)∧(decide (lenF b (n-1) (moD2 xl)≤lenF b n (moD1 l))=false→True∧Ob moD3))∧((moD5 b n xl)=false→True∧Ob moD3))∧((lerF b n (moD1 l) !=(0:Int))=true→Ob True∧True∧Ob moD4))
theorem moD_eq : moD = fun (b : Int) (n c : Nat) (l xl own less : List Int) => vc Try.prog moE4 2 186 true (fun _ => none) (tailC 1 (tailC 1 (tailC 10 moB))) [] (moF4 n less.length) (moH4 b n c l xl own less) moK := by kernel_rfl
theorem set_pl {l : List Int} {i j : Nat} {v : Int} : pl (l.set (i * 2 + 1) v) j = pl l j := by
 unfold pl
 rw [List.getD_eq_getElem?_getD,List.getElem?_set_ne (by omega),← List.getD_eq_getElem?_getD]
theorem set_tw {l : List Int} {i j : Nat} {v : Int} (h : i * 2 + 1 < l.length) : tw (l.set (i * 2 + 1) v) j = if j = i then v else tw l j := by
 unfold tw
 split
 · rename_i e; subst e
   rw [List.getD_eq_getElem?_getD,List.getElem?_set_self h]; rfl
 · rw [List.getD_eq_getElem?_getD,List.getElem?_set_ne (by omega),← List.getD_eq_getElem?_getD]
theorem mo_new {b w k : Int} {n : Nat} {l : List Int} (hP : errP b n l = 0) (hl : l.length = n * 2) (hw : 0≤w∧w < 65536) (hk : 0≤k∧k < 256) : ∃ (i : Nat) (v : Int),i < n∧(IntKind.i64.wrap k).tmod (n : Int) = (i : Int) ∧
   (if IntKind.i64.wrap (tw l i + IntKind.i64.wrap w) < 9000 then IntKind.i64.wrap (tw l i + IntKind.i64.wrap w) else 9000) = v∧errP b n (l.set (i * 2 + 1) v) = 0∧cntF b n l≤cntF b n (l.set (i * 2 + 1) v) := by
 obtain ⟨⟨n1,n2⟩,hr,ho⟩ := errP_cases hP
 have e1 : (IntKind.i64.wrap k).tmod (n : Int) = k % n := by rw [wrap_in (by omega) (by omega),Int.tmod_eq_emod_of_nonneg hk.1]
 have e2 := Int.emod_nonneg k (show (n : Int) ≠ 0 by omega)
 have e3 := Int.emod_lt_of_pos k (show 0 < (n : Int) by omega)
 obtain ⟨i,hi⟩ := Int.eq_ofNat_of_zero_le e2
 have hin : i < n := by omega
 have ht := (hr.1 i hin).2
 rw [hi] at e1
 refine ⟨i,_,hin,e1,rfl,?_⟩
 rw [wrap_in (x := w) (by omega) (by omega),wrap_in (x := tw l i + w) (by omega) (by omega)]
 have hv : tw l i≤(if tw l i + w < 9000 then tw l i + w else 9000)∧(if tw l i + w < 9000 then tw l i + w else 9000)≤9000 := by split <;> omega
 generalize (if tw l i + w < 9000 then tw l i + w else 9000) = v at hv ⊢
 have st : ∀ j,tw (l.set (i * 2 + 1) v) j = if j = i then v else tw l j := fun j => set_tw (by omega)
 refine ⟨errP_ok ⟨n1,n2⟩ ⟨fun j hj => ?_,hr.2⟩ fun j hj => ?_,cnt_mono hP (fun j _ => set_pl) fun j _ => ?_⟩
 · rw [set_pl,st]
   have := hr.1 j hj
   split <;> omega
 · rw [set_pl,set_pl]; exact ho j hj
 · rw [st]; split
   · rename_i e; subst e; exact hv.1
   · exact Int.le_refl _
theorem moD_ok (b : Int) (n c : Nat) (l xl own less : List Int) (hl : l.length = n * 2) (hx : xl.length = (n - 1) * 2) (ho : own.length = n) (hs : less.length = n - 1) (hn : 2≤n∧n≤10)
   (hP : errP b n l = 0) (hQ : errP b (n - 1) xl = 0) (h1 : errR b n l own = 0→errR b (n - 1) xl less = 0) (h2 : lerF b n l = 0→lerF b (n - 1) xl = 0∧lenF b (n - 1) xl≤lenF b n l) : moD b n c l xl own less := by
 unfold moD moD5 moD4 moD3 moD2 moD1 moD0
 simp only [SS,reduceCtorEq,Arg.list,Arg.num,Arg.flag,intOf,andP,Nat.reduceLeDiff,Nat.reduceAdd,Nat.reduceMul,Nat.reduceLT,ckAsk,CK.ask,pl_fold,tw_fold,getI_2b,intAt_2b,rw2,rws,idS]
 have om : okM (Leaf.view (List.map (Value.int .i64) own) n false) := by rw [← ho]; exact okM_ints (by omega)
 exact ⟨⟨⟨flat_ints,flat_ints⟩,⟨okL_ints hl (by omega),om⟩,by omega⟩,⟨⟨flat_ints,flat_ints⟩,⟨okL_ints hx (by omega),okM_ints (by omega)⟩,by omega⟩,⟨flat_ints,okL_ints hl (by omega),hP⟩,⟨flat_ints,okL_ints hx (by omega),hQ⟩,
   fun e1 => ⟨fun e2 e3 => ⟨fun e4 h => h (h2 e3).2,fun h => h (h2 e3).1⟩,fun h => h (h1 e1)⟩,fun _ e3 => ⟨fun e4 h => h (h2 e3).2,fun h => h (h2 e3).1⟩⟩
theorem moC_ok (b g : Int) (n c : Nat) (l xl own : List Int) (ho : own.length = n) (hn : 2≤n∧n≤10) (hb : ∀ i,i < n→0≤own.getD i 0∧own.getD i 0 < n) (hd : del g own ≠ []) : moC b g n c l xl own := by
 unfold moC moC28 moC27 moC26 moC25 moC24 moC23 moC22 moC21 moC20 moC19 moC18 moC17 moC16 moC15 moC14 moC13 moC12 moC11 moC10 moC9 moC8 moC7 moC6 moC5 moC4 moC3 moC2 moC1 moC0
 simp only [SS,reduceCtorEq,Arg.list,Arg.num,Arg.flag,intOf,andP,Nat.reduceLeDiff,Nat.reduceAdd,Nat.reduceMul,Nat.reduceLT,ckAsk,CK.ask,pl_fold,tw_fold,getI_2b,intAt_2b,rw2,rws,idS]
 have st : ∀ x,x < n→lsL g own (x + 1) = lsL g own x ++ del g [own.getD x 0] := fun x hx => by unfold lsL; rw [take_succ' (by omega),del_append]
 have se : ∀ x,x < n→own.getD x 0 = g→lsL g own (x + 1) = lsL g own x := fun x hx h => by rw [st x hx,h,del_same,List.append_nil]
 have sn : ∀ x,x < n→¬ own.getD x 0 = g→lsL g own (x + 1) = lsL g own x ++ [dn g (own.getD x 0)] := fun x hx h => by rw [st x hx,del_other h]
 have sN : lsL g own n = del g own := by unfold lsL; rw [List.take_of_length_le (by omega)]
 have ll : ∀ x,(lsL g own x).length≤n := fun x => by
   unfold lsL del
   rw [List.length_map]
   exact Nat.le_trans (List.length_filter_le _ _) (by rw [List.length_take]; omega)
 have ws : ∀ x : Nat,x < n→IntKind.i64.wrap ((x : Int) + 1) = ((x + 1 : Nat) : Int) := fun x hx => wrap_succ (n := n) hx (by omega)
 have wd : ∀ x,x < n→IntKind.i64.wrap (own.getD x 0 - 1) = own.getD x 0 - 1 := fun x hx => wrap_in (by have := hb x hx; omega) (by have := hb x hx; omega)
 refine ⟨⟨0,⟨by omega,rfl⟩,rfl⟩,fun x ⟨hx,h0⟩ => ⟨fun hlt => ?_,fun hge => ?_⟩,fun x ⟨hx,h0⟩ => ⟨fun hlt => ?_,fun hge => ?_⟩⟩
 · have hlt' : x < n := by omega
   have e : ¬ own.getD x 0 = g→lsL g own (x + 1) = [dn g (own.getD x 0)] := fun hne => by rw [sn x hlt' hne,h0]; rfl
   exact ⟨by omega,by omega,fun hne => ⟨by omega,by omega,fun hg => ⟨x + 1,⟨by omega,by rw [e hne]; simp⟩,by omega,by rw [e hne,wd x hlt',dn,if_pos hg]; rfl,by rw [e hne]; rfl,ws x hlt'⟩,
     fun hg => ⟨x + 1,⟨by omega,by rw [e hne]; simp⟩,by omega,by rw [e hne,dn,if_neg hg]; rfl,by rw [e hne]; rfl,ws x hlt'⟩⟩,fun he => ⟨x + 1,⟨by omega,by rw [se x hlt' he]; exact h0⟩,by omega,ws x hlt'⟩⟩
 · obtain rfl : x = n := by omega
   exact hd (by rw [← sN]; exact h0)
 · have hlt' : x < n := by omega
   have lx := ll x
   exact ⟨by omega,by omega,fun hne => ⟨by omega,by omega,fun hg => ⟨⟨by omega,by omega⟩,x + 1,⟨by omega,by rw [sn x hlt' hne]; simp⟩,by omega,by rw [sn x hlt' hne,wd x hlt',dn,if_pos hg],by rw [sn x hlt' hne,List.length_append]; rfl,ws x hlt'⟩,
     fun hg => ⟨⟨by omega,by omega⟩,x + 1,⟨by omega,by rw [sn x hlt' hne]; simp⟩,by omega,by rw [sn x hlt' hne,dn,if_neg hg],by rw [sn x hlt' hne,List.length_append]; rfl,ws x hlt'⟩⟩,
     fun he => ⟨x + 1,⟨by omega,by rw [se x hlt' he]; exact h0⟩,by omega,by rw [se x hlt' he],by rw [se x hlt' he],ws x hlt'⟩⟩
 · obtain rfl : x = n := by omega
   exact ⟨by rw [sN],by rw [sN]⟩
theorem moT_ok (b : Int) (n c : Nat) (l : List Int) (bv : Value) (X : AObj) (P : Heap→Prop) (o : Nat→Bool) (hl : l.length = n * 2) (hn : 2≤n∧n≤10) (hc : n≤c) (hH : ∀ T,P (ros l :: X :: T)) : moT b n c l bv X P o := by
 unfold moT moT6 moT5 moT4 moT3 moT2 moT1 moT0
 simp only [SS,reduceCtorEq,Arg.list,Arg.num,Arg.flag,intOf,andP,Nat.reduceLeDiff,Nat.reduceAdd,Nat.reduceMul,Nat.reduceLT,ckAsk,CK.ask,pl_fold,tw_fold,getI_2b,intAt_2b,rw2,rws,idS]
 have e1 : ((n : Int) - 1).toNat = n - 1 := by omega
 have e2 : IntKind.i64.wrap ((n : Int) - 1 + 1) = (n : Int) := by rw [show (n : Int) - 1 + 1 = n by omega]; exact wrap_in (by omega) (by omega)
 have e3 : (List.take ((n - 1) * 2) (List.map (Value.int .i64) l)).length = (n - 1) * 2 := by rw [List.length_take,List.length_map]; omega
 simp only [e1,e2,e3,Int.toNat_natCast,Nat.sub_self,Nat.zero_mul,List.take_zero,Nat.add_zero,List.append_nil,List.nil_append,Option.getD_some,List.length_nil,true_and,and_true]
 refine ⟨⟨hc,by omega,by omega⟩,⟨⟨by omega,by omega,by omega,by omega⟩,by omega⟩,⟨hc,by omega,by omega⟩,⟨by split <;> omega,by omega,by omega⟩,hH _,?_⟩
 unfold xL
 rw [List.drop_of_length_le (by omega),List.append_nil,List.map_take]
theorem moZ_ok (b : Int) (n c : Nat) (l : List Int) (bv : Value) (X : AObj) (P : Heap→Prop) (o : Nat→Bool) (hl : l.length = n * 2) (hn : 2≤n∧n≤10) (hc : n≤c) (hH : ∀ T,P (ros l :: X :: T)) : moZ b n c l bv X P o := by
 unfold moZ moZ3 moZ2 moZ1 moZ0
 simp only [SS,reduceCtorEq,Arg.list,Arg.num,Arg.flag,intOf,andP,Nat.reduceLeDiff,Nat.reduceAdd,Nat.reduceMul,Nat.reduceLT,ckAsk,CK.ask,pl_fold,tw_fold,getI_2b,intAt_2b,rw2,rws,idS]
 have e2 : IntKind.i64.wrap (0 + 1) = 1 := wrap_in (by omega) (by omega)
 have e3 : List.take ((n - 1) * 2) (List.drop 2 (List.map (Value.int .i64) l)) = List.drop 2 (List.map (Value.int .i64) l) := List.take_of_length_le (by rw [List.length_drop,List.length_map]; omega)
 simp only [if_neg (show ¬ c = 1 by omega),e2,e3,List.length_drop,List.length_map,List.nil_append,Option.getD_some,true_and]
 refine ⟨⟨hc,by omega,by omega⟩,⟨hc,by omega,by omega⟩,⟨⟨by omega,by omega,by omega,by omega,by omega⟩,by omega⟩,hH _,?_⟩
 rw [← List.map_drop]; rfl
theorem moAN_ok (b w k : Int) (n c : Nat) (l : List Int) (z : Bool) (hl : l.length = n * 2) (hw : 0≤w∧w < 65536) (hk : 0≤k∧k < 256) : moAN b w k n c l z := by
 unfold moAN moAN12 moAN11 moAN10 moAN9 moAN8 moAN7 moAN6 moAN5 moAN4 moAN3 moAN2 moAN1 moAN0
 simp only [SS,reduceCtorEq,Arg.list,Arg.num,Arg.flag,intOf,andP,Nat.reduceLeDiff,Nat.reduceAdd,Nat.reduceMul,Nat.reduceLT,ckAsk,CK.ask,pl_fold,tw_fold,getI_2b,intAt_2b,rw2,rws,idS]
 intro h14
 refine ⟨⟨flat_ints,okL_ints hl (by omega)⟩,fun hP => ?_⟩
 obtain ⟨⟨n1,n2⟩,hr,ho⟩ := errP_cases hP
 obtain ⟨i,v,i1,i2,i3,i4,i5⟩ := mo_new (w := w) (k := k) hP hl hw hk
 have tk : List.take (n * 2) (List.map (Value.int .i64) l) = List.map (Value.int .i64) l := List.take_of_length_le (by rw [List.length_map]; omega)
 simp only [tk,List.nil_append,i2,Int.toNat_natCast,getI_map,intAt_map,putL_int,intsOf_map,List.length_map]
 rw [show l.getD (i * 2 + 1) 0 = tw l i from rfl,i3]
 exact ⟨⟨flat_ints,okL_ints hl (by omega),hP⟩,⟨⟨by omega,by omega,by omega,by omega,by omega⟩,by omega⟩,by omega,by omega,by omega,by omega,by omega,⟨flat_ints,okL_ints (by rw [List.length_set]; exact hl) (by omega),i4⟩,fun h => absurd h (by omega),fun _ h2 => ⟨fun hz => ⟨⟨by omega,hP⟩,by rw [hz]; exact wrap_in (by omega) (by omega)⟩,fun hz => ⟨⟨by omega,hP⟩,by rw [hz]; rfl⟩⟩⟩
theorem moAH_ok (b w k : Int) (n c : Nat) (l : List Int) (z : Bool) (d : Nat) (s : Option Nat) (hl : l.length = n * 2) (hw : 0≤w∧w < 65536) (hk : 0≤k∧k < 256) : moAH b w k n c l z d s := by
 unfold moAH moAH12 moAH11 moAH10 moAH9 moAH8 moAH7 moAH6 moAH5 moAH4 moAH3 moAH2 moAH1 moAH0
 simp only [SS,reduceCtorEq,Arg.list,Arg.num,Arg.flag,intOf,andP,Nat.reduceLeDiff,Nat.reduceAdd,Nat.reduceMul,Nat.reduceLT,ckAsk,CK.ask,pl_fold,tw_fold,getI_2b,intAt_2b,rw2,rws,idS]
 intro h14
 refine ⟨⟨flat_ints,okL_ints hl (by omega)⟩,fun hP => ?_⟩
 obtain ⟨⟨n1,n2⟩,hr,ho⟩ := errP_cases hP
 obtain ⟨i,v,i1,i2,i3,i4,i5⟩ := mo_new (w := w) (k := k) hP hl hw hk
 have tk : List.take (n * 2) (List.map (Value.int .i64) l) = List.map (Value.int .i64) l := List.take_of_length_le (by rw [List.length_map]; omega)
 simp only [tk,List.nil_append,i2,Int.toNat_natCast,getI_map,intAt_map,putL_int,intsOf_map,List.length_map]
 rw [show l.getD (i * 2 + 1) 0 = tw l i from rfl,i3]
 exact ⟨⟨flat_ints,okL_ints hl (by omega),hP⟩,⟨⟨by omega,by omega,by omega,by omega,by omega⟩,by omega⟩,by omega,by omega,by omega,by omega,by omega,⟨flat_ints,okL_ints (by rw [List.length_set]; exact hl) (by omega),i4⟩,fun h => absurd h (by omega),fun _ h2 => ⟨fun hz => ⟨⟨by omega,hP⟩,by rw [hz]; exact wrap_in (by omega) (by omega)⟩,fun hz => ⟨⟨by omega,hP⟩,by rw [hz]; rfl⟩⟩⟩
theorem moAV_ok (b w k : Int) (n c : Nat) (l : List Int) (z : Bool) (d : Nat) (q : List Int) (hl : l.length = n * 2) (hw : 0≤w∧w < 65536) (hk : 0≤k∧k < 256) : moAV b w k n c l z d q := by
 unfold moAV moAV13 moAV12 moAV11 moAV10 moAV9 moAV8 moAV7 moAV6 moAV5 moAV4 moAV3 moAV2 moAV1 moAV0
 simp only [SS,reduceCtorEq,Arg.list,Arg.num,Arg.flag,intOf,andP,Nat.reduceLeDiff,Nat.reduceAdd,Nat.reduceMul,Nat.reduceLT,ckAsk,CK.ask,pl_fold,tw_fold,getI_2b,intAt_2b,rw2,rws,idS]
 intro h14
 refine ⟨⟨flat_ints,okL_ints hl (by omega)⟩,fun hP => ?_⟩
 obtain ⟨⟨n1,n2⟩,hr,ho⟩ := errP_cases hP
 obtain ⟨i,v,i1,i2,i3,i4,i5⟩ := mo_new (w := w) (k := k) hP hl hw hk
 have tk : List.take (n * 2) (List.map (Value.int .i64) l) = List.map (Value.int .i64) l := List.take_of_length_le (by rw [List.length_map]; omega)
 simp only [tk,List.nil_append,i2,Int.toNat_natCast,getI_map,intAt_map,putL_int,intsOf_map,List.length_map]
 rw [show l.getD (i * 2 + 1) 0 = tw l i from rfl,i3]
 exact fun q40 => ⟨⟨flat_ints,okL_ints hl (by omega),hP⟩,⟨⟨by omega,by omega,by omega,by omega,by omega⟩,by omega⟩,by omega,by omega,by omega,by omega,by omega,⟨flat_ints,okL_ints (by rw [List.length_set]; exact hl) (by omega),i4⟩,fun h => absurd h (by omega),fun _ h2 => ⟨fun hz => ⟨⟨by omega,hP,by omega⟩,by rw [hz]; exact wrap_in (by omega) (by omega)⟩,fun hz => ⟨⟨by omega,hP,by omega⟩,by rw [hz]; rfl⟩⟩⟩
theorem moNN_ok (b w k : Int) (z : Bool) : moNN b w k z := by
 unfold moNN moNN0
 simp only [SS,reduceCtorEq,Arg.list,Arg.num,Arg.flag,intOf,andP,Nat.reduceLeDiff,Nat.reduceAdd,Nat.reduceMul,Nat.reduceLT]
theorem moNH_ok (b w k : Int) (z : Bool) (d : Nat) (t : Option Nat) : moNH b w k z d t := by
 unfold moNH moNH0
 simp only [SS,reduceCtorEq,Arg.list,Arg.num,Arg.flag,intOf,andP,Nat.reduceLeDiff,Nat.reduceAdd,Nat.reduceMul,Nat.reduceLT]
theorem moNV_ok (b w k : Int) (z : Bool) (d : Nat) (q : List Int) : moNV b w k z d q := by
 unfold moNV moNV0
 simp only [SS,reduceCtorEq,Arg.list,Arg.num,Arg.flag,intOf,andP,Nat.reduceLeDiff,Nat.reduceAdd,Nat.reduceMul,Nat.reduceLT]
theorem moHN_ok (b w k : Int) (z : Bool) (c : Nat) (s : Option Nat) : moHN b w k z c s := by
 unfold moHN moHN0
 simp only [SS,reduceCtorEq,Arg.list,Arg.num,Arg.flag,intOf,andP,Nat.reduceLeDiff,Nat.reduceAdd,Nat.reduceMul,Nat.reduceLT]
theorem moHH_ok (b w k : Int) (z : Bool) (c : Nat) (s : Option Nat) (d : Nat) (t : Option Nat) : moHH b w k z c s d t := by
 unfold moHH moHH0
 simp only [SS,reduceCtorEq,Arg.list,Arg.num,Arg.flag,intOf,andP,Nat.reduceLeDiff,Nat.reduceAdd,Nat.reduceMul,Nat.reduceLT]
theorem moHV_ok (b w k : Int) (z : Bool) (c : Nat) (s : Option Nat) (d : Nat) (q : List Int) : moHV b w k z c s d q := by
 unfold moHV moHV0
 simp only [SS,reduceCtorEq,Arg.list,Arg.num,Arg.flag,intOf,andP,Nat.reduceLeDiff,Nat.reduceAdd,Nat.reduceMul,Nat.reduceLT]
theorem xL_len {n g : Nat} {l : List Int} (hl : l.length = n * 2) (hn : 2≤n) (hg : g = 0∨g = n - 1) : (xL g l).length = (n - 1) * 2 := by
 unfold xL
 rw [List.length_append,List.length_take,List.length_drop]
 rcases hg with rfl | rfl <;> omega
theorem xL_at {n g j : Nat} {l : List Int} (hl : l.length = n * 2) (hn : 2≤n) (hg : g = 0∨g = n - 1) (hj : j < (n - 1) * 2) : (xL g l).getD j 0 = l.getD (if g = 0 then j + 2 else j) 0 := by
 unfold xL
 rcases hg with rfl | rfl
 · rw [if_pos rfl,Nat.zero_mul,List.take_zero,List.nil_append,List.getD_eq_getElem?_getD,List.getD_eq_getElem?_getD,List.getElem?_drop,Nat.add_comm]
 · rw [if_neg (by omega),List.drop_of_length_le (by omega),List.append_nil,List.getD_eq_getElem?_getD,List.getD_eq_getElem?_getD,List.getElem?_take_of_lt hj]
theorem xL_less {n g : Nat} {l : List Int} (hl : l.length = n * 2) (hn : 2≤n) (hg : g = 0∨g = n - 1) : Less n l (xL g l) g where
 two := hn
 ends := hg
 pl i hi := by
   unfold pl
   rw [xL_at hl hn hg (by omega)]
   congr 1
   split <;> omega
 tw i hi := by
   unfold tw
   rw [xL_at hl hn hg (by omega)]
   congr 1
   split <;> omega
abbrev moP (c : Code) (H : Heap) (F : Fr) : Prop := VW 2 186 none Try.prog c H F (fun e F H => ∃ D,moK e D F H)
theorem moU1_ok : CtOk Try.prog moU1 := ((CtOk.none.add worksG_ok).add rcpG_ok).add coG_ok
theorem moE0_ok : VOk Try.prog moE0 := ⟨moU1_ok,ccIn_ok fnD_ok mixed (inl_one Try.func45),E0_ok.yc,prE1_ok.orc⟩
theorem moE3_ok : VOk Try.prog moE3 := ⟨CtOk.none,E0_ok.cc,E0_ok.yc,prE1_ok.orc⟩
theorem moE4_ok : VOk Try.prog moE4 := ⟨(CtOk.none.add worksG_ok).add shG_ok,crAny_ok,E0_ok.yc,prE1_ok.orc⟩
theorem aStay_ok {P : Program} {H : Heap} {tys : Array TypeId} {s x v : Value} {φ : Prop} (h : aStay P tys s x = some (φ,v)) (hφ : φ) : aAppend P H tys s x = some (v,H) := by
 unfold aStay at h
 split at h <;> try (cases h; done)
 rename_i t0 t1 h0 h1
 split at h <;> try (cases h; done)
 rename_i elem e1 a sLen sCap xb n xc hu0 hu1
 split at h <;> cases h
 rename_i i z hs hi hz
 obtain ⟨rfl,k1,k2,k3,k4⟩ := hφ
 have hf : aFirst H i.size 0 (.slice xb 0 xc) = some [] := by
   unfold aFirst
   cases xb with
   | none => rfl
   | some a => simp
 unfold aAppend
 simp only [h0,h1,hu0,hu1,hi,hz,Option.bind_some,hf]
 rw [if_pos ⟨by omega,by simpa using k2,k3,by simp⟩]
 simp only [hs]
 rw [if_pos (by omega)]
 rfl
theorem orcAt_ok {P : Program} {k : Nat} : OrcOk P (orcAt P k) := fun env H o φ v H' h hφ => by
 unfold orcAt at h
 split at h <;> try (cases h; done)
 rename_i c hop
 split at h <;> try (cases h; done)
 rename_i hcal
 split at h <;> try (cases h; done)
 split at h <;> try (cases h; done)
 split at h <;> try (cases h; done)
 rename_i s x hargs
 split at h <;> cases h
 rename_i v hr
 unfold evOp
 rw [hop]
 simp only [evCall,hargs,Option.bind_some,hcal,evBuiltin,aStay_ok hr hφ,Option.map_some,outOf]
theorem more_rest {b : Int} {n c g : Nat} {l own : List Int} (hl : l.length = n * 2) (hn : 2≤n) (hg : g = 0∨g = n - 1) (hP : errP b n l = 0) (hm : own ∈ rds n n (lefts b n l) (lefts b n l) []) :
   moP (tailC 1 (tailC 10 moB)) (moH3 b n c l (xL g l) own) (moF3 g n) := by
 obtain ⟨⟨n1,n2⟩,_,_⟩ := errP_cases hP
 have hL := xL_less hl hn hg
 have ww := rds_mem_whole lefts_le _ hm
 have wl := whole_len ww
 have mm := less_mem hL hP hm
 have ml := whole_len (rds_mem_whole lefts_le _ mm)
 have hC := moC_ok b g n c l (xL g l) own wl ⟨hn,n2⟩ (fun i hi => whole_mem ww i (by omega)) (fun h => by rw [h] at ml; simp at ml; omega)
 rw [moC_eq] at hC
 refine vc_cut moE3_ok mixed 1 (ro := none) (split_of (by kernel_rfl)) hC fun _ _ => ?_
 have hD := moD_ok b n c l (xL g l) own (del g own) hl (xL_len hl hn hg) wl ml ⟨hn,n2⟩ hP (less_valid hL hP) (less_err hL hP hm) (less_short hL hP)
 rw [moD_eq] at hD
 exact vc_sound moE4_ok mixed (ro := none) _ [] _ _ _ hD
theorem more_tail {b : Int} {n c : Nat} {l : List Int} {bv : Value} {X : AObj} {P : Heap→Prop} {o : Nat→Bool} (z : Bool) (hl : l.length = n * 2) (hn : 2≤n) (hc : n≤c) (hP : errP b n l = 0) (hH : ∀ T,P (ros l :: X :: T))
   (h46 : ∀ H,P H→Call Try.prog 46 [pierV b (some ⟨0,0,none⟩) n c,bv] H fun v H' => v = newS H.length n∧H' = H ++ [rws (wL n (lefts b n l) o n)]) :
   moP (tailC 10 moB) [ros l,X,boxP b n c] (moFb bv (bif z then (n : Int) - 1 else 0)) := by
 obtain ⟨⟨n1,n2⟩,_,_⟩ := errP_cases hP
 have wm := walked_mem (n := n) (f := lefts b n l) (o := o) lefts_le
 have hct : CtOk Try.prog (moU2 b n c l bv P o) := CtOk.none.add (wkC_ok h46)
 cases z with
 | true =>
   have h := moT_ok b n c l bv X P o hl ⟨hn,n2⟩ hc hH
   rw [moT_eq] at h
   have hE : VOk Try.prog (moE2 b n c l bv P o) := ⟨hct,E0_ok.cc,E0_ok.yc,prE1_ok.orc⟩
   refine vc_cut hE mixed 1 (ro := none) (split_of (by kernel_rfl)) h fun _ _ => ?_
   rw [show ((n : Int) - 1) = ((n - 1 : Nat) : Int) by omega]
   exact more_rest hl hn (.inr rfl) hP wm
 | false =>
   have h := moZ_ok b n c l bv X P o hl ⟨hn,n2⟩ hc hH
   rw [moZ_eq] at h
   have hE : VOk Try.prog (moE2f b n c l bv P o) := ⟨hct,E0_ok.cc,E0_ok.yc,orcOr_ok orcAt_ok prE1_ok.orc⟩
   refine vc_cut hE mixed 1 (ro := none) (split_of (by kernel_rfl)) h fun _ _ => ?_
   exact more_rest (g := 0) hl hn (.inl rfl) hP wm
theorem u8_wfM {n : Int} (h : (Lit.int .u8 n).wf = true) : 0≤n∧n < 256 := by
 simp only [Lit.wf,Bool.and_eq_true,decide_eq_true_eq] at h
 have h1 : IntKind.u8.min = 0 := rfl
 have h2 : IntKind.u8.max = 255 := rfl
 rw [h1,h2] at h
 omega
abbrev psMo : List K3 := [.agg [.int .i64,.rows [.i .i64,.i .i64] true],.one (.rows [.i .u8] true),.one .bool,.one (.int .u8),.one (.int .u16)]
theorem fits_mo {r : List Arg3} (h : fits3 psMo r) : ∃ p lm z k w,r = [p,.one lm,.one (.plain (.bool z)),.one (.plain (.int .u8 k)),.one (.plain (.int .u16 w))]∧fits3 psPT [p]∧(lm = .plain (.slice none 0 0)∨(∃ s,lm = .hole s)∨∃ q : List Int,lm = .view (q.map (.int .u8)) q.length true∧0 < q.length)∧(0≤k∧k < 256)∧0≤w∧w < 65536 := by
 obtain ⟨ls,r,rfl,hg,h⟩ := fits3_agg h
 obtain ⟨lm,r1,rfl,h3,h2⟩ := fits3_one h
 obtain ⟨_,r2,rfl,⟨z,rfl⟩,h4⟩ := fits3_one h2
 obtain ⟨_,r3,rfl,⟨k,rfl,hk⟩,h5⟩ := fits3_one h4
 obtain ⟨_,r4,rfl,⟨w,rfl,hw⟩,h6⟩ := fits3_one h5
 obtain rfl := fits3_nil h6
 refine ⟨.agg ls,lm,z,k,w,rfl,⟨hg,trivial⟩,?_,u8_wfM hk,u16_wf hw⟩
 rcases h3 with h3 | h3 | ⟨cs,n,h3,h4⟩
 · exact .inl h3
 · exact .inr (.inl h3)
 · obtain ⟨m,rfl,e,_⟩ := RowsOk.ints (k := .u8) (m := 1) h4
   rw [Nat.mul_one] at e
   exact .inr (.inr ⟨m,by rw [e]; exact h3,by have := h4.pos; omega⟩)
theorem more_small (r : List Arg3) (hr : fits3 psMo r) (caps : Nat→Nat) (hcaps : caps3 caps 0 r) : Call Try.prog 13 (canon3 caps 0 r) (canonH3 r) isTrue := by
 obtain ⟨p,lm,z,k,w,rfl,hp,hm,hk,hw⟩ := fits_mo hr
 obtain ⟨b,lf,hq,hl⟩ := fits_p hp
 obtain rfl : p = _ := (List.cons.inj hq).1
 rcases hl with rfl | ⟨s,rfl⟩ | ⟨l,n,rfl,hl⟩ <;> rcases hm with rfl | ⟨t,rfl⟩ | ⟨q,rfl,hq0⟩
 · exact Call.ofVc moE0_ok mixed (c := moB) Try.func13 (by kernel_rfl) (cast (congrFun (congrFun (congrFun (congrFun moNN_eq b) w) k) z) (moNN_ok b w k z ))
 · exact Call.ofVc moE0_ok mixed (c := moB) Try.func13 (by kernel_rfl) (cast (congrFun (congrFun (congrFun (congrFun (congrFun (congrFun moNH_eq b) w) k) z) (caps 0)) t) (moNH_ok b w k z (caps 0) t))
 · exact Call.ofVc moE0_ok mixed (c := moB) Try.func13 (by kernel_rfl) (cast (congrFun (congrFun (congrFun (congrFun (congrFun (congrFun moNV_eq b) w) k) z) (caps 0)) q) (moNV_ok b w k z (caps 0) q))
 · exact Call.ofVc moE0_ok mixed (c := moB) Try.func13 (by kernel_rfl) (cast (congrFun (congrFun (congrFun (congrFun (congrFun (congrFun moHN_eq b) w) k) z) (caps 0)) s) (moHN_ok b w k z (caps 0) s))
 · exact Call.ofVc moE0_ok mixed (c := moB) Try.func13 (by kernel_rfl) (cast (congrFun (congrFun (congrFun (congrFun (congrFun (congrFun (congrFun (congrFun moHH_eq b) w) k) z) (caps 0)) s) (caps 1)) t) (moHH_ok b w k z (caps 0) s (caps 1) t))
 · exact Call.ofVc moE0_ok mixed (c := moB) Try.func13 (by kernel_rfl) (cast (congrFun (congrFun (congrFun (congrFun (congrFun (congrFun (congrFun (congrFun moHV_eq b) w) k) z) (caps 0)) s) (caps 1)) q) (moHV_ok b w k z (caps 0) s (caps 1) q))
 · show Call Try.prog 13 [pierV b (some ⟨0,0,none⟩) n (caps 0),nilS,.bool z,.int .u8 k,.int .u16 w] [ros l] isTrue
   refine Call.hole (H := [ros l]) (A := fun v => v = .bool true) (by kernel_rfl) ?_
   have h := moAN_ok b w k n (caps 0) l z hl hw hk
   rw [moAN_eq] at h
   refine Call.ofVW (H := [ros l,.gone]) (args := [pierV b (some ⟨0,0,none⟩) n (caps 0),nilS,.bool z,.int .u8 k,.int .u16 w]) (R := isTrue) Try.func13 (c := moB) (by kernel_rfl) (vc_cut moE0_ok mixed 10 (ro := none) (split_of (by kernel_rfl)) h fun _ hz => ?_)
   exact more_tail (P := fun H => H[0]? = some (ros l)) z hl hz.1 hcaps.1.2.1 hz.2 (fun T => rfl) fun H h0 => by
     obtain ⟨⟨n1,n2⟩,_,_⟩ := errP_cases hz.2
     exact list_at1 (az := [nilS]) rfl h0 (wkN_call b n (caps 0) l hl n2 n1)
 · have h := moAH_ok b w k n (caps 0) l z (caps 1) t hl hw hk
   rw [moAH_eq] at h
   refine Call.ofVW (H := [ros l,.gone]) (args := [pierV b (some ⟨0,0,none⟩) n (caps 0),.slice (some ⟨1,0,t⟩) 0 (caps 1),.bool z,.int .u8 k,.int .u16 w]) (R := isTrue) Try.func13 (c := moB) (by kernel_rfl) (vc_cut moE0_ok mixed 10 (ro := none) (split_of (by kernel_rfl)) h fun _ hz => ?_)
   exact more_tail (P := fun H => H[0]? = some (ros l)∧1 < H.length) z hl hz.1 hcaps.1.2.1 hz.2 (fun T => ⟨rfl,by simp⟩) fun H ⟨h0,h1⟩ => by
     obtain ⟨⟨n1,n2⟩,_,_⟩ := errP_cases hz.2
     exact list_at2 (.inl rfl) (by kernel_rfl) (fun σ hσ => dy_hole σ hσ) h0 (.inl rfl) h1 (wkH_call b n (caps 0) (caps 1) t l hl n2 n1)
 · have h := moAV_ok b w k n (caps 0) l z (caps 1) q hl hw hk
   rw [moAV_eq] at h
   refine Call.ofVW (H := [ros l,roU q]) (args := [pierV b (some ⟨0,0,none⟩) n (caps 0),sl1 q.length (caps 1),.bool z,.int .u8 k,.int .u16 w]) (R := isTrue) Try.func13 (c := moB) (by kernel_rfl) (vc_cut moE0_ok mixed 10 (ro := none) (split_of (by kernel_rfl)) h fun _ hz => ?_)
   exact more_tail (P := fun H => H[0]? = some (ros l)∧H[1]? = some (roU q)) z hl hz.1 hcaps.1.2.1 hz.2.1 (fun T => ⟨rfl,rfl⟩) fun H ⟨h0,h1⟩ => by
     obtain ⟨⟨n1,n2⟩,_,_⟩ := errP_cases hz.2.1
     exact list_at2 (.inr ⟨q,rfl⟩) (by kernel_rfl) (fun σ hσ => dy_hole σ hσ) h0 (.inr h1) (List.getElem?_eq_some_iff.1 h1).1 (wkV_call b n (caps 0) (caps 1) l q hl n2 n1 ⟨hq0,by omega⟩)
theorem more_law {K : Type} : ∀ (H : Heap) (avs : List Value) (ds : List (DataW K)),Still H→ReadsAll Try.prog H Try.f13.params.toList avs ds→Call Try.prog 13 avs H fun v _ => v = .bool true :=
 law_of3 (ps := psMo) (by kernel_rfl) more_small
end Go.Pier.Rd
