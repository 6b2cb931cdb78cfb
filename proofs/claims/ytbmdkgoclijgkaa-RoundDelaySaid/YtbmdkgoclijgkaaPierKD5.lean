import Derived.Test.YtbmdkgoclijgkaaPierKD4
import Derived.KernelRfl
set_option linter.unusedSimpArgs false
set_option linter.unusedVariables false
set_option maxRecDepth 100000
namespace Go.Pier.Rd
open Go Go.Pier Go.Proofs
noncomputable def shL (b : Int) (n f : Nat) (l : List Int) : LS := fdR b n l true empI (rds n n f f [])
noncomputable def lsB : Code := Try.f102.body.getD .skip
theorem inl_two {f g : Nat} {fn gn : Func} {inv inv' : List Value→Heap→Nat→Option LInv} (h : Try.prog.funcs[f]? = some fn) (k : Try.prog.funcs[g]? = some gn) : ∀ e ∈ ([⟨f,fn,inv⟩,⟨g,gn,inv'⟩] : List InlE),Try.prog.funcs[e.f]? = some e.fn := fun e he => by
 rcases List.mem_cons.1 he with rfl | he
 · exact h
 · rw [List.mem_singleton.1 he]; exact k
theorem agg_slot {σ : Nat→Nat} {k n : Nat} {no : Bool} {st : Nat→Int} : nmap σ (.agg (slotV no k n :: I10 st []).toArray) = .agg (slotV no (σ k) n :: I10 st []).toArray := by
 show Value.agg ((slotV no k n :: I10 st []).toArray.map (nmap1 σ)) = _
 rw [List.map_toArray,List.map_cons,nmap1_all rfl]
 cases no <;> rfl
theorem agg_slot_sc {m k n : Nat} {no : Bool} {st : Nat→Int} (hk : k < m) : sc m (.agg (slotV no k n :: I10 st []).toArray) = true := by
 cases no with
 | false => exact agg_sc hk rfl
 | true =>
   show (nilS :: I10 st []).toArray.all (sc1 m) = true
   rw [← Array.all_toList]; rfl
end Go.Pier.Rd
namespace Go.Pier.Rd
open Go Go.Pier Go.Proofs
def LeastOf (b : Int) (l : List Int) (g : (Nat→Int)→Bool) (N : (Nat→Int)→Int) (r : List (List Int)) (s : LS) : Prop :=
 (s.no = true→s.st = empI∧∀ m ∈ r,g (stp b l m) = false)∧(s.no = false→(∃ m ∈ r,g (stp b l m) = true∧s.st = stp b l m)∧∀ m ∈ r,g (stp b l m) = true→N s.st≤N (stp b l m))
theorem foldR_least {b : Int} {l : List Int} {g : (Nat→Int)→Bool} {N : (Nat→Int)→Int} : ∀ (r r0 : List (List Int)) (s : LS),LeastOf b l g N r0 s→LeastOf b l g N (r0 ++ r) (foldR b l g N s r)
 | [],r0,s,h => by rw [List.append_nil]; exact h
 | m :: r,r0,s,h => by
   suffices k : LeastOf b l g N (r0 ++ [m]) (stepL g N s (stp b l m)) by
     have := foldR_least r (r0 ++ [m]) (stepL g N s (stp b l m)) k
     rw [List.append_assoc] at this
     exact this
   obtain ⟨h1,h2⟩ := h
   cases hg : g (stp b l m) with
   | false =>
     rw [stepL_no hg]
     refine ⟨fun e => ⟨(h1 e).1,fun m2 hm => ?_⟩,fun e => ⟨?_,fun m2 hm k => ?_⟩⟩
     · rcases List.mem_append.1 hm with hm | hm
       · exact (h1 e).2 m2 hm
       · rw [List.mem_singleton.1 hm]; exact hg
     · obtain ⟨m2,k1,k2⟩ := (h2 e).1
       exact ⟨m2,List.mem_append_left _ k1,k2⟩
     · rcases List.mem_append.1 hm with hm | hm
       · exact (h2 e).2 m2 hm k
       · rw [List.mem_singleton.1 hm,hg] at k; cases k
   | true =>
     by_cases hc : s.no = true∨N (stp b l m) < N s.st
     · rw [stepL_new hg hc]
       refine ⟨fun e => (by cases e),fun _ => ⟨⟨m,List.mem_append_right _ List.mem_cons_self,hg,rfl⟩,fun m2 hm k => ?_⟩⟩
       rcases List.mem_append.1 hm with hm | hm
       · cases hno : s.no with
         | true => rw [(h1 hno).2 m2 hm] at k; cases k
         | false =>
           have := (h2 hno).2 m2 hm k
           rcases hc with hc | hc
           · rw [hno] at hc; cases hc
           · exact Int.le_trans (Int.le_of_lt hc) this
       · rw [List.mem_singleton.1 hm]; exact Int.le_refl _
     · have hno : s.no = false := by
         cases e : s.no with
         | true => exact absurd (.inl e) hc
         | false => rfl
       rw [stepL_old hno (fun k => hc (.inr k))]
       refine ⟨fun e => (by rw [hno] at e; cases e),fun e => ⟨?_,fun m2 hm k => ?_⟩⟩
       · obtain ⟨m2,k1,k2⟩ := (h2 e).1
         exact ⟨m2,List.mem_append_left _ k1,k2⟩
       · rcases List.mem_append.1 hm with hm | hm
         · exact (h2 e).2 m2 hm k
         · rw [List.mem_singleton.1 hm]
           exact Int.not_lt.1 fun k => hc (.inr k)
theorem foldR_from {b : Int} {l : List Int} {g : (Nat→Int)→Bool} {N : (Nat→Int)→Int} (r : List (List Int)) : LeastOf b l g N r (foldR b l g N ⟨true,empI⟩ r) :=
 foldR_least r [] ⟨true,empI⟩ ⟨fun _ => ⟨rfl,fun m hm => (by cases hm)⟩,fun e => (by cases e)⟩
theorem dist_nn {a b : Int} : 0≤dist a b := by rw [dist_eq]; omega
theorem rSt_mono {b : Int} {l m : List Int} {x : Nat} : ∀ y,x≤y→rSt b l m x≤rSt b l m y
 | 0, h => by obtain rfl : x = 0 := by omega
              exact Int.le_refl _
 | y + 1,h => by
   rcases Nat.lt_or_ge x (y + 1) with h1 | h1
   · have := rSt_mono (b := b) (l := l) (m := m) (x := x) y (by omega)
     have h2 : rSt b l m (y + 1) = rSt b l m y + dist (rAt b l m y) (pl l (m.getD y 0).toNat) := rfl
     have h3 : 0≤dist (rAt b l m y) (pl l (m.getD y 0).toNat) := dist_nn
     omega
   · obtain rfl : x = y + 1 := by omega
     exact Int.le_refl _
theorem getD_nd {m : List Int} (h : m.Nodup) {i j : Nat} (hi : i < m.length) (hj : j < m.length) (e : m.getD i 0 = m.getD j 0) : i = j := by
 rw [List.getD_eq_getElem?_getD,List.getD_eq_getElem?_getD,List.getElem?_eq_getElem hi,List.getElem?_eq_getElem hj] at e
 exact (List.getElem_inj h).1 e
theorem sf_at {b : Int} {n : Nat} {l m : List Int} (hw : Whole n m) {i : Nat} (hi : i < m.length) : ∀ x,i < x→x≤m.length→sf b l m x (m.getD i 0).toNat = rSt b l m (i + 1)
 | 0,h,_ => by omega
 | x + 1,h,hx => by
   rw [sf]
   by_cases e : x = i
   · subst e; rw [show Nat.beq (m.getD x 0).toNat (m.getD x 0).toNat = true from Nat.beq_refl _]; rfl
   · have h1 := whole_mem hw i hi
     have h2 := whole_mem hw x (by omega)
     have h3 : m.getD i 0 ≠ m.getD x 0 := fun k => e (getD_nd hw.nd hi (by omega) k).symm
     have : Nat.beq (m.getD i 0).toNat (m.getD x 0).toNat = false := by
       cases hb : Nat.beq (m.getD i 0).toNat (m.getD x 0).toNat with
       | false => rfl
       | true => have := Nat.eq_of_beq_eq_true hb; omega
     rw [this]
     exact sf_at hw hi x (by omega) (by omega)
theorem stp_at {b : Int} {n : Nat} {l m : List Int} (hw : Whole n m) {i : Nat} (hi : i < m.length) : stp b l m (m.getD i 0).toNat = rSt b l m (i + 1) := sf_at hw hi m.length hi (Nat.le_refl _)
theorem whole_all {n : Nat} {m : List Int} (hw : Whole n m) {a : Nat} (ha : a < n) : ∃ i,i < m.length∧m.getD i 0 = (a : Int) := by
 have : (a : Int) ∈ m := hw.all a (Nat.zero_le _) ha
 obtain ⟨i,hi⟩ := List.mem_iff_getElem?.1 this
 exact ⟨i,(List.getElem?_eq_some_iff.1 hi).1,by rw [List.getD_eq_getElem?_getD,hi]; rfl⟩
theorem sf_out {b : Int} {n : Nat} {l m : List Int} (hm : ∀ j,j < m.length→0≤m.getD j 0∧m.getD j 0 < n) {a : Nat} (ha : n≤a) : ∀ x,x≤m.length→sf b l m x a = 0
 | 0,_ => rfl
 | x + 1,hx => by
   rw [sf]
   have h2 := hm x (by omega)
   have : Nat.beq a (m.getD x 0).toNat = false := by
     cases hb : Nat.beq a (m.getD x 0).toNat with
     | false => rfl
     | true => have := Nat.eq_of_beq_eq_true hb; omega
   rw [this]
   exact sf_out hm ha x (by omega)
theorem rds_mem_whole {n f : Nat} (hf : f≤n) : ∀ r ∈ rds n n f f [],Whole n r := rds_whole n f f [] (by omega) (begun_nil hf)
end Go.Pier.Rd
namespace Go.Pier.Rd
open Go Go.Pier Go.Proofs
noncomputable def shE0 : VEnv := { prE1 with cc := ccIn Try.prog prE1 [⟨105,Try.f105,fun _ _ _ => none⟩,⟨106,Try.f106,fun _ _ _ => none⟩] }
def shV (S : LS) : Value := .tuple #[vi (bif S.no then 0 else mxN S.st 9),vi (bif S.no then 12 else 0)]
noncomputable def specQ (F : Int→Nat→List Int→Value) : List Arg3→Option (Prop × Value)
 | [.agg [.plain (.int .i64 b),.view cs n r]] => some (okL (.view cs n r)∧errP b n (intsOf cs) = 0,F b n (intsOf cs))
 | _ => none
theorem specQ_ok {f : FuncId} {F : Int→Nat→List Int→Value} (hv : ∀ b n l,sc 0 (F b n l) = true)
   (hV : ∀ b n c l,l.length = n * 2→errP b n l = 0→Call Try.prog f [pierV b (some ⟨0,0,none⟩) n c] [ros l] fun v _ => v = F b n l) :
   ∀ args H φ v H' l,pure3 psP (specQ F) args H = some (φ,v,H',l)→Asks φ→Call Try.prog f args H (fun v' H2 => v' = v∧H2 = H')∧Kept H H' l :=
 pure3_ok fun r ψ v hk hs hψ => by
   obtain ⟨b,lf,rfl,hl⟩ := kinds_pier hk
   rcases hl with rfl | ⟨s,rfl⟩ | ⟨cs,n,rfl⟩
   · cases hs
   · cases hs
   · cases hs
     refine ⟨hv _ _ _,fun caps _ => ?_⟩
     obtain ⟨⟨h1,h2,h3⟩,h5⟩ := hψ
     have h4 := hV b n (caps 0) (intsOf cs) (by rw [← h2,intsOf,List.length_map]) h5
     have e : canonH3 [.agg [.plain (.int .i64 b),.view cs n false]] = [ros (intsOf cs)] := by
       show [AObj.ro cs] = [.ro ((intsOf cs).map (.int .i64))]
       rw [← h1]
     rw [e]
     exact h4
noncomputable def shF (b : Int) (n : Nat) (l : List Int) : Value := shV (shL b n (lefts b n l) l)
end Go.Pier.Rd
namespace Go.Pier.Rd
open Go Go.Pier Go.Proofs
noncomputable def ltB : Code := Try.f50.body.getD .skip
def clampT (k x : Int) : Int := if (0 : Int) < (if x + k < 9000 then x + k else 9000) then (if x + k < 9000 then x + k else 9000) else 0
def laterL (k : Int) (l : List Int) : Nat→List Int
 | 0 => []
 | i + 1 => laterL k l i ++ [pl l i,clampT k (tw l i)]
def rw2 (l : List Int) : AObj := .rw (l.map (.int .i64)) (some 2)
def ltI (b k : Int) (n c : Nat) (l : List Int) : Nat→Option LInv := invOf 0 (.mk [
   ⟨Unit,fun _ => True,fun _ => [(1,vi k),(2,ptr0 1),(4,ptr0 2),(5,ptr0 3),(6,vi 0)],fun _ => [ros l,boxP b n c,.rw [vi 0,nilS] none,.rw [vi b,nilS] none],fun _ => 1000001,fun _ _ => none⟩,
   ⟨Nat,fun i => 0 < i∧i≤n,fun i => [(1,vi k),(2,ptr0 1),(4,ptr0 2),(5,ptr0 3),(6,vi i)],fun i => [ros l,boxP b n c,.rw [vi 0,nilS] none,.rw [vi b,newS 4 i] none,rw2 (laterL k l i)],fun i => n - i,fun _ _ => none⟩]
 (fun _ b => b) (fun i j => match j with | 0 => [] | _ => match i with | 0 => [nsub 4 6] | _ => [nsub 4 7]))
noncomputable def ltV0 (l:List Int) (xq:Nat):List Value := [vi (getI (List.map (Value.int IntKind.i64) l) (0+(xq:Int).toNat * 2)),vi (getI (List.map (Value.int IntKind.i64) l) (0+(xq:Int).toNat * 2+1))]
noncomputable def ltV1 (l:List Int) := (List.map (Value.int IntKind.i64) l)
noncomputable def ltV2 (k:Int) (l:List Int) := (getI [vi (getI (ltV1 l) 0),vi (getI (ltV1 l) 1)] (0+1)+k)
noncomputable def ltV3  : Prop := (AObj.rw [vi (0 : Int),Value.slice none (0 : Nat) (0 : Nat)] none = AObj.rw [vi (0 : Int),Value.slice none (0 : Nat) (0 : Nat)] none∧true = true)
noncomputable def ltV4 (b:Int) (n:Nat) (c:Nat):Prop := (AObj.rw [vi b,Value.slice (some (ad0 0)) n c] none=AObj.rw [vi b,Value.slice (some (ad0 0)) n c] none∧true=true)
noncomputable def ltV5 (k:Int) (l:List Int) (xq:Nat) := (getI (ltV0 l xq) (0+1)+k)
noncomputable def ltV6  := (Value.int IntKind.i64)
noncomputable def ltV7 (l:List Int):Prop := (AObj.ro (ltV1 l)=AObj.ro (List.map (nmap1 (nsub 1 4)) (ltV1 l))∧AObj.sc 2 (AObj.ro (ltV1 l))=true)
noncomputable def ltV8 (b:Int):List Value := [vi b,Value.slice none 0 0]
noncomputable def ltV9 (b:Int) (n:Nat):Array Value := ⟨[vi b,Value.slice (some ⟨4,0,some 0⟩) n 0]⟩
noncomputable def ltV :=
fun (b k:Int) (n c:Nat) (l:List Int)↦Ob (some (vi b)=some (vi b))∧Ob (0+2≤2)∧((∃ (y:Unit),Ob True∧(Ob (AObj.ro (ltV1 l)=AObj.ro (List.map (nmap1 fun (bq:Nat)↦bq) (ltV1 l))∧AObj.sc 4 (AObj.ro (ltV1 l))=true)∧Ob (ltV4 b n c)∧Ob ltV3∧Ob (AObj.rw (ltV8 b) none=AObj.rw (ltV8 b) none∧true=true)∧True)∧Ob (k=k)∧Ob (ptr0 1=ptr0 1)∧Ob (ptr0 2=ptr0 2)∧Ob (ptr0 3=ptr0 3)∧Ob ((0:Int)=(0:Int))∧True)∨∃ (yq:Nat),Ob (0<yq∧yq≤n)∧(Ob (AObj.ro (ltV1 l)=AObj.ro (List.map (nmap1 fun (bqq:Nat)↦bqq) (ltV1 l))∧AObj.sc 5 (AObj.ro (ltV1 l))=true)∧Ob (ltV4 b n c)∧Ob ltV3∧Ob (AObj.rw (ltV8 b) none=AObj.rw [vi b,Value.slice (some ⟨4,0,some 0⟩) yq 0] none∧true=true)∧False)∧Ob (k=k)∧Ob (ptr0 1=ptr0 1)∧Ob (ptr0 2=ptr0 2)∧Ob (ptr0 3=ptr0 3)∧Ob ((0:Int)=(yq:Int))∧True)∧(∀ (x:Unit),Ob True→(decide ((0:Int)<(n:Int))=true→Ob ((0:Int)≤(0:Int)∧(0:Int)<(n:Int)∧true=true)∧Ob (ckAsk [CK.i IntKind.i64,CK.i IntKind.i64] (ltV1 l) 0)∧Ob (0+2≤2)∧Ob (IntAt IntKind.i64 [vi (getI (ltV1 l) 0),vi (getI (ltV1 l) 1)] (0+1))∧Ob (IntAt IntKind.i64 [vi (getI (ltV1 l) 0),vi (getI (ltV1 l) 1)] (0+1)∧some 1=some 1)∧Ob (andP (some (0+2≤2∧true=true)) (1≤1099511627776∧4128≤281474976710656∧2=2∧0=0∧0<1))∧Ob (2≤2)∧(False∨∃ (yqq:Nat),Ob (0<yqq∧yqq≤n)∧Ob (n-yqq<1000001)∧(Ob (AObj.ro (ltV1 l)=AObj.ro (List.map (nmap1 (nsub 4 6)) (ltV1 l))∧AObj.sc 5 (AObj.ro (ltV1 l))=true)∧Ob (ltV4 b n c)∧Ob ltV3∧Ob (AObj.rw [vi b,Value.slice (some ⟨6,0,some 0⟩) 1 0] none=AObj.rw [vi b,Value.slice (some ⟨6,0,some 0⟩) yqq 0] none∧true=true)∧Ob (AObj.rw [vi (bif false then if (if IntKind.i64.wrap (ltV2 k l)<(9000:Int) then IntKind.i64.wrap (ltV2 k l) else (9000:Int)) > (0:Int) then if IntKind.i64.wrap (ltV2 k l)<(9000:Int) then IntKind.i64.wrap (ltV2 k l) else (9000:Int) else (0:Int) else getI (ltV1 l) 0),vi (bif true then if (if IntKind.i64.wrap (ltV2 k l)<(9000:Int) then IntKind.i64.wrap (ltV2 k l) else (9000:Int)) > (0:Int) then if IntKind.i64.wrap (ltV2 k l)<(9000:Int) then IntKind.i64.wrap (ltV2 k l) else (9000:Int) else (0:Int) else getI (ltV1 l) 1)] (some 2)=AObj.rw (List.map (nmap1 (nsub 4 6)) (List.map ltV6 (laterL k l yqq))) (some 2)∧AObj.sc 5 (AObj.rw (List.map ltV6 (laterL k l yqq)) (some 2))=true)∧True)∧Ob (k=k)∧Ob (ptr0 1=ptr0 1)∧Ob (ptr0 2=ptr0 2)∧Ob (ptr0 3=ptr0 3)∧Ob (IntKind.i64.wrap ((0:Int)+(1:Int))=(yqq:Int))∧True))∧(decide ((0:Int)<(n:Int))=false→Ob (2≤2)∧(Ob (ltV7 l)∧False)∧Ob (Value.agg { toList := (ltV8 b) }=Value.agg (ltV9 b n))∧True))∧∀ (xq:Nat),Ob (0<xq∧xq≤n)→(decide ((xq:Int)<(n:Int))=true→Ob ((0:Int)≤(xq:Int)∧(xq:Int)<(n:Int)∧true=true)∧Ob (ckAsk [CK.i IntKind.i64,CK.i IntKind.i64] (ltV1 l) (0+(xq:Int).toNat * 2))∧Ob (0+2≤2)∧Ob (IntAt IntKind.i64 (ltV0 l xq) (0+1))∧Ob (IntAt IntKind.i64 (ltV0 l xq) (0+1)∧some 1=some 1)∧Ob (andP (some (0+2≤2∧true=true)) (xq+1≤1099511627776∧(2 * (xq+1)+256) * 16≤281474976710656∧2=2∧(List.map ltV6 (laterL k l xq)).length=xq * 2))∧Ob (2≤2)∧(False∨∃ (yqqq:Nat),Ob (0<yqqq∧yqqq≤n)∧Ob (n-yqqq<n-xq)∧(Ob (AObj.ro (ltV1 l)=AObj.ro (List.map (nmap1 (nsub 4 7)) (ltV1 l))∧AObj.sc 5 (AObj.ro (ltV1 l))=true)∧Ob (ltV4 b n c)∧Ob ltV3∧Ob (AObj.rw [vi b,Value.slice (some ⟨7,0,some 0⟩) (xq+1) 0] none=AObj.rw [vi b,Value.slice (some ⟨7,0,some 0⟩) yqqq 0] none∧true=true)∧Ob (AObj.rw (List.map ltV6 (laterL k l xq)++[vi (bif false then if (if IntKind.i64.wrap (ltV5 k l xq)<(9000:Int) then IntKind.i64.wrap (ltV5 k l xq) else (9000:Int)) > (0:Int) then if IntKind.i64.wrap (ltV5 k l xq)<(9000:Int) then IntKind.i64.wrap (ltV5 k l xq) else (9000:Int) else (0:Int) else getI (ltV1 l) (0+(xq:Int).toNat * 2)),vi (bif true then if (if IntKind.i64.wrap (ltV5 k l xq)<(9000:Int) then IntKind.i64.wrap (ltV5 k l xq) else (9000:Int)) > (0:Int) then if IntKind.i64.wrap (ltV5 k l xq)<(9000:Int) then IntKind.i64.wrap (ltV5 k l xq) else (9000:Int) else (0:Int) else getI (ltV1 l) (0+(xq:Int).toNat * 2+1))]) (some 2)=AObj.rw (List.map (nmap1 (nsub 4 7)) (List.map ltV6 (laterL k l yqqq))) (some 2)∧AObj.sc 5 (AObj.rw (List.map ltV6 (laterL k l yqqq)) (some 2))=true)∧True)∧Ob (k=k)∧Ob (ptr0 1=ptr0 1)∧Ob (ptr0 2=ptr0 2)∧Ob (ptr0 3=ptr0 3)∧Ob (IntKind.i64.wrap ((xq:Int)+(1:Int))=(yqqq:Int))∧True))∧(decide ((xq:Int)<(n:Int))=false→Ob (2≤2)∧(Ob (ltV7 l)∧Ob (AObj.rw (List.map ltV6 (laterL k l xq)) (some 2)=AObj.rw (List.map (nmap1 (nsub 1 4)) (List.map ltV6 (laterL k l n))) (some 2)∧AObj.sc 2 (AObj.rw (List.map ltV6 (laterL k l n)) (some 2))=true)∧True)∧Ob (Value.agg ⟨[vi b,Value.slice (some ⟨4,0,some 0⟩) xq 0]⟩=Value.agg (ltV9 b n))∧True)
theorem ltV_eq : ltV = fun (b k : Int) (n c : Nat) (l : List Int) => vc Try.prog prE1 1 37 true (ltI b k n c l) ltB [] (argFr 0 [pierV b (some ⟨0,0,none⟩) n c,vi k]) [ros l] (retR Try.prog Try.f50 1 (nsub 1 4) (.agg #[vi b,newS 1 n]) [ros l,rw2 (laterL k l n)]) := by kernel_rfl
theorem later_len {k : Int} {l : List Int} : ∀ i,(laterL k l i).length = i * 2
 | 0 => rfl
 | i + 1 => by rw [laterL,List.length_append,later_len i]; simp only [List.length_cons,List.length_nil]; omega
theorem clamp_val {x k : Int} (hx : 0≤x∧x≤9000) (hk : -1000000≤k∧k≤1000000) :
   (if (if IntKind.i64.wrap (x + k) < 9000 then IntKind.i64.wrap (x + k) else 9000) > 0 then if IntKind.i64.wrap (x + k) < 9000 then IntKind.i64.wrap (x + k) else 9000 else 0) = clampT k x := by
 rw [wrap_in (x := x + k) (by omega) (by omega)]; rfl
theorem ltV_ok (b k : Int) (n c : Nat) (l : List Int) (hl : l.length = n * 2) (hn : n≤10) (hn1 : 1≤n) (hr : rngP b n l) (hk : -1000000≤k∧k≤1000000) : ltV b k n c l := by
 unfold ltV ltV9 ltV8 ltV7 ltV6 ltV5 ltV4 ltV3 ltV2 ltV1 ltV0
 simp only [SS,reduceCtorEq,Arg.list,Arg.num,Arg.flag,intOf,andP,Nat.reduceLeDiff,Nat.reduceAdd,Nat.reduceMul,Nat.reduceLT,ckAsk,CK.ask,pl_fold,tw_fold,getI_2b,intAt_2b,cond_true,cond_false,rw2]
 refine ⟨⟨fun h => ⟨by omega,by omega,1,by omega,by omega,⟨rfl,?_⟩,by decide⟩,fun h => by omega⟩,fun x hx => ⟨fun h => ⟨by omega,by omega,⟨by omega,by omega,later_len x⟩,x + 1,by omega,by omega,⟨rfl,?_⟩,wrap_succ (n := n) (by omega) (by omega)⟩,fun h => ?_⟩⟩
 · have := clamp_val (x := tw l 0) (hr.1 0 (by omega)).2 hk
   show _ = List.map (Value.int .i64) [pl l 0,clampT k (tw l 0)]
   rw [← this]; rfl
 · rw [clamp_val (hr.1 x (by omega)).2 hk,laterL,List.map_append]; rfl
 · rw [show x = n by omega]; exact ⟨rfl,rfl⟩
theorem lt_call (b k : Int) (n c : Nat) (l : List Int) (hl : l.length = n * 2) (hn : n≤10) (hn1 : 1≤n) (hr : rngP b n l) (hk : -1000000≤k∧k≤1000000) : Call Try.prog 50 [pierV b (some ⟨0,0,none⟩) n c,vi k] [ros l] fun v H' => v = .agg #[vi b,newS 1 n]∧H' = [ros l,rw2 (laterL k l n)] := by
 have h := ltV_ok b k n c l hl hn hn1 hr hk
 rw [ltV_eq] at h
 exact Call.ofVcR (H := [ros l]) (args := [pierV b (some ⟨0,0,none⟩) n c,vi k]) (σ := nsub 1 4) (v2 := .agg #[vi b,newS 1 n]) (H2 := [ros l,rw2 (laterL k l n)]) prE1_ok mixed (c := ltB) (inv := ltI b k n c l) Try.func50 (by kernel_rfl) (cast (by kernel_rfl) h)
theorem rw2_omap {σ : Nat→Nat} {l : List Int} : omap σ (rw2 l) = rw2 l := omap_ints
theorem rw2_sc {l : List Int} {n : Nat} : (rw2 l).sc n = true := List.all_eq_true.2 fun u hu => by
 obtain ⟨x,_,rfl⟩ := List.mem_map.1 hu; rfl
theorem rw2_nm {l : List Int} {p : Nat→Bool} : (rw2 l).nm p = true := List.all_eq_true.2 fun u hu => by
 obtain ⟨x,_,rfl⟩ := List.mem_map.1 hu; rfl
theorem made_at {f : FuncId} {b b2 : Int} {n n2 c : Nat} {l r : List Int} {az : List Value} {H : Heap} (has : az.all (sc 0) = true) (h0 : H[0]? = some (ros l))
   (h : Call Try.prog f (pierV b (some ⟨0,0,none⟩) n c :: az) [ros l] fun v H' => v = .agg #[vi b2,newS 1 n2]∧H' = [ros l,rw2 r]) :
   Call Try.prog f (pierV b (some ⟨0,0,none⟩) n c :: az) H fun v H' => v = .agg #[vi b2,newS H.length n2]∧H' = H ++ [rw2 r] := by
 have hlt : 0 < H.length := (List.getElem?_eq_some_iff.1 h0).1
 have e : ∀ σ : Nat→Nat,nmap σ (.agg #[vi b2,newS 1 n2]) = .agg #[vi b2,newS (σ 1) n2] := fun σ => by simp [nmap,nmap2,nmap1,nmap0,newS,am]
 have hp : ∀ σ : Nat→Nat,σ 0 = 0→nmap σ (pierV b (some ⟨0,0,none⟩) n c) = pierV b (some ⟨0,0,none⟩) n c := fun σ h0 => by simp [pierV,nmap,nmap2,nmap1,nmap0,am,h0]
 have hm : ∀ σ : Nat→Nat,az.map (nmap σ) = az := fun σ => by
   conv => rhs; rw [← List.map_id az]
   exact List.map_congr_left fun u hu => nmap_closed (List.all_eq_true.1 has u hu)
 have := (Call.frameG (H := H) (Et := [ros l]) (Ft := [ros l]) (N := [rw2 r]) (L := [0]) (vs := pierV b (some ⟨0,0,none⟩) n c :: az) rfl rfl (by simp) (fun y hy => by rw [List.mem_singleton.1 hy]; exact hlt)
   (fun c' o hc => by
     cases c' with
     | zero => cases hc; exact .inr (by rw [ros_omap]; exact h0)
     | succ c' => simp at hc)
   (fun o ho => by rw [List.mem_singleton.1 ho]; exact ros_sc) (by rw [List.map_cons,hp _ rfl,hm])
   (by
     rw [List.all_cons,Bool.and_eq_true]
     exact ⟨by kernel_rfl,List.all_eq_true.2 fun u hu => sc_mono (Nat.zero_le _) (List.all_eq_true.1 has u hu)⟩) h
   (fun o ho => by
     rcases List.mem_append.1 ho with h2 | h2
     · rw [List.mem_singleton.1 h2]; exact ros_nm
     · rw [List.mem_singleton.1 h2]; exact rw2_nm)
   (fun o ho => by rw [List.mem_singleton.1 ho]; rfl) (by kernel_rfl)
   (fun o ho => by
     rcases List.mem_append.1 ho with h2 | h2
     · rw [List.mem_singleton.1 h2,ros_omap]; exact ros_sc
     · rw [List.mem_singleton.1 h2,rw2_omap]; exact rw2_sc)
   (by
     rw [e]
     simp [sc,sc2,sc1,sc0,newS,nameL])).1
 refine this.mono fun v H' hh => ⟨by rw [hh.1,e]; rfl,?_⟩
 rw [hh.2]
 show H ++ [omap _ (rw2 r)] = _
 rw [rw2_omap]
end Go.Pier.Rd
namespace Go.Pier.Rd
open Go Go.Pier Go.Proofs
theorem rSt_zero {b : Int} {l m : List Int} (x : Nat) : 0≤rSt b l m x := rSt_mono (x := 0) x (Nat.zero_le _)
theorem stp_le {b : Int} {n : Nat} {l m : List Int} (hw : Whole n m) (i : Nat) : stp b l m i≤rSt b l m n := by
 have hl := whole_len hw
 rcases Nat.lt_or_ge i n with h | h
 · obtain ⟨k,h1,h2⟩ := whole_all hw h
   have := stp_at (b := b) (l := l) hw h1
   rw [h2,Int.toNat_natCast] at this
   rw [this]
   exact rSt_mono n (by omega)
 · rw [stp,sf_out (whole_mem hw) h _ (Nat.le_refl _)]
   exact rSt_zero n
theorem getD_app {m r : List Int} {x : Nat} (h : x < m.length) : (m ++ r).getD x 0 = m.getD x 0 := by
 rw [List.getD_eq_getElem?_getD,List.getD_eq_getElem?_getD,List.getElem?_append_left h]
section
variable {b : Int} {n : Nat} {l : List Int} (ho : ordP b n l)
include ho
end
end Go.Pier.Rd
namespace Go.Pier.Rd
open Go Go.Pier Go.Proofs
noncomputable def wkB : Code := Try.f46.body.getD .skip
def wS (n f : Nat) (o : Nat→Bool) : Nat→Nat × Nat × List Int
 | 0 => (f,f,[])
 | i + 1 => let s := wS n f o i
   if ((s.2.1 = n∨o i = true)∧0 < s.1) then (s.1 - 1,s.2.1,s.2.2 ++ [((s.1 - 1 : Nat) : Int)]) else (s.1,s.2.1 + 1,s.2.2 ++ [(s.2.1 : Int)])
def wG (n f : Nat) (o : Nat→Bool) (i : Nat) : Nat := (wS n f o i).1
def wT (n f : Nat) (o : Nat→Bool) (i : Nat) : Nat := (wS n f o i).2.1
def wL (n f : Nat) (o : Nat→Bool) (i : Nat) : List Int := (wS n f o i).2.2
def onB (q : List Int) (i : Nat) : Bool := decide ((q.getD (i % q.length) 0).tmod 2 = 1)
def roU (q : List Int) : AObj := .ro (q.map (.int .u8))
noncomputable def wkE : VEnv := { ct := Ct.none.add 86 (pure3 psP (specV fun b n l => vi (lefts b n l))),orc := prO }
def wkI (b : Int) (n c : Nat) (l : List Int) (o : Nat→Bool) (bv : Value) (P : Heap) : Nat→Option LInv := invOf 0 (.mk [
   ⟨Unit,fun _ => True,fun _ => [(1,bv),(2,ptr0 P.length),(4,nilS),(5,vi (lefts b n l)),(6,vi (lefts b n l)),(7,nilS),(8,vi 0)],fun _ => P ++ [boxP b n c],fun _ => 1000001,fun _ _ => none⟩,
   ⟨Nat,fun i => 0 < i∧i≤n,fun i => [(1,bv),(2,ptr0 P.length),(4,nilS),(5,vi (wG n (lefts b n l) o i)),(6,vi (wT n (lefts b n l) o i)),(7,newS (P.length + 1) i),(8,vi i)],fun i => P ++ [boxP b n c,rws (wL n (lefts b n l) o i)],fun i => n - i,fun _ _ => none⟩]
 (fun _ b => b) (fun i j => match j with | 0 => [] | _ => match i with | 0 => [nsub (P.length + 1) (P.length + 2)] | _ => [nsub (P.length + 1) (P.length + 3)]))
noncomputable def wkN0  : Prop := (Value.slice none (0 : Nat) (0 : Nat) = Value.slice none (0 : Nat) (0 : Nat))
noncomputable def wkN1 (l:List Int) := (List.map (Value.int IntKind.i64) l)
noncomputable def wkN2 (b:Int) (n:Nat) (c:Nat):Prop := (AObj.rw [vi b,Value.slice (some (ad0 0)) n c] none=AObj.rw [vi b,Value.slice (some (ad0 0)) n c] none∧true=true)
noncomputable def wkN3  := (andP (some ((0 : Nat) + (1 : Nat)≤(1 : Nat)∧true = true)) ((1 : Nat)≤(1099511627776 : Nat)∧(2064 : Nat)≤(281474976710656 : Nat)∧(1 : Nat) = (1 : Nat)∧(0 : Nat) = (0 : Nat)∧(0 : Nat) < (1 : Nat)))
noncomputable def wkN4  := ((1 : Nat) + (1 : Nat))
noncomputable def wkN5  := (Value.int IntKind.i64)
noncomputable def wkN6 (l:List Int):Prop := (AObj.ro (wkN1 l)=AObj.ro (List.map (nmap1 (nsub wkN4 (1+2))) (wkN1 l))∧AObj.sc 3 (AObj.ro (wkN1 l))=true)
noncomputable def wkN7 (l:List Int):Prop := (AObj.ro (wkN1 l)=AObj.ro (List.map (nmap1 (nsub wkN4 (1+3))) (wkN1 l))∧AObj.sc 3 (AObj.ro (wkN1 l))=true)
noncomputable def wkN8  : Prop := (ptr0 1 = Value.pointer (some { block := nsub wkN4 ((1 : Nat) + (2 : Nat)) (1 : Nat),off := (0 : Nat),spot := none }))
noncomputable def wkN9  : Prop := (ptr0 1 = Value.pointer (some { block := nsub wkN4 ((1 : Nat) + (3 : Nat)) (1 : Nat),off := (0 : Nat),spot := none }))
noncomputable def wkN10 (l:List Int):Prop := (AObj.ro (wkN1 l)=AObj.ro (List.map (nmap1 (nsub 1 2)) (wkN1 l))∧AObj.sc 2 (AObj.ro (wkN1 l))=true)
noncomputable def wkN11 (b:Int) (n:Nat) (l:List Int) := (↑(lefts b n l):Int)
noncomputable def wkN12  := (nmap1 (nsub wkN4 ((1 : Nat) + (2 : Nat))))
noncomputable def wkN13  := (nmap1 (nsub wkN4 ((1 : Nat) + (3 : Nat))))
noncomputable def wkN14  (x:Nat) := (2 * (x+1)+256)
noncomputable def wkN :=
fun (b:Int) (n c:Nat) (l:List Int)↦Ob ((true=true∧Flat (wkN1 l))∧okL (Leaf.view (wkN1 l) n false))∧((∃ (y:Unit),Ob True∧(Ob (AObj.ro (wkN1 l)=AObj.ro (List.map (nmap1 fun (bq:Nat)↦bq) (wkN1 l))∧AObj.sc 2 (AObj.ro (wkN1 l))=true)∧Ob (wkN2 b n c)∧True)∧Ob wkN0∧Ob (ptr0 1=ptr0 1)∧Ob wkN0∧Ob ((↑(lefts b n (intsOf (wkN1 l))):Int)=(wkN11 b n l))∧Ob ((↑(lefts b n (intsOf (wkN1 l))):Int)=(wkN11 b n l))∧Ob wkN0∧Ob ((0:Int)=(0:Int))∧True)∨∃ (yq:Nat),Ob (0<yq∧yq≤n)∧(Ob (AObj.ro (wkN1 l)=AObj.ro (List.map (nmap1 fun (bqq:Nat)↦bqq) (wkN1 l))∧AObj.sc 3 (AObj.ro (wkN1 l))=true)∧Ob (wkN2 b n c)∧False)∧Ob wkN0∧Ob (ptr0 1=ptr0 1)∧Ob wkN0∧Ob ((↑(lefts b n (intsOf (wkN1 l))):Int)=(↑(wG n (lefts b n l) (fun (x:Nat)↦false) yq):Int))∧Ob ((↑(lefts b n (intsOf (wkN1 l))):Int)=(↑(wT n (lefts b n l) (fun (x:Nat)↦false) yq):Int))∧Ob (Value.slice none 0 0=Value.slice (some ⟨2,0,some 0⟩) yq 0)∧Ob ((0:Int)=(yq:Int))∧True)∧(∀ (xq:Unit),Ob True→(decide ((0:Int)<(n:Int))=true→(false=true→Ob ((↑(0:Nat):Int)≠(0:Int))∧False)∧(false=false→(((wkN11 b n l)==(n:Int))=true→(decide ((0:Int)<(wkN11 b n l))=true→Ob wkN3∧(False∨∃ (yqq:Nat),Ob (0<yqq∧yqq≤n)∧Ob (n-yqq<1000001)∧(Ob (wkN6 l)∧Ob (wkN2 b n c)∧Ob (AObj.rw [vi (IntKind.i64.wrap ((wkN11 b n l)-(1:Int)))] (some 1)=AObj.rw (List.map wkN12 (List.map wkN5 (wL n (lefts b n l) (fun (xqq:Nat)↦false) yqq))) (some 1)∧AObj.sc 3 (AObj.rw (List.map wkN5 (wL n (lefts b n l) (fun (xqqq:Nat)↦false) yqq)) (some 1))=true)∧True)∧Ob wkN0∧Ob wkN8∧Ob wkN0∧Ob (IntKind.i64.wrap ((wkN11 b n l)-(1:Int))=(↑(wG n (lefts b n l) (fun (xqqqq:Nat)↦false) yqq):Int))∧Ob ((wkN11 b n l)=(↑(wT n (lefts b n l) (fun (xqqqqq:Nat)↦false) yqq):Int))∧Ob (Value.slice (some ⟨3,0,some 0⟩) 1 0=Value.slice (some ⟨nsub wkN4 (1+2) wkN4,0,some 0⟩) yqq 0)∧Ob (IntKind.i64.wrap ((0:Int)+(1:Int))=(yqq:Int))∧True))∧(decide ((0:Int)<(wkN11 b n l))=false→Ob wkN3∧(False∨∃ (yqqq:Nat),Ob (0<yqqq∧yqqq≤n)∧Ob (n-yqqq<1000001)∧(Ob (wkN6 l)∧Ob (wkN2 b n c)∧Ob (AObj.rw [vi (wkN11 b n l)] (some 1)=AObj.rw (List.map wkN12 (List.map wkN5 (wL n (lefts b n l) (fun (xqqqqqq:Nat)↦false) yqqq))) (some 1)∧AObj.sc 3 (AObj.rw (List.map wkN5 (wL n (lefts b n l) (fun (xqqqqqqq:Nat)↦false) yqqq)) (some 1))=true)∧True)∧Ob wkN0∧Ob wkN8∧Ob wkN0∧Ob ((wkN11 b n l)=(↑(wG n (lefts b n l) (fun (xqqqqqqqq:Nat)↦false) yqqq):Int))∧Ob (IntKind.i64.wrap ((wkN11 b n l)+(1:Int))=(↑(wT n (lefts b n l) (fun (xqqqqqqqqq:Nat)↦false) yqqq):Int))∧Ob (Value.slice (some ⟨3,0,some 0⟩) 1 0=Value.slice (some ⟨nsub wkN4 (1+2) wkN4,0,some 0⟩) yqqq 0)∧Ob (IntKind.i64.wrap ((0:Int)+(1:Int))=(yqqq:Int))∧True)))∧(((wkN11 b n l)==(n:Int))=false→Ob wkN3∧(False∨∃ (yqqqq:Nat),Ob (0<yqqqq∧yqqqq≤n)∧Ob (n-yqqqq<1000001)∧(Ob (wkN6 l)∧Ob (wkN2 b n c)∧Ob (AObj.rw [vi (wkN11 b n l)] (some 1)=AObj.rw (List.map wkN12 (List.map wkN5 (wL n (lefts b n l) (fun (xqqqqqqqqqq:Nat)↦false) yqqqq))) (some 1)∧AObj.sc 3 (AObj.rw (List.map wkN5 (wL n (lefts b n l) (fun (xqqqqqqqqqqq:Nat)↦false) yqqqq)) (some 1))=true)∧True)∧Ob wkN0∧Ob wkN8∧Ob wkN0∧Ob ((wkN11 b n l)=(↑(wG n (lefts b n l) (fun (xqqqqqqqqqqqq:Nat)↦false) yqqqq):Int))∧Ob (IntKind.i64.wrap ((wkN11 b n l)+(1:Int))=(↑(wT n (lefts b n l) (fun (xqqqqqqqqqqqqq:Nat)↦false) yqqqq):Int))∧Ob (Value.slice (some ⟨3,0,some 0⟩) 1 0=Value.slice (some ⟨nsub wkN4 (1+2) wkN4,0,some 0⟩) yqqqq 0)∧Ob (IntKind.i64.wrap ((0:Int)+(1:Int))=(yqqqq:Int))∧True))))∧(decide ((0:Int)<(n:Int))=false→(Ob (wkN10 l)∧False)∧Ob (Value.slice none 0 0=Value.slice (some ⟨2,0,some 0⟩) n 0)∧True))∧∀ (x:Nat),Ob (0<x∧x≤n)→(decide ((x:Int)<(n:Int))=true→(false=true→Ob ((↑(0:Nat):Int)≠(0:Int))∧False)∧(false=false→(((↑(wT n (lefts b n l) (fun (x:Nat)↦false) x):Int)==(n:Int))=true→(decide ((0:Int)<(↑(wG n (lefts b n l) (fun (x:Nat)↦false) x):Int))=true→Ob (andP (some (0+1≤1∧true=true)) (x+1≤1099511627776∧(wkN14 x) * 8≤281474976710656∧1=1∧(List.map wkN5 (wL n (lefts b n l) (fun (x:Nat)↦false) x)).length=x * 1))∧(False∨∃ (yqqqqq:Nat),Ob (0<yqqqqq∧yqqqqq≤n)∧Ob (n-yqqqqq<n-x)∧(Ob (wkN7 l)∧Ob (wkN2 b n c)∧Ob (AObj.rw (List.map wkN5 (wL n (lefts b n l) (fun (x:Nat)↦false) x)++[vi (IntKind.i64.wrap ((↑(wG n (lefts b n l) (fun (x:Nat)↦false) x):Int)-(1:Int)))]) (some 1)=AObj.rw (List.map wkN13 (List.map wkN5 (wL n (lefts b n l) (fun (x:Nat)↦false) yqqqqq))) (some 1)∧AObj.sc 3 (AObj.rw (List.map wkN5 (wL n (lefts b n l) (fun (x:Nat)↦false) yqqqqq)) (some 1))=true)∧True)∧Ob wkN0∧Ob wkN9∧Ob wkN0∧Ob (IntKind.i64.wrap ((↑(wG n (lefts b n l) (fun (x:Nat)↦false) x):Int)-(1:Int))=(↑(wG n (lefts b n l) (fun (x:Nat)↦false) yqqqqq):Int))∧Ob ((↑(wT n (lefts b n l) (fun (x:Nat)↦false) x):Int)=(↑(wT n (lefts b n l) (fun (x:Nat)↦false) yqqqqq):Int))∧Ob (Value.slice (some ⟨4,0,some 0⟩) (x+1) 0=Value.slice (some ⟨nsub wkN4 (1+3) wkN4,0,some 0⟩) yqqqqq 0)∧Ob (IntKind.i64.wrap ((x:Int)+(1:Int))=(yqqqqq:Int))∧True))∧(decide ((0:Int)<(↑(wG n (lefts b n l) (fun (x:Nat)↦false) x):Int))=false→Ob (andP (some (0+1≤1∧true=true)) (x+1≤1099511627776∧(wkN14 x) * 8≤281474976710656∧1=1∧(List.map wkN5 (wL n (lefts b n l) (fun (x:Nat)↦false) x)).length=x * 1))∧(False∨∃ (yqqqqqq:Nat),Ob (0<yqqqqqq∧yqqqqqq≤n)∧Ob (n-yqqqqqq<n-x)∧(Ob (wkN7 l)∧Ob (wkN2 b n c)∧Ob (AObj.rw (List.map wkN5 (wL n (lefts b n l) (fun (x:Nat)↦false) x)++[vi (↑(wT n (lefts b n l) (fun (x:Nat)↦false) x):Int)]) (some 1)=AObj.rw (List.map wkN13 (List.map wkN5 (wL n (lefts b n l) (fun (x:Nat)↦false) yqqqqqq))) (some 1)∧AObj.sc 3 (AObj.rw (List.map wkN5 (wL n (lefts b n l) (fun (x:Nat)↦false) yqqqqqq)) (some 1))=true)∧True)∧Ob wkN0∧Ob wkN9∧Ob wkN0∧Ob ((↑(wG n (lefts b n l) (fun (x:Nat)↦false) x):Int)=(↑(wG n (lefts b n l) (fun (x:Nat)↦false) yqqqqqq):Int))∧Ob (IntKind.i64.wrap ((↑(wT n (lefts b n l) (fun (x:Nat)↦false) x):Int)+(1:Int))=(↑(wT n (lefts b n l) (fun (x:Nat)↦false) yqqqqqq):Int))∧Ob (Value.slice (some ⟨4,0,some 0⟩) (x+1) 0=Value.slice (some ⟨nsub wkN4 (1+3) wkN4,0,some 0⟩) yqqqqqq 0)∧Ob (IntKind.i64.wrap ((x:Int)+(1:Int))=(yqqqqqq:Int))∧True)))∧(((↑(wT n (lefts b n l) (fun (x:Nat)↦false) x):Int)==(n:Int))=false→Ob (andP (some (0+1≤1∧true=true)) (x+1≤1099511627776∧(wkN14 x) * 8≤281474976710656∧1=1∧(List.map wkN5 (wL n (lefts b n l) (fun (x:Nat)↦false) x)).length=x * 1))∧(False∨∃ (yqqqqqqq:Nat),Ob (0<yqqqqqqq∧yqqqqqqq≤n)∧Ob (n-yqqqqqqq<n-x)∧(Ob (wkN7 l)∧Ob (wkN2 b n c)∧Ob (AObj.rw (List.map wkN5 (wL n (lefts b n l) (fun (x:Nat)↦false) x)++[vi (↑(wT n (lefts b n l) (fun (x:Nat)↦false) x):Int)]) (some 1)=AObj.rw (List.map wkN13 (List.map wkN5 (wL n (lefts b n l) (fun (x:Nat)↦false) yqqqqqqq))) (some 1)∧AObj.sc 3 (AObj.rw (List.map wkN5 (wL n (lefts b n l) (fun (x:Nat)↦false) yqqqqqqq)) (some 1))=true)∧True)∧Ob wkN0∧Ob wkN9∧Ob wkN0∧Ob ((↑(wG n (lefts b n l) (fun (x:Nat)↦false) x):Int)=(↑(wG n (lefts b n l) (fun (x:Nat)↦false) yqqqqqqq):Int))∧Ob (IntKind.i64.wrap ((↑(wT n (lefts b n l) (fun (x:Nat)↦false) x):Int)+(1:Int))=(↑(wT n (lefts b n l) (fun (x:Nat)↦false) yqqqqqqq):Int))∧Ob (Value.slice (some ⟨4,0,some 0⟩) (x+1) 0=Value.slice (some ⟨nsub wkN4 (1+3) wkN4,0,some 0⟩) yqqqqqqq 0)∧Ob (IntKind.i64.wrap ((x:Int)+(1:Int))=(yqqqqqqq:Int))∧True))))∧(decide ((x:Int)<(n:Int))=false→(Ob (wkN10 l)∧Ob (AObj.rw (List.map wkN5 (wL n (lefts b n l) (fun (x:Nat)↦false) x)) (some 1)=AObj.rw (List.map (nmap1 (nsub 1 2)) (List.map wkN5 (wL n (lefts b n l) (fun (x:Nat)↦false) n))) (some 1)∧AObj.sc 2 (AObj.rw (List.map wkN5 (wL n (lefts b n l) (fun (x:Nat)↦false) n)) (some 1))=true)∧True)∧Ob (Value.slice (some ⟨1+1,0,some 0⟩) x 0=Value.slice (some ⟨2,0,some 0⟩) n 0)∧True)
theorem wkN_eq : wkN = fun (b : Int) (n c : Nat) (l : List Int) => vc Try.prog wkE 1 57 true (wkI b n c l (fun _ => false) nilS [ros l]) wkB [] (argFr 0 [pierV b (some ⟨0,0,none⟩) n c,nilS]) [ros l] (retR Try.prog Try.f46 1 (nsub 1 2) (newS 1 n) [ros l,rws (wL n (lefts b n l) (fun _ => false) n)]) := by kernel_rfl
noncomputable def wkH0 (l:List Int) := (List.map (Value.int IntKind.i64) l)
noncomputable def wkH1 (b:Int) (n:Nat) (c:Nat):Prop := (AObj.rw [vi b,Value.slice (some (ad0 0)) n c] none=AObj.rw [vi b,Value.slice (some (ad0 0)) n c] none∧true=true)
noncomputable def wkH2  : Prop := (Value.slice none (0 : Nat) (0 : Nat) = Value.slice none (0 : Nat) (0 : Nat))
noncomputable def wkH3  := ((2 : Nat) + (1 : Nat))
noncomputable def wkH4  := (andP (some ((0 : Nat) + (1 : Nat)≤(1 : Nat)∧true = true)) ((1 : Nat)≤(1099511627776 : Nat)∧(2064 : Nat)≤(281474976710656 : Nat)∧(1 : Nat) = (1 : Nat)∧(0 : Nat) = (0 : Nat)∧(0 : Nat) < (1 : Nat)))
noncomputable def wkH5 (d:Nat) (s:Option Nat):Prop := (Value.slice (some ⟨1,0,s⟩) 0 d=Value.slice (some ⟨nsub wkH3 (2+2) 1,0,s⟩) 0 d)
noncomputable def wkH6 (d:Nat) (s:Option Nat):Prop := (Value.slice (some ⟨1,0,s⟩) 0 d=Value.slice (some ⟨nsub wkH3 (2+3) 1,0,s⟩) 0 d)
noncomputable def wkH7  := (Value.int IntKind.i64)
noncomputable def wkH8 (l:List Int):Prop := (AObj.ro (wkH0 l)=AObj.ro (List.map (nmap1 (nsub wkH3 (2+2))) (wkH0 l))∧AObj.sc 4 (AObj.ro (wkH0 l))=true)
noncomputable def wkH9 (l:List Int):Prop := (AObj.ro (wkH0 l)=AObj.ro (List.map (nmap1 (nsub wkH3 (2+3))) (wkH0 l))∧AObj.sc 4 (AObj.ro (wkH0 l))=true)
noncomputable def wkH10  : Prop := (ptr0 2 = Value.pointer (some { block := nsub wkH3 ((2 : Nat) + (2 : Nat)) (2 : Nat),off := (0 : Nat),spot := none }))
noncomputable def wkH11  : Prop := (ptr0 2 = Value.pointer (some { block := nsub wkH3 ((2 : Nat) + (3 : Nat)) (2 : Nat),off := (0 : Nat),spot := none }))
noncomputable def wkH12 (d:Nat) (s:Option Nat):Prop := (Value.slice (some ⟨1,0,s⟩) 0 d=Value.slice (some ⟨1,0,s⟩) 0 d)
noncomputable def wkH13 (l:List Int):Prop := (AObj.ro (wkH0 l)=AObj.ro (List.map (nmap1 (nsub 2 3)) (wkH0 l))∧AObj.sc 3 (AObj.ro (wkH0 l))=true)
noncomputable def wkH14 (b:Int) (n:Nat) (l:List Int) := (↑(lefts b n l):Int)
noncomputable def wkH15  := (nmap1 (nsub wkH3 ((2 : Nat) + (2 : Nat))))
noncomputable def wkH16  := (nmap1 (nsub wkH3 ((2 : Nat) + (3 : Nat))))
noncomputable def wkH17  (x:Nat) := (2 * (x+1)+256)
noncomputable def wkH :=
fun (b:Int) (n c d:Nat) (s:Option Nat) (l:List Int)↦Ob ((true=true∧Flat (wkH0 l))∧okL (Leaf.view (wkH0 l) n false))∧((∃ (y:Unit),Ob True∧(Ob (AObj.ro (wkH0 l)=AObj.ro (List.map (nmap1 fun (bq:Nat)↦bq) (wkH0 l))∧AObj.sc 3 (AObj.ro (wkH0 l))=true)∧Ob (wkH1 b n c)∧True)∧Ob (wkH12 d s)∧Ob (ptr0 2=ptr0 2)∧Ob wkH2∧Ob ((↑(lefts b n (intsOf (wkH0 l))):Int)=(wkH14 b n l))∧Ob ((↑(lefts b n (intsOf (wkH0 l))):Int)=(wkH14 b n l))∧Ob wkH2∧Ob ((0:Int)=(0:Int))∧True)∨∃ (yq:Nat),Ob (0<yq∧yq≤n)∧(Ob (AObj.ro (wkH0 l)=AObj.ro (List.map (nmap1 fun (bqq:Nat)↦bqq) (wkH0 l))∧AObj.sc 4 (AObj.ro (wkH0 l))=true)∧Ob (wkH1 b n c)∧False)∧Ob (wkH12 d s)∧Ob (ptr0 2=ptr0 2)∧Ob wkH2∧Ob ((↑(lefts b n (intsOf (wkH0 l))):Int)=(↑(wG n (lefts b n l) (fun (x:Nat)↦false) yq):Int))∧Ob ((↑(lefts b n (intsOf (wkH0 l))):Int)=(↑(wT n (lefts b n l) (fun (x:Nat)↦false) yq):Int))∧Ob (Value.slice none 0 0=Value.slice (some ⟨3,0,some 0⟩) yq 0)∧Ob ((0:Int)=(yq:Int))∧True)∧(∀ (xq:Unit),Ob True→(decide ((0:Int)<(n:Int))=true→(false=true→Ob ((↑(0:Nat):Int)≠(0:Int))∧Ob ((0:Int)≤Int.tmod (0:Int) (↑(0:Nat):Int)∧Int.tmod (0:Int) (↑(0:Nat):Int)<(↑(0:Nat):Int)∧std ⟨1,0,s⟩ d=true)∧False)∧(false=false→(((wkH14 b n l)==(n:Int))=true→(decide ((0:Int)<(wkH14 b n l))=true→Ob wkH4∧(False∨∃ (yqq:Nat),Ob (0<yqq∧yqq≤n)∧Ob (n-yqq<1000001)∧(Ob (wkH8 l)∧Ob (wkH1 b n c)∧Ob (AObj.rw [vi (IntKind.i64.wrap ((wkH14 b n l)-(1:Int)))] (some 1)=AObj.rw (List.map wkH15 (List.map wkH7 (wL n (lefts b n l) (fun (xqq:Nat)↦false) yqq))) (some 1)∧AObj.sc 4 (AObj.rw (List.map wkH7 (wL n (lefts b n l) (fun (xqqq:Nat)↦false) yqq)) (some 1))=true)∧True)∧Ob (wkH5 d s)∧Ob wkH10∧Ob wkH2∧Ob (IntKind.i64.wrap ((wkH14 b n l)-(1:Int))=(↑(wG n (lefts b n l) (fun (xqqqq:Nat)↦false) yqq):Int))∧Ob ((wkH14 b n l)=(↑(wT n (lefts b n l) (fun (xqqqqq:Nat)↦false) yqq):Int))∧Ob (Value.slice (some ⟨4,0,some 0⟩) 1 0=Value.slice (some ⟨nsub wkH3 (2+2) wkH3,0,some 0⟩) yqq 0)∧Ob (IntKind.i64.wrap ((0:Int)+(1:Int))=(yqq:Int))∧True))∧(decide ((0:Int)<(wkH14 b n l))=false→Ob wkH4∧(False∨∃ (yqqq:Nat),Ob (0<yqqq∧yqqq≤n)∧Ob (n-yqqq<1000001)∧(Ob (wkH8 l)∧Ob (wkH1 b n c)∧Ob (AObj.rw [vi (wkH14 b n l)] (some 1)=AObj.rw (List.map wkH15 (List.map wkH7 (wL n (lefts b n l) (fun (xqqqqqq:Nat)↦false) yqqq))) (some 1)∧AObj.sc 4 (AObj.rw (List.map wkH7 (wL n (lefts b n l) (fun (xqqqqqqq:Nat)↦false) yqqq)) (some 1))=true)∧True)∧Ob (wkH5 d s)∧Ob wkH10∧Ob wkH2∧Ob ((wkH14 b n l)=(↑(wG n (lefts b n l) (fun (xqqqqqqqq:Nat)↦false) yqqq):Int))∧Ob (IntKind.i64.wrap ((wkH14 b n l)+(1:Int))=(↑(wT n (lefts b n l) (fun (xqqqqqqqqq:Nat)↦false) yqqq):Int))∧Ob (Value.slice (some ⟨4,0,some 0⟩) 1 0=Value.slice (some ⟨nsub wkH3 (2+2) wkH3,0,some 0⟩) yqqq 0)∧Ob (IntKind.i64.wrap ((0:Int)+(1:Int))=(yqqq:Int))∧True)))∧(((wkH14 b n l)==(n:Int))=false→Ob wkH4∧(False∨∃ (yqqqq:Nat),Ob (0<yqqqq∧yqqqq≤n)∧Ob (n-yqqqq<1000001)∧(Ob (wkH8 l)∧Ob (wkH1 b n c)∧Ob (AObj.rw [vi (wkH14 b n l)] (some 1)=AObj.rw (List.map wkH15 (List.map wkH7 (wL n (lefts b n l) (fun (xqqqqqqqqqq:Nat)↦false) yqqqq))) (some 1)∧AObj.sc 4 (AObj.rw (List.map wkH7 (wL n (lefts b n l) (fun (xqqqqqqqqqqq:Nat)↦false) yqqqq)) (some 1))=true)∧True)∧Ob (wkH5 d s)∧Ob wkH10∧Ob wkH2∧Ob ((wkH14 b n l)=(↑(wG n (lefts b n l) (fun (xqqqqqqqqqqqq:Nat)↦false) yqqqq):Int))∧Ob (IntKind.i64.wrap ((wkH14 b n l)+(1:Int))=(↑(wT n (lefts b n l) (fun (xqqqqqqqqqqqqq:Nat)↦false) yqqqq):Int))∧Ob (Value.slice (some ⟨4,0,some 0⟩) 1 0=Value.slice (some ⟨nsub wkH3 (2+2) wkH3,0,some 0⟩) yqqqq 0)∧Ob (IntKind.i64.wrap ((0:Int)+(1:Int))=(yqqqq:Int))∧True))))∧(decide ((0:Int)<(n:Int))=false→(Ob (wkH13 l)∧False)∧Ob (Value.slice none 0 0=Value.slice (some ⟨3,0,some 0⟩) n 0)∧True))∧∀ (x:Nat),Ob (0<x∧x≤n)→(decide ((x:Int)<(n:Int))=true→(false=true→Ob ((↑(0:Nat):Int)≠(0:Int))∧Ob ((0:Int)≤(x:Int).tmod (↑(0:Nat):Int)∧(x:Int).tmod (↑(0:Nat):Int)<(↑(0:Nat):Int)∧std ⟨1,0,s⟩ d=true)∧False)∧(false=false→(((↑(wT n (lefts b n l) (fun (x:Nat)↦false) x):Int)==(n:Int))=true→(decide ((0:Int)<(↑(wG n (lefts b n l) (fun (x:Nat)↦false) x):Int))=true→Ob (andP (some (0+1≤1∧true=true)) (x+1≤1099511627776∧(wkH17 x) * 8≤281474976710656∧1=1∧(List.map wkH7 (wL n (lefts b n l) (fun (x:Nat)↦false) x)).length=x * 1))∧(False∨∃ (yqqqqq:Nat),Ob (0<yqqqqq∧yqqqqq≤n)∧Ob (n-yqqqqq<n-x)∧(Ob (wkH9 l)∧Ob (wkH1 b n c)∧Ob (AObj.rw (List.map wkH7 (wL n (lefts b n l) (fun (x:Nat)↦false) x)++[vi (IntKind.i64.wrap ((↑(wG n (lefts b n l) (fun (x:Nat)↦false) x):Int)-(1:Int)))]) (some 1)=AObj.rw (List.map wkH16 (List.map wkH7 (wL n (lefts b n l) (fun (x:Nat)↦false) yqqqqq))) (some 1)∧AObj.sc 4 (AObj.rw (List.map wkH7 (wL n (lefts b n l) (fun (x:Nat)↦false) yqqqqq)) (some 1))=true)∧True)∧Ob (wkH6 d s)∧Ob wkH11∧Ob wkH2∧Ob (IntKind.i64.wrap ((↑(wG n (lefts b n l) (fun (x:Nat)↦false) x):Int)-(1:Int))=(↑(wG n (lefts b n l) (fun (x:Nat)↦false) yqqqqq):Int))∧Ob ((↑(wT n (lefts b n l) (fun (x:Nat)↦false) x):Int)=(↑(wT n (lefts b n l) (fun (x:Nat)↦false) yqqqqq):Int))∧Ob (Value.slice (some ⟨5,0,some 0⟩) (x+1) 0=Value.slice (some ⟨nsub wkH3 (2+3) wkH3,0,some 0⟩) yqqqqq 0)∧Ob (IntKind.i64.wrap ((x:Int)+(1:Int))=(yqqqqq:Int))∧True))∧(decide ((0:Int)<(↑(wG n (lefts b n l) (fun (x:Nat)↦false) x):Int))=false→Ob (andP (some (0+1≤1∧true=true)) (x+1≤1099511627776∧(wkH17 x) * 8≤281474976710656∧1=1∧(List.map wkH7 (wL n (lefts b n l) (fun (x:Nat)↦false) x)).length=x * 1))∧(False∨∃ (yqqqqqq:Nat),Ob (0<yqqqqqq∧yqqqqqq≤n)∧Ob (n-yqqqqqq<n-x)∧(Ob (wkH9 l)∧Ob (wkH1 b n c)∧Ob (AObj.rw (List.map wkH7 (wL n (lefts b n l) (fun (x:Nat)↦false) x)++[vi (↑(wT n (lefts b n l) (fun (x:Nat)↦false) x):Int)]) (some 1)=AObj.rw (List.map wkH16 (List.map wkH7 (wL n (lefts b n l) (fun (x:Nat)↦false) yqqqqqq))) (some 1)∧AObj.sc 4 (AObj.rw (List.map wkH7 (wL n (lefts b n l) (fun (x:Nat)↦false) yqqqqqq)) (some 1))=true)∧True)∧Ob (wkH6 d s)∧Ob wkH11∧Ob wkH2∧Ob ((↑(wG n (lefts b n l) (fun (x:Nat)↦false) x):Int)=(↑(wG n (lefts b n l) (fun (x:Nat)↦false) yqqqqqq):Int))∧Ob (IntKind.i64.wrap ((↑(wT n (lefts b n l) (fun (x:Nat)↦false) x):Int)+(1:Int))=(↑(wT n (lefts b n l) (fun (x:Nat)↦false) yqqqqqq):Int))∧Ob (Value.slice (some ⟨5,0,some 0⟩) (x+1) 0=Value.slice (some ⟨nsub wkH3 (2+3) wkH3,0,some 0⟩) yqqqqqq 0)∧Ob (IntKind.i64.wrap ((x:Int)+(1:Int))=(yqqqqqq:Int))∧True)))∧(((↑(wT n (lefts b n l) (fun (x:Nat)↦false) x):Int)==(n:Int))=false→Ob (andP (some (0+1≤1∧true=true)) (x+1≤1099511627776∧(wkH17 x) * 8≤281474976710656∧1=1∧(List.map wkH7 (wL n (lefts b n l) (fun (x:Nat)↦false) x)).length=x * 1))∧(False∨∃ (yqqqqqqq:Nat),Ob (0<yqqqqqqq∧yqqqqqqq≤n)∧Ob (n-yqqqqqqq<n-x)∧(Ob (wkH9 l)∧Ob (wkH1 b n c)∧Ob (AObj.rw (List.map wkH7 (wL n (lefts b n l) (fun (x:Nat)↦false) x)++[vi (↑(wT n (lefts b n l) (fun (x:Nat)↦false) x):Int)]) (some 1)=AObj.rw (List.map wkH16 (List.map wkH7 (wL n (lefts b n l) (fun (x:Nat)↦false) yqqqqqqq))) (some 1)∧AObj.sc 4 (AObj.rw (List.map wkH7 (wL n (lefts b n l) (fun (x:Nat)↦false) yqqqqqqq)) (some 1))=true)∧True)∧Ob (wkH6 d s)∧Ob wkH11∧Ob wkH2∧Ob ((↑(wG n (lefts b n l) (fun (x:Nat)↦false) x):Int)=(↑(wG n (lefts b n l) (fun (x:Nat)↦false) yqqqqqqq):Int))∧Ob (IntKind.i64.wrap ((↑(wT n (lefts b n l) (fun (x:Nat)↦false) x):Int)+(1:Int))=(↑(wT n (lefts b n l) (fun (x:Nat)↦false) yqqqqqqq):Int))∧Ob (Value.slice (some ⟨5,0,some 0⟩) (x+1) 0=Value.slice (some ⟨nsub wkH3 (2+3) wkH3,0,some 0⟩) yqqqqqqq 0)∧Ob (IntKind.i64.wrap ((x:Int)+(1:Int))=(yqqqqqqq:Int))∧True))))∧(decide ((x:Int)<(n:Int))=false→(Ob (wkH13 l)∧Ob (AObj.rw (List.map wkH7 (wL n (lefts b n l) (fun (x:Nat)↦false) x)) (some 1)=AObj.rw (List.map (nmap1 (nsub 2 3)) (List.map wkH7 (wL n (lefts b n l) (fun (x:Nat)↦false) n))) (some 1)∧AObj.sc 3 (AObj.rw (List.map wkH7 (wL n (lefts b n l) (fun (x:Nat)↦false) n)) (some 1))=true)∧True)∧Ob (Value.slice (some ⟨2+1,0,some 0⟩) x 0=Value.slice (some ⟨3,0,some 0⟩) n 0)∧True)
theorem wkH_eq : wkH = fun (b : Int) (n c d : Nat) (s : Option Nat) (l : List Int) => vc Try.prog wkE 2 57 true (wkI b n c l (fun _ => false) (.slice (some ⟨1,0,s⟩) 0 d) [ros l,.gone]) wkB [] (argFr 0 [pierV b (some ⟨0,0,none⟩) n c,.slice (some ⟨1,0,s⟩) 0 d]) [ros l,.gone] (retR Try.prog Try.f46 2 (nsub 2 3) (newS 2 n) [ros l,.gone,rws (wL n (lefts b n l) (fun _ => false) n)]) := by kernel_rfl
noncomputable def wkV0 (b:Int) (n:Nat) (l:List Int) (q:List Int) (xq:Nat) := (andP (some (0+1≤1∧true=true)) (xq+1≤1099511627776∧(2 * (xq+1)+256) * 8≤281474976710656∧1=1∧(List.map (Value.int IntKind.i64) (wL n (lefts b n l) (onB q) xq)).length=xq * 1))
noncomputable def wkV1 (b:Int) (n:Nat) (c:Nat):Prop := (AObj.rw [vi b,Value.slice (some (ad0 0)) n c] none=AObj.rw [vi b,Value.slice (some (ad0 0)) n c] none∧true=true)
noncomputable def wkV2 (l:List Int) := (List.map (Value.int IntKind.i64) l)
noncomputable def wkV3 (q:List Int) := (List.map (Value.int IntKind.u8) q)
noncomputable def wkV4  := ((2 : Nat) + (1 : Nat))
noncomputable def wkV5  := (andP (some ((0 : Nat) + (1 : Nat)≤(1 : Nat)∧true = true)) ((1 : Nat)≤(1099511627776 : Nat)∧(2064 : Nat)≤(281474976710656 : Nat)∧(1 : Nat) = (1 : Nat)∧(0 : Nat) = (0 : Nat)∧(0 : Nat) < (1 : Nat)))
noncomputable def wkV6  : Prop := (Value.slice none (0 : Nat) (0 : Nat) = Value.slice none (0 : Nat) (0 : Nat))
noncomputable def wkV7 (d:Nat) (q:List Int):Prop := (Value.slice (some (ad0 1)) q.length d=Value.slice (some ⟨nsub wkV4 (2+2) 1,0,none⟩) q.length d)
noncomputable def wkV8 (d:Nat) (q:List Int):Prop := (Value.slice (some (ad0 1)) q.length d=Value.slice (some ⟨nsub wkV4 (2+3) 1,0,none⟩) q.length d)
noncomputable def wkV9 (l:List Int):Prop := (AObj.ro (wkV2 l)=AObj.ro (List.map (nmap1 (nsub wkV4 (2+2))) (wkV2 l))∧AObj.sc 4 (AObj.ro (wkV2 l))=true)
noncomputable def wkV10 (q:List Int):Prop := (AObj.ro (wkV3 q)=AObj.ro (List.map (nmap1 (nsub wkV4 (2+2))) (wkV3 q))∧AObj.sc 4 (AObj.ro (wkV3 q))=true)
noncomputable def wkV11 (l:List Int):Prop := (AObj.ro (wkV2 l)=AObj.ro (List.map (nmap1 (nsub wkV4 (2+3))) (wkV2 l))∧AObj.sc 4 (AObj.ro (wkV2 l))=true)
noncomputable def wkV12 (q:List Int):Prop := (AObj.ro (wkV3 q)=AObj.ro (List.map (nmap1 (nsub wkV4 (2+3))) (wkV3 q))∧AObj.sc 4 (AObj.ro (wkV3 q))=true)
noncomputable def wkV13  : Prop := (ptr0 2 = Value.pointer (some { block := nsub wkV4 ((2 : Nat) + (2 : Nat)) (2 : Nat),off := (0 : Nat),spot := none }))
noncomputable def wkV14  : Prop := (ptr0 2 = Value.pointer (some { block := nsub wkV4 ((2 : Nat) + (3 : Nat)) (2 : Nat),off := (0 : Nat),spot := none }))
noncomputable def wkV15  := (Value.int IntKind.i64)
noncomputable def wkV16 (b:Int) (n:Nat) (l:List Int) (q:List Int) (xq:Nat) := (↑(wG n (lefts b n l) (onB q) xq):Int)
noncomputable def wkV17 (b:Int) (n:Nat) (l:List Int) (q:List Int) (xq:Nat) := (↑(wT n (lefts b n l) (onB q) xq):Int)
noncomputable def wkV18  := (nmap1 (nsub wkV4 ((2 : Nat) + (2 : Nat))))
noncomputable def wkV19  := (nmap1 (nsub wkV4 ((2 : Nat) + (3 : Nat))))
noncomputable def wkV20 (b:Int) (n:Nat) (l:List Int) := (↑(lefts b n l):Int)
noncomputable def wkV21 (b:Int) (n:Nat) (l:List Int) (q:List Int) (xq:Nat) := (List.map wkV15 (wL n (lefts b n l) (onB q) xq)++[vi (wkV17 b n l q xq)])
noncomputable def wkV22 (b:Int) (n:Nat) (l:List Int) (q:List Int) (xq:Nat) := (List.map wkV15 (wL n (lefts b n l) (onB q) xq)++[vi (IntKind.i64.wrap ((wkV16 b n l q xq)-(1:Int)))])
noncomputable def wkV23  (xq:Nat) := ((xq:Int)+(1:Int))
noncomputable def wkV24 (l:List Int):Prop := (AObj.ro (wkV2 l)=AObj.ro (List.map (nmap1 (nsub 2 3)) (wkV2 l))∧AObj.sc 3 (AObj.ro (wkV2 l))=true)
noncomputable def wkV25 (q:List Int):Prop := (AObj.ro (wkV3 q)=AObj.ro (List.map (nmap1 (nsub 2 3)) (wkV3 q))∧AObj.sc 3 (AObj.ro (wkV3 q))=true)
noncomputable def wkV26 (q:List Int) := (0+(Int.tmod (0:Int) (q.length:Int)).toNat * 1)
noncomputable def wkV27 (q:List Int) (xq:Nat) := (0+((xq:Int).tmod (q.length:Int)).toNat * 1)
noncomputable def wkV28  := ((2 : Nat) + (2 : Nat))
noncomputable def wkV29  := ((0 : Int) + (1 : Int))
noncomputable def wkV30  := ((2 : Nat) + (3 : Nat))
noncomputable def wkV :=
fun (b:Int) (n c d:Nat) (l q:List Int)↦Ob ((true=true∧Flat (wkV2 l))∧okL (Leaf.view (wkV2 l) n false))∧((∃ (y:Unit),Ob True∧(Ob (AObj.ro (wkV2 l)=AObj.ro (List.map (nmap1 fun (bq:Nat)↦bq) (wkV2 l))∧AObj.sc 3 (AObj.ro (wkV2 l))=true)∧Ob (AObj.ro (wkV3 q)=AObj.ro (List.map (nmap1 fun (bqq:Nat)↦bqq) (wkV3 q))∧AObj.sc 3 (AObj.ro (wkV3 q))=true)∧Ob (wkV1 b n c)∧True)∧Ob (Value.slice (some (ad0 1)) q.length d=Value.slice (some (ad0 1)) q.length d)∧Ob (ptr0 2=ptr0 2)∧Ob wkV6∧Ob ((↑(lefts b n (intsOf (wkV2 l))):Int)=(wkV20 b n l))∧Ob ((↑(lefts b n (intsOf (wkV2 l))):Int)=(wkV20 b n l))∧Ob wkV6∧Ob ((0:Int)=(0:Int))∧True)∨∃ (yq:Nat),Ob (0<yq∧yq≤n)∧(Ob (AObj.ro (wkV2 l)=AObj.ro (List.map (nmap1 fun (bqqq:Nat)↦bqqq) (wkV2 l))∧AObj.sc 4 (AObj.ro (wkV2 l))=true)∧Ob (AObj.ro (wkV3 q)=AObj.ro (List.map (nmap1 fun (bqqqq:Nat)↦bqqqq) (wkV3 q))∧AObj.sc 4 (AObj.ro (wkV3 q))=true)∧Ob (wkV1 b n c)∧False)∧Ob (Value.slice (some (ad0 1)) q.length d=Value.slice (some (ad0 1)) q.length d)∧Ob (ptr0 2=ptr0 2)∧Ob wkV6∧Ob ((↑(lefts b n (intsOf (wkV2 l))):Int)=(↑(wG n (lefts b n l) (onB q) yq):Int))∧Ob ((↑(lefts b n (intsOf (wkV2 l))):Int)=(↑(wT n (lefts b n l) (onB q) yq):Int))∧Ob (Value.slice none 0 0=Value.slice (some ⟨3,0,some 0⟩) yq 0)∧Ob ((0:Int)=(yq:Int))∧True)∧(∀ (x:Unit),Ob True→(decide ((0:Int)<(n:Int))=true→(decide ((0:Int)<(q.length:Int))=true→Ob ((q.length:Int)≠(0:Int))∧Ob ((0:Int)≤Int.tmod (0:Int) (q.length:Int)∧Int.tmod (0:Int) (q.length:Int)<(q.length:Int)∧true=true)∧Ob (IntAt IntKind.u8 (wkV3 q) (wkV26 q))∧Ob ((2:Int)≠(0:Int))∧(((getI (wkV3 q) (wkV26 q)).tmod (2:Int)==(1:Int))=true→(decide ((0:Int)<(wkV20 b n l))=true→Ob wkV5∧(False∨∃ (yqq:Nat),Ob (0<yqq∧yqq≤n)∧Ob (n-yqq<1000001)∧(Ob (wkV9 l)∧Ob (wkV10 q)∧Ob (wkV1 b n c)∧Ob (AObj.rw [vi (IntKind.i64.wrap ((wkV20 b n l)-(1:Int)))] (some 1)=AObj.rw (List.map wkV18 (List.map wkV15 (wL n (lefts b n l) (onB q) yqq))) (some 1)∧AObj.sc 4 (AObj.rw (List.map wkV15 (wL n (lefts b n l) (onB q) yqq)) (some 1))=true)∧True)∧Ob (wkV7 d q)∧Ob wkV13∧Ob wkV6∧Ob (IntKind.i64.wrap ((wkV20 b n l)-(1:Int))=(↑(wG n (lefts b n l) (onB q) yqq):Int))∧Ob ((wkV20 b n l)=(↑(wT n (lefts b n l) (onB q) yqq):Int))∧Ob (Value.slice (some ⟨4,0,some 0⟩) 1 0=Value.slice (some ⟨nsub wkV4 wkV28 wkV4,0,some 0⟩) yqq 0)∧Ob (IntKind.i64.wrap wkV29=(yqq:Int))∧True))∧(decide ((0:Int)<(wkV20 b n l))=false→Ob wkV5∧(False∨∃ (yqqq:Nat),Ob (0<yqqq∧yqqq≤n)∧Ob (n-yqqq<1000001)∧(Ob (wkV9 l)∧Ob (wkV10 q)∧Ob (wkV1 b n c)∧Ob (AObj.rw [vi (wkV20 b n l)] (some 1)=AObj.rw (List.map wkV18 (List.map wkV15 (wL n (lefts b n l) (onB q) yqqq))) (some 1)∧AObj.sc 4 (AObj.rw (List.map wkV15 (wL n (lefts b n l) (onB q) yqqq)) (some 1))=true)∧True)∧Ob (wkV7 d q)∧Ob wkV13∧Ob wkV6∧Ob ((wkV20 b n l)=(↑(wG n (lefts b n l) (onB q) yqqq):Int))∧Ob (IntKind.i64.wrap ((wkV20 b n l)+(1:Int))=(↑(wT n (lefts b n l) (onB q) yqqq):Int))∧Ob (Value.slice (some ⟨4,0,some 0⟩) 1 0=Value.slice (some ⟨nsub wkV4 wkV28 wkV4,0,some 0⟩) yqqq 0)∧Ob (IntKind.i64.wrap wkV29=(yqqq:Int))∧True)))∧(((getI (wkV3 q) (wkV26 q)).tmod (2:Int)==(1:Int))=false→(((wkV20 b n l)==(n:Int))=true→(decide ((0:Int)<(wkV20 b n l))=true→Ob wkV5∧(False∨∃ (yqqqq:Nat),Ob (0<yqqqq∧yqqqq≤n)∧Ob (n-yqqqq<1000001)∧(Ob (wkV9 l)∧Ob (wkV10 q)∧Ob (wkV1 b n c)∧Ob (AObj.rw [vi (IntKind.i64.wrap ((wkV20 b n l)-(1:Int)))] (some 1)=AObj.rw (List.map wkV18 (List.map wkV15 (wL n (lefts b n l) (onB q) yqqqq))) (some 1)∧AObj.sc 4 (AObj.rw (List.map wkV15 (wL n (lefts b n l) (onB q) yqqqq)) (some 1))=true)∧True)∧Ob (wkV7 d q)∧Ob wkV13∧Ob wkV6∧Ob (IntKind.i64.wrap ((wkV20 b n l)-(1:Int))=(↑(wG n (lefts b n l) (onB q) yqqqq):Int))∧Ob ((wkV20 b n l)=(↑(wT n (lefts b n l) (onB q) yqqqq):Int))∧Ob (Value.slice (some ⟨4,0,some 0⟩) 1 0=Value.slice (some ⟨nsub wkV4 wkV28 wkV4,0,some 0⟩) yqqqq 0)∧Ob (IntKind.i64.wrap wkV29=(yqqqq:Int))∧True))∧(decide ((0:Int)<(wkV20 b n l))=false→Ob wkV5∧(False∨∃ (yqqqqq:Nat),Ob (0<yqqqqq∧yqqqqq≤n)∧Ob (n-yqqqqq<1000001)∧(Ob (wkV9 l)∧Ob (wkV10 q)∧Ob (wkV1 b n c)∧Ob (AObj.rw [vi (wkV20 b n l)] (some 1)=AObj.rw (List.map wkV18 (List.map wkV15 (wL n (lefts b n l) (onB q) yqqqqq))) (some 1)∧AObj.sc 4 (AObj.rw (List.map wkV15 (wL n (lefts b n l) (onB q) yqqqqq)) (some 1))=true)∧True)∧Ob (wkV7 d q)∧Ob wkV13∧Ob wkV6∧Ob ((wkV20 b n l)=(↑(wG n (lefts b n l) (onB q) yqqqqq):Int))∧Ob (IntKind.i64.wrap ((wkV20 b n l)+(1:Int))=(↑(wT n (lefts b n l) (onB q) yqqqqq):Int))∧Ob (Value.slice (some ⟨4,0,some 0⟩) 1 0=Value.slice (some ⟨nsub wkV4 wkV28 wkV4,0,some 0⟩) yqqqqq 0)∧Ob (IntKind.i64.wrap wkV29=(yqqqqq:Int))∧True)))∧(((wkV20 b n l)==(n:Int))=false→Ob wkV5∧(False∨∃ (yqqqqqq:Nat),Ob (0<yqqqqqq∧yqqqqqq≤n)∧Ob (n-yqqqqqq<1000001)∧(Ob (wkV9 l)∧Ob (wkV10 q)∧Ob (wkV1 b n c)∧Ob (AObj.rw [vi (wkV20 b n l)] (some 1)=AObj.rw (List.map wkV18 (List.map wkV15 (wL n (lefts b n l) (onB q) yqqqqqq))) (some 1)∧AObj.sc 4 (AObj.rw (List.map wkV15 (wL n (lefts b n l) (onB q) yqqqqqq)) (some 1))=true)∧True)∧Ob (wkV7 d q)∧Ob wkV13∧Ob wkV6∧Ob ((wkV20 b n l)=(↑(wG n (lefts b n l) (onB q) yqqqqqq):Int))∧Ob (IntKind.i64.wrap ((wkV20 b n l)+(1:Int))=(↑(wT n (lefts b n l) (onB q) yqqqqqq):Int))∧Ob (Value.slice (some ⟨4,0,some 0⟩) 1 0=Value.slice (some ⟨nsub wkV4 wkV28 wkV4,0,some 0⟩) yqqqqqq 0)∧Ob (IntKind.i64.wrap wkV29=(yqqqqqq:Int))∧True))))∧(decide ((0:Int)<(q.length:Int))=false→(((wkV20 b n l)==(n:Int))=true→(decide ((0:Int)<(wkV20 b n l))=true→Ob wkV5∧(False∨∃ (yqqqqqqq:Nat),Ob (0<yqqqqqqq∧yqqqqqqq≤n)∧Ob (n-yqqqqqqq<1000001)∧(Ob (wkV9 l)∧Ob (wkV10 q)∧Ob (wkV1 b n c)∧Ob (AObj.rw [vi (IntKind.i64.wrap ((wkV20 b n l)-(1:Int)))] (some 1)=AObj.rw (List.map wkV18 (List.map wkV15 (wL n (lefts b n l) (onB q) yqqqqqqq))) (some 1)∧AObj.sc 4 (AObj.rw (List.map wkV15 (wL n (lefts b n l) (onB q) yqqqqqqq)) (some 1))=true)∧True)∧Ob (wkV7 d q)∧Ob wkV13∧Ob wkV6∧Ob (IntKind.i64.wrap ((wkV20 b n l)-(1:Int))=(↑(wG n (lefts b n l) (onB q) yqqqqqqq):Int))∧Ob ((wkV20 b n l)=(↑(wT n (lefts b n l) (onB q) yqqqqqqq):Int))∧Ob (Value.slice (some ⟨4,0,some 0⟩) 1 0=Value.slice (some ⟨nsub wkV4 wkV28 wkV4,0,some 0⟩) yqqqqqqq 0)∧Ob (IntKind.i64.wrap wkV29=(yqqqqqqq:Int))∧True))∧(decide ((0:Int)<(wkV20 b n l))=false→Ob wkV5∧(False∨∃ (yqqqqqqqq:Nat),Ob (0<yqqqqqqqq∧yqqqqqqqq≤n)∧Ob (n-yqqqqqqqq<1000001)∧(Ob (wkV9 l)∧Ob (wkV10 q)∧Ob (wkV1 b n c)∧Ob (AObj.rw [vi (wkV20 b n l)] (some 1)=AObj.rw (List.map wkV18 (List.map wkV15 (wL n (lefts b n l) (onB q) yqqqqqqqq))) (some 1)∧AObj.sc 4 (AObj.rw (List.map wkV15 (wL n (lefts b n l) (onB q) yqqqqqqqq)) (some 1))=true)∧True)∧Ob (wkV7 d q)∧Ob wkV13∧Ob wkV6∧Ob ((wkV20 b n l)=(↑(wG n (lefts b n l) (onB q) yqqqqqqqq):Int))∧Ob (IntKind.i64.wrap ((wkV20 b n l)+(1:Int))=(↑(wT n (lefts b n l) (onB q) yqqqqqqqq):Int))∧Ob (Value.slice (some ⟨4,0,some 0⟩) 1 0=Value.slice (some ⟨nsub wkV4 wkV28 wkV4,0,some 0⟩) yqqqqqqqq 0)∧Ob (IntKind.i64.wrap wkV29=(yqqqqqqqq:Int))∧True)))∧(((wkV20 b n l)==(n:Int))=false→Ob wkV5∧(False∨∃ (yqqqqqqqqq:Nat),Ob (0<yqqqqqqqqq∧yqqqqqqqqq≤n)∧Ob (n-yqqqqqqqqq<1000001)∧(Ob (wkV9 l)∧Ob (wkV10 q)∧Ob (wkV1 b n c)∧Ob (AObj.rw [vi (wkV20 b n l)] (some 1)=AObj.rw (List.map wkV18 (List.map wkV15 (wL n (lefts b n l) (onB q) yqqqqqqqqq))) (some 1)∧AObj.sc 4 (AObj.rw (List.map wkV15 (wL n (lefts b n l) (onB q) yqqqqqqqqq)) (some 1))=true)∧True)∧Ob (wkV7 d q)∧Ob wkV13∧Ob wkV6∧Ob ((wkV20 b n l)=(↑(wG n (lefts b n l) (onB q) yqqqqqqqqq):Int))∧Ob (IntKind.i64.wrap ((wkV20 b n l)+(1:Int))=(↑(wT n (lefts b n l) (onB q) yqqqqqqqqq):Int))∧Ob (Value.slice (some ⟨4,0,some 0⟩) 1 0=Value.slice (some ⟨nsub wkV4 wkV28 wkV4,0,some 0⟩) yqqqqqqqqq 0)∧Ob (IntKind.i64.wrap wkV29=(yqqqqqqqqq:Int))∧True))))∧(decide ((0:Int)<(n:Int))=false→(Ob (wkV24 l)∧Ob (wkV25 q)∧False)∧Ob (Value.slice none 0 0=Value.slice (some ⟨3,0,some 0⟩) n 0)∧True))∧∀ (xq:Nat),Ob (0<xq∧xq≤n)→(decide ((xq:Int)<(n:Int))=true→(decide ((0:Int)<(q.length:Int))=true→Ob ((q.length:Int)≠(0:Int))∧Ob ((0:Int)≤(xq:Int).tmod (q.length:Int)∧(xq:Int).tmod (q.length:Int)<(q.length:Int)∧true=true)∧Ob (IntAt IntKind.u8 (wkV3 q) (wkV27 q xq))∧Ob ((2:Int)≠(0:Int))∧(((getI (wkV3 q) (wkV27 q xq)).tmod (2:Int)==(1:Int))=true→(decide ((0:Int)<(wkV16 b n l q xq))=true→Ob (wkV0 b n l q xq)∧(False∨∃ (yqqqqqqqqqq:Nat),Ob (0<yqqqqqqqqqq∧yqqqqqqqqqq≤n)∧Ob (n-yqqqqqqqqqq<n-xq)∧(Ob (wkV11 l)∧Ob (wkV12 q)∧Ob (wkV1 b n c)∧Ob (AObj.rw (wkV22 b n l q xq) (some 1)=AObj.rw (List.map wkV19 (List.map wkV15 (wL n (lefts b n l) (onB q) yqqqqqqqqqq))) (some 1)∧AObj.sc 4 (AObj.rw (List.map wkV15 (wL n (lefts b n l) (onB q) yqqqqqqqqqq)) (some 1))=true)∧True)∧Ob (wkV8 d q)∧Ob wkV14∧Ob wkV6∧Ob (IntKind.i64.wrap ((wkV16 b n l q xq)-(1:Int))=(↑(wG n (lefts b n l) (onB q) yqqqqqqqqqq):Int))∧Ob ((wkV17 b n l q xq)=(↑(wT n (lefts b n l) (onB q) yqqqqqqqqqq):Int))∧Ob (Value.slice (some ⟨5,0,some 0⟩) (xq+1) 0=Value.slice (some ⟨nsub wkV4 wkV30 wkV4,0,some 0⟩) yqqqqqqqqqq 0)∧Ob (IntKind.i64.wrap (wkV23 xq)=(yqqqqqqqqqq:Int))∧True))∧(decide ((0:Int)<(wkV16 b n l q xq))=false→Ob (wkV0 b n l q xq)∧(False∨∃ (yqqqqqqqqqqq:Nat),Ob (0<yqqqqqqqqqqq∧yqqqqqqqqqqq≤n)∧Ob (n-yqqqqqqqqqqq<n-xq)∧(Ob (wkV11 l)∧Ob (wkV12 q)∧Ob (wkV1 b n c)∧Ob (AObj.rw (wkV21 b n l q xq) (some 1)=AObj.rw (List.map wkV19 (List.map wkV15 (wL n (lefts b n l) (onB q) yqqqqqqqqqqq))) (some 1)∧AObj.sc 4 (AObj.rw (List.map wkV15 (wL n (lefts b n l) (onB q) yqqqqqqqqqqq)) (some 1))=true)∧True)∧Ob (wkV8 d q)∧Ob wkV14∧Ob wkV6∧Ob ((wkV16 b n l q xq)=(↑(wG n (lefts b n l) (onB q) yqqqqqqqqqqq):Int))∧Ob (IntKind.i64.wrap ((wkV17 b n l q xq)+(1:Int))=(↑(wT n (lefts b n l) (onB q) yqqqqqqqqqqq):Int))∧Ob (Value.slice (some ⟨5,0,some 0⟩) (xq+1) 0=Value.slice (some ⟨nsub wkV4 wkV30 wkV4,0,some 0⟩) yqqqqqqqqqqq 0)∧Ob (IntKind.i64.wrap (wkV23 xq)=(yqqqqqqqqqqq:Int))∧True)))∧(((getI (wkV3 q) (wkV27 q xq)).tmod (2:Int)==(1:Int))=false→(((wkV17 b n l q xq)==(n:Int))=true→(decide ((0:Int)<(wkV16 b n l q xq))=true→Ob (wkV0 b n l q xq)∧(False∨∃ (yqqqqqqqqqqqq:Nat),Ob (0<yqqqqqqqqqqqq∧yqqqqqqqqqqqq≤n)∧Ob (n-yqqqqqqqqqqqq<n-xq)∧(Ob (wkV11 l)∧Ob (wkV12 q)∧Ob (wkV1 b n c)∧Ob (AObj.rw (wkV22 b n l q xq) (some 1)=AObj.rw (List.map wkV19 (List.map wkV15 (wL n (lefts b n l) (onB q) yqqqqqqqqqqqq))) (some 1)∧AObj.sc 4 (AObj.rw (List.map wkV15 (wL n (lefts b n l) (onB q) yqqqqqqqqqqqq)) (some 1))=true)∧True)∧Ob (wkV8 d q)∧Ob wkV14∧Ob wkV6∧Ob (IntKind.i64.wrap ((wkV16 b n l q xq)-(1:Int))=(↑(wG n (lefts b n l) (onB q) yqqqqqqqqqqqq):Int))∧Ob ((wkV17 b n l q xq)=(↑(wT n (lefts b n l) (onB q) yqqqqqqqqqqqq):Int))∧Ob (Value.slice (some ⟨5,0,some 0⟩) (xq+1) 0=Value.slice (some ⟨nsub wkV4 wkV30 wkV4,0,some 0⟩) yqqqqqqqqqqqq 0)∧Ob (IntKind.i64.wrap (wkV23 xq)=(yqqqqqqqqqqqq:Int))∧True))∧(decide ((0:Int)<(wkV16 b n l q xq))=false→Ob (wkV0 b n l q xq)∧(False∨∃ (yqqqqqqqqqqqqq:Nat),Ob (0<yqqqqqqqqqqqqq∧yqqqqqqqqqqqqq≤n)∧Ob (n-yqqqqqqqqqqqqq<n-xq)∧(Ob (wkV11 l)∧Ob (wkV12 q)∧Ob (wkV1 b n c)∧Ob (AObj.rw (wkV21 b n l q xq) (some 1)=AObj.rw (List.map wkV19 (List.map wkV15 (wL n (lefts b n l) (onB q) yqqqqqqqqqqqqq))) (some 1)∧AObj.sc 4 (AObj.rw (List.map wkV15 (wL n (lefts b n l) (onB q) yqqqqqqqqqqqqq)) (some 1))=true)∧True)∧Ob (wkV8 d q)∧Ob wkV14∧Ob wkV6∧Ob ((wkV16 b n l q xq)=(↑(wG n (lefts b n l) (onB q) yqqqqqqqqqqqqq):Int))∧Ob (IntKind.i64.wrap ((wkV17 b n l q xq)+(1:Int))=(↑(wT n (lefts b n l) (onB q) yqqqqqqqqqqqqq):Int))∧Ob (Value.slice (some ⟨5,0,some 0⟩) (xq+1) 0=Value.slice (some ⟨nsub wkV4 wkV30 wkV4,0,some 0⟩) yqqqqqqqqqqqqq 0)∧Ob (IntKind.i64.wrap (wkV23 xq)=(yqqqqqqqqqqqqq:Int))∧True)))∧(((wkV17 b n l q xq)==(n:Int))=false→Ob (wkV0 b n l q xq)∧(False∨∃ (yqqqqqqqqqqqqqq:Nat),Ob (0<yqqqqqqqqqqqqqq∧yqqqqqqqqqqqqqq≤n)∧Ob (n-yqqqqqqqqqqqqqq<n-xq)∧(Ob (wkV11 l)∧Ob (wkV12 q)∧Ob (wkV1 b n c)∧Ob (AObj.rw (wkV21 b n l q xq) (some 1)=AObj.rw (List.map wkV19 (List.map wkV15 (wL n (lefts b n l) (onB q) yqqqqqqqqqqqqqq))) (some 1)∧AObj.sc 4 (AObj.rw (List.map wkV15 (wL n (lefts b n l) (onB q) yqqqqqqqqqqqqqq)) (some 1))=true)∧True)∧Ob (wkV8 d q)∧Ob wkV14∧Ob wkV6∧Ob ((wkV16 b n l q xq)=(↑(wG n (lefts b n l) (onB q) yqqqqqqqqqqqqqq):Int))∧Ob (IntKind.i64.wrap ((wkV17 b n l q xq)+(1:Int))=(↑(wT n (lefts b n l) (onB q) yqqqqqqqqqqqqqq):Int))∧Ob (Value.slice (some ⟨5,0,some 0⟩) (xq+1) 0=Value.slice (some ⟨nsub wkV4 wkV30 wkV4,0,some 0⟩) yqqqqqqqqqqqqqq 0)∧Ob (IntKind.i64.wrap (wkV23 xq)=(yqqqqqqqqqqqqqq:Int))∧True))))∧(decide ((0:Int)<(q.length:Int))=false→(((wkV17 b n l q xq)==(n:Int))=true→(decide ((0:Int)<(wkV16 b n l q xq))=true→Ob (wkV0 b n l q xq)∧(False∨∃ (yqqqqqqqqqqqqqqq:Nat),Ob (0<yqqqqqqqqqqqqqqq∧yqqqqqqqqqqqqqqq≤n)∧Ob (n-yqqqqqqqqqqqqqqq<n-xq)∧(Ob (wkV11 l)∧Ob (wkV12 q)∧Ob (wkV1 b n c)∧Ob (AObj.rw (wkV22 b n l q xq) (some 1)=AObj.rw (List.map wkV19 (List.map wkV15 (wL n (lefts b n l) (onB q) yqqqqqqqqqqqqqqq))) (some 1)∧AObj.sc 4 (AObj.rw (List.map wkV15 (wL n (lefts b n l) (onB q) yqqqqqqqqqqqqqqq)) (some 1))=true)∧True)∧Ob (wkV8 d q)∧Ob wkV14∧Ob wkV6∧Ob (IntKind.i64.wrap ((wkV16 b n l q xq)-(1:Int))=(↑(wG n (lefts b n l) (onB q) yqqqqqqqqqqqqqqq):Int))∧Ob ((wkV17 b n l q xq)=(↑(wT n (lefts b n l) (onB q) yqqqqqqqqqqqqqqq):Int))∧Ob (Value.slice (some ⟨5,0,some 0⟩) (xq+1) 0=Value.slice (some ⟨nsub wkV4 wkV30 wkV4,0,some 0⟩) yqqqqqqqqqqqqqqq 0)∧Ob (IntKind.i64.wrap (wkV23 xq)=(yqqqqqqqqqqqqqqq:Int))∧True))∧(decide ((0:Int)<(wkV16 b n l q xq))=false→Ob (wkV0 b n l q xq)∧(False∨∃ (yqqqqqqqqqqqqqqqq:Nat),Ob (0<yqqqqqqqqqqqqqqqq∧yqqqqqqqqqqqqqqqq≤n)∧Ob (n-yqqqqqqqqqqqqqqqq<n-xq)∧(Ob (wkV11 l)∧Ob (wkV12 q)∧Ob (wkV1 b n c)∧Ob (AObj.rw (wkV21 b n l q xq) (some 1)=AObj.rw (List.map wkV19 (List.map wkV15 (wL n (lefts b n l) (onB q) yqqqqqqqqqqqqqqqq))) (some 1)∧AObj.sc 4 (AObj.rw (List.map wkV15 (wL n (lefts b n l) (onB q) yqqqqqqqqqqqqqqqq)) (some 1))=true)∧True)∧Ob (wkV8 d q)∧Ob wkV14∧Ob wkV6∧Ob ((wkV16 b n l q xq)=(↑(wG n (lefts b n l) (onB q) yqqqqqqqqqqqqqqqq):Int))∧Ob (IntKind.i64.wrap ((wkV17 b n l q xq)+(1:Int))=(↑(wT n (lefts b n l) (onB q) yqqqqqqqqqqqqqqqq):Int))∧Ob (Value.slice (some ⟨5,0,some 0⟩) (xq+1) 0=Value.slice (some ⟨nsub wkV4 wkV30 wkV4,0,some 0⟩) yqqqqqqqqqqqqqqqq 0)∧Ob (IntKind.i64.wrap (wkV23 xq)=(yqqqqqqqqqqqqqqqq:Int))∧True)))∧(((wkV17 b n l q xq)==(n:Int))=false→Ob (wkV0 b n l q xq)∧(False∨∃ (yqqqqqqqqqqqqqqqqq:Nat),Ob (0<yqqqqqqqqqqqqqqqqq∧yqqqqqqqqqqqqqqqqq≤n)∧Ob (n-yqqqqqqqqqqqqqqqqq<n-xq)∧(Ob (wkV11 l)∧Ob (wkV12 q)∧Ob (wkV1 b n c)∧Ob (AObj.rw (wkV21 b n l q xq) (some 1)=AObj.rw (List.map wkV19 (List.map wkV15 (wL n (lefts b n l) (onB q) yqqqqqqqqqqqqqqqqq))) (some 1)∧AObj.sc 4 (AObj.rw (List.map wkV15 (wL n (lefts b n l) (onB q) yqqqqqqqqqqqqqqqqq)) (some 1))=true)∧True)∧Ob (wkV8 d q)∧Ob wkV14∧Ob wkV6∧Ob ((wkV16 b n l q xq)=(↑(wG n (lefts b n l) (onB q) yqqqqqqqqqqqqqqqqq):Int))∧Ob (IntKind.i64.wrap ((wkV17 b n l q xq)+(1:Int))=(↑(wT n (lefts b n l) (onB q) yqqqqqqqqqqqqqqqqq):Int))∧Ob (Value.slice (some ⟨5,0,some 0⟩) (xq+1) 0=Value.slice (some ⟨nsub wkV4 wkV30 wkV4,0,some 0⟩) yqqqqqqqqqqqqqqqqq 0)∧Ob (IntKind.i64.wrap (wkV23 xq)=(yqqqqqqqqqqqqqqqqq:Int))∧True))))∧(decide ((xq:Int)<(n:Int))=false→(Ob (wkV24 l)∧Ob (wkV25 q)∧Ob (AObj.rw (List.map wkV15 (wL n (lefts b n l) (onB q) xq)) (some 1)=AObj.rw (List.map (nmap1 (nsub 2 3)) (List.map wkV15 (wL n (lefts b n l) (onB q) n))) (some 1)∧AObj.sc 3 (AObj.rw (List.map wkV15 (wL n (lefts b n l) (onB q) n)) (some 1))=true)∧True)∧Ob (Value.slice (some ⟨2+1,0,some 0⟩) xq 0=Value.slice (some ⟨3,0,some 0⟩) n 0)∧True)
theorem wkV_eq : wkV = fun (b : Int) (n c d : Nat) (l q : List Int) => vc Try.prog wkE 2 57 true (wkI b n c l (onB q) (sl1 q.length d) [ros l,roU q]) wkB [] (argFr 0 [pierV b (some ⟨0,0,none⟩) n c,sl1 q.length d]) [ros l,roU q] (retR Try.prog Try.f46 2 (nsub 2 3) (newS 2 n) [ros l,roU q,rws (wL n (lefts b n l) (onB q) n)]) := by kernel_rfl
section
variable {n f : Nat} {o : Nat→Bool} {i : Nat}
theorem wS_left (h : wT n f o i = n∨o i = true) (h2 : 0 < wG n f o i) : wS n f o (i + 1) = (wG n f o i - 1,wT n f o i,wL n f o i ++ [((wG n f o i - 1 : Nat) : Int)]) := by
 rw [wS]; exact if_pos ⟨h,h2⟩
theorem wS_right (h : ¬ ((wT n f o i = n∨o i = true)∧0 < wG n f o i)) : wS n f o (i + 1) = (wG n f o i,wT n f o i + 1,wL n f o i ++ [(wT n f o i : Int)]) := by
 rw [wS]; exact if_neg h
theorem wS_begun (hf : f≤n) : ∀ i,i≤n→Begun n (wG n f o i) (wT n f o i) (wL n f o i)∧(wL n f o i).length = i
 | 0,_ => ⟨begun_nil hf,rfl⟩
 | i + 1,hi => by
   obtain ⟨hB,hl⟩ := wS_begun hf i (by omega)
   have h1 := hB.len
   have h2 := hB.le
   by_cases h : (wT n f o i = n∨o i = true)∧0 < wG n f o i
   · unfold wG wT wL
     rw [wS_left h.1 h.2]
     exact ⟨hB.left h.2,by simp [hl]⟩
   · unfold wG wT wL
     rw [wS_right h]
     have ht : wT n f o i < n := by
       rcases Nat.lt_or_ge (wT n f o i) n with e | e
       · exact e
       · exfalso
         exact h ⟨.inl (by omega),by omega⟩
     exact ⟨hB.right ht,by simp [hl]⟩
theorem wS_mem (hf : f≤n) : ∀ (k i : Nat),i + k = n→wL n f o n ∈ rds n k (wG n f o i) (wT n f o i) (wL n f o i)
 | 0,i,h => by
   obtain rfl : i = n := by omega
   rw [rds]; exact List.mem_singleton.2 rfl
 | k + 1,i,h => by
   obtain ⟨hB,hl⟩ := wS_begun (o := o) hf i (by omega)
   have h1 := hB.len
   have h2 := hB.le
   have := wS_mem hf k (i + 1) (by omega)
   rw [rds]
   by_cases hh : (wT n f o i = n∨o i = true)∧0 < wG n f o i
   · refine List.mem_append_left _ ?_
     rw [if_pos hh.2]
     unfold wG wT at this
     rw [show wL n f o (i + 1) = wL n f o i ++ [((wG n f o i - 1 : Nat) : Int)] by unfold wL; rw [wS_left hh.1 hh.2]; rfl,wS_left hh.1 hh.2] at this
     exact this
   · have ht : wT n f o i < n := by
       rcases Nat.lt_or_ge (wT n f o i) n with e | e
       · exact e
       · exfalso
         exact hh ⟨.inl (by omega),by omega⟩
     refine List.mem_append_right _ ?_
     rw [if_pos ht]
     unfold wG wT at this
     rw [show wL n f o (i + 1) = wL n f o i ++ [(wT n f o i : Int)] by unfold wL; rw [wS_right hh]; rfl,wS_right hh] at this
     exact this
theorem walked_mem (hf : f≤n) : wL n f o n ∈ rds n n f f [] := wS_mem (o := o) hf n 0 (by omega)
theorem w_left (hf : f≤n) (hn : n≤10) (hi : i < n) (h : wT n f o i = n∨o i = true) (h2 : 0 < wG n f o i) :
   List.map (Value.int .i64) (wL n f o i ++ [IntKind.i64.wrap ((wG n f o i : Int) - 1)]) = List.map (Value.int .i64) (wL n f o (i + 1))∧IntKind.i64.wrap ((wG n f o i : Int) - 1) = (wG n f o (i + 1) : Int)∧(wT n f o i : Int) = (wT n f o (i + 1) : Int) := by
 obtain ⟨hB,hl⟩ := wS_begun (o := o) hf i (by omega)
 have h3 := hB.len
 have h4 := hB.le
 have w1 : IntKind.i64.wrap ((wG n f o i : Int) - 1) = ((wG n f o i - 1 : Nat) : Int) := by rw [wrap_in (by omega) (by omega)]; omega
 have e := wS_left h h2
 rw [w1]
 refine ⟨?_,?_,?_⟩
 · show _ = List.map _ (wS n f o (i + 1)).2.2
   rw [e]
 · show _ = (((wS n f o (i + 1)).1 : Nat) : Int)
   rw [e]
 · show _ = (((wS n f o (i + 1)).2.1 : Nat) : Int)
   rw [e]
theorem w_right (hf : f≤n) (hn : n≤10) (hi : i < n) (h : ¬ ((wT n f o i = n∨o i = true)∧0 < wG n f o i)) :
   List.map (Value.int .i64) (wL n f o i ++ [(wT n f o i : Int)]) = List.map (Value.int .i64) (wL n f o (i + 1))∧(wG n f o i : Int) = (wG n f o (i + 1) : Int)∧IntKind.i64.wrap ((wT n f o i : Int) + 1) = (wT n f o (i + 1) : Int) := by
 obtain ⟨hB,hl⟩ := wS_begun (o := o) hf i (by omega)
 have h3 := hB.len
 have h4 := hB.le
 have w1 : IntKind.i64.wrap ((wT n f o i : Int) + 1) = ((wT n f o i + 1 : Nat) : Int) := by rw [wrap_in (by omega) (by omega)]; omega
 have e := wS_right h
 rw [w1]
 refine ⟨?_,?_,?_⟩
 · show _ = List.map _ (wS n f o (i + 1)).2.2
   rw [e]
 · show _ = (((wS n f o (i + 1)).1 : Nat) : Int)
   rw [e]
 · show _ = (((wS n f o (i + 1)).2.1 : Nat) : Int)
   rw [e]
end
theorem on_iff {q : List Int} {i : Nat} : (q.getD ((i : Int).tmod (q.length : Int)).toNat 0).tmod 2 = 1 ↔ onB q i = true := by
 unfold onB
 rw [← Int.ofNat_tmod,Int.toNat_natCast,decide_eq_true_eq]
theorem wkV_ok (b : Int) (n c d : Nat) (l q : List Int) (hl : l.length = n * 2) (hn : n≤10) (hn1 : 1≤n) (hq : 0 < q.length∧q.length≤1000) : wkV b n c d l q := by
 unfold wkV wkV30 wkV29 wkV28 wkV27 wkV26 wkV25 wkV24 wkV23 wkV22 wkV21 wkV20 wkV19 wkV18 wkV17 wkV16 wkV15 wkV14 wkV13 wkV12 wkV11 wkV10 wkV9 wkV8 wkV7 wkV6 wkV5 wkV4 wkV3 wkV2 wkV1 wkV0
 simp only [SS,reduceCtorEq,Arg.list,Arg.num,Arg.flag,intOf,andP,Nat.reduceLeDiff,Nat.reduceAdd,Nat.reduceMul,Nat.reduceLT,roU]
 have hf := lefts_le (b := b) (n := n) (l := l)
 have hw := fun i hi => (wS_begun (o := onB q) hf i hi).2
 generalize lefts b n l = f at *
 have tm : ∀ i : Nat,(0≤(i : Int).tmod (q.length : Int)∧(i : Int).tmod (q.length : Int) < (q.length : Int))∧((i : Int).tmod (q.length : Int)).toNat < q.length := fun i => by
   rw [← Int.ofNat_tmod,Int.toNat_natCast]
   have := Nat.mod_lt i hq.1
   omega
 refine ⟨⟨flat_ints,okL_ints hl (by omega)⟩,⟨fun h0 => ⟨fun _ => ⟨by omega,(tm 0).1,(tm 0).2,by decide,fun on => ?_,fun on => ?_⟩,fun h => by omega⟩,fun h => by omega⟩,fun x hx => ⟨fun h1 => ⟨fun _ => ⟨by omega,(tm x).1,(tm x).2,by decide,fun on => ?_,fun on => ?_⟩,fun h => by omega⟩,fun h1 => ?_⟩⟩
 · have on' : onB q 0 = true := on_iff.1 on
   refine ⟨fun g => ?_,fun g => ?_⟩
   · have k := w_left (i := 0) hf hn (by omega) (.inr on') (show 0 < f by omega)
     exact ⟨1,by omega,by omega,k.1,rfl,rfl,k.2.1,k.2.2,⟨rfl,rfl⟩,by decide⟩
   · have k := w_right (o := onB q) (i := 0) hf hn (by omega) (fun h => g (by have := h.2; have e : wG n f (onB q) 0 = f := rfl; omega))
     exact ⟨1,by omega,by omega,k.1,rfl,rfl,k.2.1,k.2.2,⟨rfl,rfl⟩,by decide⟩
 · have on' : ¬ onB q 0 = true := fun h => on (on_iff.2 h)
   refine ⟨fun tn => ⟨fun g => ?_,fun g => ?_⟩,fun tn => ?_⟩
   · have k := w_left (o := onB q) (i := 0) hf hn (by omega) (.inl (show f = n by omega)) (show 0 < f by omega)
     exact ⟨1,by omega,by omega,k.1,rfl,rfl,k.2.1,k.2.2,⟨rfl,rfl⟩,by decide⟩
   · have k := w_right (o := onB q) (i := 0) hf hn (by omega) (fun h => g (by have := h.2; have e : wG n f (onB q) 0 = f := rfl; omega))
     exact ⟨1,by omega,by omega,k.1,rfl,rfl,k.2.1,k.2.2,⟨rfl,rfl⟩,by decide⟩
   · have k := w_right (o := onB q) (i := 0) hf hn (by omega) (fun h => h.1.elim (fun h => tn (by have e : wT n f (onB q) 0 = f := rfl; omega)) on')
     exact ⟨1,by omega,by omega,k.1,rfl,rfl,k.2.1,k.2.2,⟨rfl,rfl⟩,by decide⟩
 · have on' : onB q x = true := on_iff.1 on
   refine ⟨fun g => ?_,fun g => ?_⟩
   · have k := w_left (i := x) hf hn (by omega) (.inr on') (by omega)
     exact ⟨⟨by omega,by omega,hw x (by omega)⟩,x + 1,by omega,by omega,k.1,rfl,rfl,k.2.1,k.2.2,⟨rfl,rfl⟩,wrap_succ (n := n) (by omega) (by omega)⟩
   · have k := w_right (o := onB q) (i := x) hf hn (by omega) (fun h => g (by have := h.2; omega))
     exact ⟨⟨by omega,by omega,hw x (by omega)⟩,x + 1,by omega,by omega,k.1,rfl,rfl,k.2.1,k.2.2,⟨rfl,rfl⟩,wrap_succ (n := n) (by omega) (by omega)⟩
 · have on' : ¬ onB q x = true := fun h => on (on_iff.2 h)
   refine ⟨fun tn => ⟨fun g => ?_,fun g => ?_⟩,fun tn => ?_⟩
   · have k := w_left (o := onB q) (i := x) hf hn (by omega) (.inl (by omega)) (by omega)
     exact ⟨⟨by omega,by omega,hw x (by omega)⟩,x + 1,by omega,by omega,k.1,rfl,rfl,k.2.1,k.2.2,⟨rfl,rfl⟩,wrap_succ (n := n) (by omega) (by omega)⟩
   · have k := w_right (o := onB q) (i := x) hf hn (by omega) (fun h => g (by have := h.2; omega))
     exact ⟨⟨by omega,by omega,hw x (by omega)⟩,x + 1,by omega,by omega,k.1,rfl,rfl,k.2.1,k.2.2,⟨rfl,rfl⟩,wrap_succ (n := n) (by omega) (by omega)⟩
   · have k := w_right (o := onB q) (i := x) hf hn (by omega) (fun h => h.1.elim (fun h => tn (by omega)) on')
     exact ⟨⟨by omega,by omega,hw x (by omega)⟩,x + 1,by omega,by omega,k.1,rfl,rfl,k.2.1,k.2.2,⟨rfl,rfl⟩,wrap_succ (n := n) (by omega) (by omega)⟩
 · rw [show x = n by omega]; exact ⟨rfl,rfl⟩
theorem wkN_ok (b : Int) (n c : Nat) (l : List Int) (hl : l.length = n * 2) (hn : n≤10) (hn1 : 1≤n) : wkN b n c l := by
 unfold wkN wkN14 wkN13 wkN12 wkN11 wkN10 wkN9 wkN8 wkN7 wkN6 wkN5 wkN4 wkN3 wkN2 wkN1 wkN0
 simp only [SS,reduceCtorEq,Arg.list,Arg.num,Arg.flag,intOf,andP,Nat.reduceLeDiff,Nat.reduceAdd,Nat.reduceMul,Nat.reduceLT,roU]
 have hf := lefts_le (b := b) (n := n) (l := l)
 have hw := fun i hi => (wS_begun (o := fun _ => false) hf i hi).2
 generalize lefts b n l = f at *
 have nf : ¬ ((fun _ : Nat => false) 0 = true) := by decide
 refine ⟨⟨flat_ints,okL_ints hl (by omega)⟩,⟨fun h0 => ⟨fun tn => ⟨fun g => ?_,fun g => ?_⟩,fun tn => ?_⟩,fun h => by omega⟩,fun x hx => ⟨fun h1 => ⟨fun tn => ⟨fun g => ?_,fun g => ?_⟩,fun tn => ?_⟩,fun h1 => ?_⟩⟩
 · have k := w_left (o := fun _ => false) (i := 0) hf hn (by omega) (.inl (show f = n by omega)) (show 0 < f by omega)
   exact ⟨1,by omega,by omega,k.1,rfl,k.2.1,k.2.2,⟨rfl,rfl⟩,by decide⟩
 · have k := w_right (o := fun _ => false) (i := 0) hf hn (by omega) (fun h => g (by have := h.2; have e : wG n f (fun _ => false) 0 = f := rfl; omega))
   exact ⟨1,by omega,by omega,k.1,rfl,k.2.1,k.2.2,⟨rfl,rfl⟩,by decide⟩
 · have k := w_right (o := fun _ => false) (i := 0) hf hn (by omega) (fun h => h.1.elim (fun h => tn (by have e : wT n f (fun _ => false) 0 = f := rfl; omega)) nf)
   exact ⟨1,by omega,by omega,k.1,rfl,k.2.1,k.2.2,⟨rfl,rfl⟩,by decide⟩
 · have k := w_left (o := fun _ => false) (i := x) hf hn (by omega) (.inl (by omega)) (by omega)
   exact ⟨⟨by omega,by omega,hw x (by omega)⟩,x + 1,by omega,by omega,k.1,rfl,k.2.1,k.2.2,⟨rfl,rfl⟩,wrap_succ (n := n) (by omega) (by omega)⟩
 · have k := w_right (o := fun _ => false) (i := x) hf hn (by omega) (fun h => g (by have := h.2; omega))
   exact ⟨⟨by omega,by omega,hw x (by omega)⟩,x + 1,by omega,by omega,k.1,rfl,k.2.1,k.2.2,⟨rfl,rfl⟩,wrap_succ (n := n) (by omega) (by omega)⟩
 · have k := w_right (o := fun _ => false) (i := x) hf hn (by omega) (fun h => h.1.elim (fun h => tn (by omega)) nf)
   exact ⟨⟨by omega,by omega,hw x (by omega)⟩,x + 1,by omega,by omega,k.1,rfl,k.2.1,k.2.2,⟨rfl,rfl⟩,wrap_succ (n := n) (by omega) (by omega)⟩
 · rw [show x = n by omega]; exact ⟨rfl,rfl⟩
theorem wkH_ok (b : Int) (n c d : Nat) (s : Option Nat) (l : List Int) (hl : l.length = n * 2) (hn : n≤10) (hn1 : 1≤n) : wkH b n c d s l := by
 unfold wkH wkH17 wkH16 wkH15 wkH14 wkH13 wkH12 wkH11 wkH10 wkH9 wkH8 wkH7 wkH6 wkH5 wkH4 wkH3 wkH2 wkH1 wkH0
 simp only [SS,reduceCtorEq,Arg.list,Arg.num,Arg.flag,intOf,andP,Nat.reduceLeDiff,Nat.reduceAdd,Nat.reduceMul,Nat.reduceLT,roU]
 have hf := lefts_le (b := b) (n := n) (l := l)
 have hw := fun i hi => (wS_begun (o := fun _ => false) hf i hi).2
 generalize lefts b n l = f at *
 have nf : ¬ ((fun _ : Nat => false) 0 = true) := by decide
 refine ⟨⟨flat_ints,okL_ints hl (by omega)⟩,⟨fun h0 => ⟨fun tn => ⟨fun g => ?_,fun g => ?_⟩,fun tn => ?_⟩,fun h => by omega⟩,fun x hx => ⟨fun h1 => ⟨fun tn => ⟨fun g => ?_,fun g => ?_⟩,fun tn => ?_⟩,fun h1 => ?_⟩⟩
 · have k := w_left (o := fun _ => false) (i := 0) hf hn (by omega) (.inl (show f = n by omega)) (show 0 < f by omega)
   exact ⟨1,by omega,by omega,k.1,rfl,rfl,k.2.1,k.2.2,⟨rfl,rfl⟩,by decide⟩
 · have k := w_right (o := fun _ => false) (i := 0) hf hn (by omega) (fun h => g (by have := h.2; have e : wG n f (fun _ => false) 0 = f := rfl; omega))
   exact ⟨1,by omega,by omega,k.1,rfl,rfl,k.2.1,k.2.2,⟨rfl,rfl⟩,by decide⟩
 · have k := w_right (o := fun _ => false) (i := 0) hf hn (by omega) (fun h => h.1.elim (fun h => tn (by have e : wT n f (fun _ => false) 0 = f := rfl; omega)) nf)
   exact ⟨1,by omega,by omega,k.1,rfl,rfl,k.2.1,k.2.2,⟨rfl,rfl⟩,by decide⟩
 · have k := w_left (o := fun _ => false) (i := x) hf hn (by omega) (.inl (by omega)) (by omega)
   exact ⟨⟨by omega,by omega,hw x (by omega)⟩,x + 1,by omega,by omega,k.1,rfl,rfl,k.2.1,k.2.2,⟨rfl,rfl⟩,wrap_succ (n := n) (by omega) (by omega)⟩
 · have k := w_right (o := fun _ => false) (i := x) hf hn (by omega) (fun h => g (by have := h.2; omega))
   exact ⟨⟨by omega,by omega,hw x (by omega)⟩,x + 1,by omega,by omega,k.1,rfl,rfl,k.2.1,k.2.2,⟨rfl,rfl⟩,wrap_succ (n := n) (by omega) (by omega)⟩
 · have k := w_right (o := fun _ => false) (i := x) hf hn (by omega) (fun h => h.1.elim (fun h => tn (by omega)) nf)
   exact ⟨⟨by omega,by omega,hw x (by omega)⟩,x + 1,by omega,by omega,k.1,rfl,rfl,k.2.1,k.2.2,⟨rfl,rfl⟩,wrap_succ (n := n) (by omega) (by omega)⟩
 · rw [show x = n by omega]; exact ⟨rfl,rfl⟩
theorem wkE_ok : VOk Try.prog wkE := ⟨CtOk.none.add leG_ok,E0_ok.cc,E0_ok.yc,prE1_ok.orc⟩
theorem wkN_call (b : Int) (n c : Nat) (l : List Int) (hl : l.length = n * 2) (hn : n≤10) (hn1 : 1≤n) : Call Try.prog 46 [pierV b (some ⟨0,0,none⟩) n c,nilS] [ros l] fun v H' => v = newS 1 n∧H' = [ros l,rws (wL n (lefts b n l) (fun _ => false) n)] := by
 have h := wkN_ok b n c l hl hn hn1
 rw [wkN_eq] at h
 exact Call.ofVcR (H := [ros l]) (args := [pierV b (some ⟨0,0,none⟩) n c,nilS]) (σ := nsub 1 2) (v2 := newS 1 n) (H2 := [ros l,rws (wL n (lefts b n l) (fun _ => false) n)]) wkE_ok mixed (c := wkB) (inv := wkI b n c l (fun _ => false) nilS [ros l]) Try.func46 (by kernel_rfl) (cast (by kernel_rfl) h)
theorem wkH_call (b : Int) (n c d : Nat) (s : Option Nat) (l : List Int) (hl : l.length = n * 2) (hn : n≤10) (hn1 : 1≤n) : Call Try.prog 46 [pierV b (some ⟨0,0,none⟩) n c,.slice (some ⟨1,0,s⟩) 0 d] [ros l,.gone] fun v H' => v = newS 2 n∧H' = [ros l,.gone,rws (wL n (lefts b n l) (fun _ => false) n)] := by
 have h := wkH_ok b n c d s l hl hn hn1
 rw [wkH_eq] at h
 exact Call.ofVcR (H := [ros l,.gone]) (args := [pierV b (some ⟨0,0,none⟩) n c,.slice (some ⟨1,0,s⟩) 0 d]) (σ := nsub 2 3) (v2 := newS 2 n) (H2 := [ros l,.gone,rws (wL n (lefts b n l) (fun _ => false) n)]) wkE_ok mixed (c := wkB) (inv := wkI b n c l (fun _ => false) (.slice (some ⟨1,0,s⟩) 0 d) [ros l,.gone]) Try.func46 (by kernel_rfl) (cast (by kernel_rfl) h)
theorem wkV_call (b : Int) (n c d : Nat) (l q : List Int) (hl : l.length = n * 2) (hn : n≤10) (hn1 : 1≤n) (hq : 0 < q.length∧q.length≤1000) : Call Try.prog 46 [pierV b (some ⟨0,0,none⟩) n c,sl1 q.length d] [ros l,roU q] fun v H' => v = newS 2 n∧H' = [ros l,roU q,rws (wL n (lefts b n l) (onB q) n)] := by
 have h := wkV_ok b n c d l q hl hn hn1 hq
 rw [wkV_eq] at h
 exact Call.ofVcR (H := [ros l,roU q]) (args := [pierV b (some ⟨0,0,none⟩) n c,sl1 q.length d]) (σ := nsub 2 3) (v2 := newS 2 n) (H2 := [ros l,roU q,rws (wL n (lefts b n l) (onB q) n)]) wkE_ok mixed (c := wkB) (inv := wkI b n c l (onB q) (sl1 q.length d) [ros l,roU q]) Try.func46 (by kernel_rfl) (cast (by kernel_rfl) h)
end Go.Pier.Rd
namespace Go.Pier.Rd
open Go Go.Pier Go.Proofs
def ltN (l : List Int) (x : Nat→Int) : Nat→Int
 | 0 => IntKind.i64.wrap (x 0 - tw l 0)
 | k + 1 => if IntKind.i64.wrap (x k - tw l k) > ltN l x k then IntKind.i64.wrap (x k - tw l k) else ltN l x k
noncomputable def laB : Code := Try.f109.body.getD .skip
def laI (b : Int) (n c f : Nat) (l : List Int) (k : Nat) (x : Nat→Int) : Nat→Option LInv := invOf
 0 (LInv.one Nat (fun y => y≤n) (fun y => [(0,ptr0 1),(3,ptr0 3),(5,vi (ltN l x y)),(24,sl0 n c),(25,vi n),(26,vi y)]) (fun _ => itE b n c f l [.gone,.rw (newS 2 k :: I10 x []) none]) (fun y => n - y))
noncomputable def laV0 (b:Int) (n c f k:Nat) (l:List Int) (x:Nat→Int) := (Value.slice (some ⟨2,0,some 0⟩) k 0::I10 x [])
noncomputable def laV1 (b:Int) (n c f k:Nat) (l:List Int) (x:Nat→Int) (x_1:Nat):List Value := [vi (getI (List.map (Value.int IntKind.i64) l) (0+(x_1:Int).toNat * 2)),vi (getI (List.map (Value.int IntKind.i64) l) (0+(x_1:Int).toNat * 2+1))]
noncomputable def laV2 (b:Int) (n c f k:Nat) (l:List Int) (x:Nat→Int) := (vi b::Value.slice (some (ad0 0)) n c::vi (f:Int)::B10 (tmd n) [])
noncomputable def laV :=
fun (b:Int) (n c f k:Nat) (l:List Int) (x:Nat→Int)↦Ob ((0:Int)≤(0:Int)∧(0:Int)<(↑(10:Nat):Int))∧Ob (IntAt IntKind.i64 (laV0 b n c f k l x) (0+1+0))∧Ob ((0:Int)≤(0:Int)∧(0:Int)<(n:Int)∧true=true)∧Ob (IntAt IntKind.i64 (List.map (Value.int IntKind.i64) l) 1)∧(∃ (y:Nat),Ob (y≤n)∧(Ob (AObj.ro (List.map (Value.int IntKind.i64) l)=AObj.ro (List.map (nmap1 fun (bq:Nat)↦bq) (List.map (Value.int IntKind.i64) l))∧AObj.sc 4 (AObj.ro (List.map (Value.int IntKind.i64) l))=true)∧Ob (AObj.rw (laV2 b n c f k l x) none=AObj.rw (laV2 b n c f k l x) none∧true=true)∧Ob (AObj.rw (laV0 b n c f k l x) none=AObj.rw (laV0 b n c f k l x) none∧true=true)∧True)∧Ob (ptr0 1=ptr0 1)∧Ob (ptr0 3=ptr0 3)∧Ob (IntKind.i64.wrap (getI (laV0 b n c f k l x) (0+1+0)-getI (List.map (Value.int IntKind.i64) l) 1)=ltN l x y)∧Ob (Value.slice (some (ad0 0)) n c=Value.slice (some (ad0 0)) n c)∧Ob ((n:Int)=(n:Int))∧Ob ((0:Int)=(y:Int))∧True)∧∀ (x_1:Nat),Ob (x_1≤n)→(decide ((x_1:Int)<(n:Int))=true→Ob ((0:Int)≤(x_1:Int)∧(x_1:Int)<(n:Int)∧true=true)∧Ob (ckAsk [CK.i IntKind.i64,CK.i IntKind.i64] (List.map (Value.int IntKind.i64) l) (0+(x_1:Int).toNat * 2))∧Ob (0+2≤2)∧Ob ((0:Int)≤(x_1:Int)∧(x_1:Int)<(↑(10:Nat):Int))∧Ob (IntAt IntKind.i64 (laV0 b n c f k l x) (1+(x_1:Int).toNat * 1))∧Ob (IntAt IntKind.i64 (laV1 b n c f k l x x_1) (0+1))∧∃ (y:Nat),Ob (y≤n)∧Ob (n-y<n-x_1)∧(Ob (AObj.ro (List.map (Value.int IntKind.i64) l)=AObj.ro (List.map (nmap1 fun (bqq:Nat)↦bqq) (List.map (Value.int IntKind.i64) l))∧AObj.sc 4 (AObj.ro (List.map (Value.int IntKind.i64) l))=true)∧Ob (AObj.rw (laV2 b n c f k l x) none=AObj.rw (laV2 b n c f k l x) none∧true=true)∧Ob (AObj.rw (laV0 b n c f k l x) none=AObj.rw (laV0 b n c f k l x) none∧true=true)∧True)∧Ob (ptr0 1=ptr0 1)∧Ob (ptr0 3=ptr0 3)∧Ob ((if IntKind.i64.wrap (getI (laV0 b n c f k l x) (1+(x_1:Int).toNat * 1)-getI (laV1 b n c f k l x x_1) (0+1)) > ltN l x x_1 then IntKind.i64.wrap (getI (laV0 b n c f k l x) (1+(x_1:Int).toNat * 1)-getI (laV1 b n c f k l x x_1) (0+1)) else ltN l x x_1)=ltN l x y)∧Ob (Value.slice (some (ad0 0)) n c=Value.slice (some (ad0 0)) n c)∧Ob ((n:Int)=(n:Int))∧Ob (IntKind.i64.wrap ((x_1:Int)+(1:Int))=(y:Int))∧True)∧(decide ((x_1:Int)<(n:Int))=false→(Ob (AObj.ro (List.map (Value.int IntKind.i64) l)=AObj.ro (List.map (nmap1 fun (bqqq:Nat)↦bqqq) (List.map (Value.int IntKind.i64) l))∧AObj.sc 3 (AObj.ro (List.map (Value.int IntKind.i64) l))=true)∧Ob (AObj.rw (laV2 b n c f k l x) none=AObj.rw (laV2 b n c f k l x) none∧true=true)∧True)∧Ob (ltN l x x_1=ltN l x n)∧True)
theorem laV_eq : laV = fun (b : Int) (n c f k : Nat) (l : List Int) (x : Nat→Int) => vc Try.prog prE1 3 42 true (laI b n c f l k x) laB [] (argFr 0 [ptr0 1,.agg (newS 2 k :: I10 x []).toArray]) (itE b n c f l [.gone]) (retR Try.prog Try.f109 3 (fun b => b) (vi (ltN l x n)) (itE b n c f l [.gone])) := by kernel_rfl
theorem laV_ok (b : Int) (n c f k : Nat) (l : List Int) (x : Nat→Int) (hl : l.length = n * 2) (hn : n≤10) (hn1 : 1≤n) : laV b n c f k l x := by
 unfold laV laV2 laV1 laV0
 simp only [SS,reduceCtorEq,Arg.list,Arg.num,Arg.flag,intOf,andP,Nat.reduceLeDiff,Nat.reduceAdd,Nat.reduceMul,Nat.reduceLT,ckAsk,CK.ask,pl_fold,tw_fold,getI_2b,intAt_2b]
 have e0 : getI (Value.slice (some { block := 2,off := 0,spot := some 0 }) k 0 :: I10 x []) 1 = x 0 := rfl
 have g0 : l.getD 1 0 = tw l 0 := rfl
 rw [e0,g0]
 refine ⟨by omega,rfl,by omega,by omega,⟨0,by omega,rfl,rfl⟩,fun y hy => ⟨fun h1 => ?_,fun h1 => by rw [show y = n by omega]⟩⟩
 obtain ⟨e1,e2⟩ := I10_getI1 (sl := newS 2 k) (st := x) (x := y) (by omega)
 have e1' : getI (Value.slice (some { block := 2,off := 0,spot := some 0 }) k 0 :: I10 x []) (1 + y) = x y := e1
 rw [e1']
 exact ⟨by omega,by omega,by omega,e2,y + 1,by omega,by omega,rfl,wrap_succ (n := 10) (by omega) (by omega)⟩
theorem laV_call (b : Int) (n c f k : Nat) (l : List Int) (x : Nat→Int) (hl : l.length = n * 2) (hn : n≤10) (hn1 : 1≤n) : Call Try.prog 109 [ptr0 1,.agg (newS 2 k :: I10 x []).toArray] (itE b n c f l [.gone]) fun v H' => v = vi (ltN l x n)∧H' = itE b n c f l [.gone] := by
 have h := laV_ok b n c f k l x hl hn hn1
 rw [laV_eq] at h
 exact Call.ofVcR (H := itE b n c f l [.gone]) (args := [ptr0 1,.agg (newS 2 k :: I10 x []).toArray]) (σ := fun b => b) (v2 := vi (ltN l x n)) (H2 := itE b n c f l [.gone]) prE1_ok mixed (c := laB) (inv := laI b n c f l k x) Try.func109 (by kernel_rfl) (cast (by kernel_rfl) h)
noncomputable def laCt (b : Int) (n c f : Nat) (l : List Int) : List Value→Heap→Option (Option Prop × Value × Heap × List Nat) := fun args H => match args with
 | [.pointer (some ⟨1,0,none⟩),.agg ⟨[.slice (some ⟨k,0,some 0⟩) _ 0,.int .i64 a0,.int .i64 a1,.int .i64 a2,.int .i64 a3,.int .i64 a4,.int .i64 a5,.int .i64 a6,.int .i64 a7,.int .i64 a8,.int .i64 a9]⟩] => match Nat.ble 2 k with
   | true => some (some (AtW b n c f l H∧l.length = n * 2∧n≤10∧1≤n),vi (ltN l (l10 a0 a1 a2 a3 a4 a5 a6 a7 a8 a9) n),H,[])
   | false => none
 | _ => none
theorem la_ok (b : Int) (n c f : Nat) (l : List Int) : ∀ args H φ v H' lg,laCt b n c f l args H = some (φ,v,H',lg)→Asks φ→Call Try.prog 109 args H (fun v' H2 => v' = v∧H2 = H')∧Kept H H' lg := by
 intro args H φ v H' lg h hφ
 unfold laCt at h
 split at h <;> try (cases h; done)
 rename_i k y a0 a1 a2 a3 a4 a5 a6 a7 a8 a9
 split at h <;> cases h
 rename_i hk
 obtain ⟨h1,h2,h3,h4⟩ := hφ
 refine ⟨fun ρ w R hs => ?_,Kept.refl _ _⟩
 have hkH : k < H.length := ag_lt hs (List.mem_cons_of_mem _ List.mem_cons_self)
 exact walk_frame (o := .gone) h1 (Nat.le_of_ble_eq_true hk) hkH (.inl rfl) (fun _ => rfl) (fun _ => rfl) (args := [ptr0 1,.agg (newS 2 y :: I10 (l10 a0 a1 a2 a3 a4 a5 a6 a7 a8 a9) []).toArray]) (by rw [List.map_cons,List.map_cons,List.map_nil,agg_nmap rfl]; rfl) (by rw [List.all_cons,List.all_cons,agg_sc (by omega) rfl]; rfl) (laV_call b n c f y l _ h2 h3 h4) rfl rfl ρ w R hs
theorem ltN_l10 {l : List Int} {x : Nat→Int} : ∀ n,n≤10→ltN l (l10 (x 0) (x 1) (x 2) (x 3) (x 4) (x 5) (x 6) (x 7) (x 8) (x 9)) n = ltN l x n
 | 0,_ => rfl
 | n + 1,h => by rw [ltN,ltN,ltN_l10 n (by omega),show l10 (x 0) (x 1) (x 2) (x 3) (x 4) (x 5) (x 6) (x 7) (x 8) (x 9) n = x n by rcases n with _ | _ | _ | _ | _ | _ | _ | _ | _ | _ | n <;> first | rfl | omega]
end Go.Pier.Rd
namespace Go.Pier.Rd
open Go Go.Pier Go.Proofs
noncomputable def y1d_c0 : Code := (Code.region (4 : Nat) { toList := [{ dst := some (7 : Nat),op := Op.alloc (91 : Nat),type := (0 : Nat),pos := "trip.go:77",after := { toList := [] },guard := none },{ dst := none,op := Op.store (91 : Nat) (Operand.tmp (7 : Nat)) (Operand.tmp (9 : Nat)),type := (0 : Nat),pos := "trip.go:77",after := { toList := [{ on := (0 : Nat),ground := Ground.data },{ on := (0 : Nat),ground := Ground.phase }] },guard := none }] } false)
noncomputable def y1d_c1 : Code := (Code.block (1 : Nat) ((Code.region (5 : Nat) { toList := [{ dst := some (10 : Nat),op := Op.load (4 : Nat) (Operand.tmp (6 : Nat)),type := (4 : Nat),pos := "trip.go:78",after := { toList := [] },guard := none },{ dst := some (11 : Nat),op := Op.move (Operand.tmp (10 : Nat)),type := (4 : Nat),pos := "trip.go:78",after := { toList := [{ on := (0 : Nat),ground := Ground.data }] },guard := none },{ dst := some (12 : Nat),op := Op.load (129 : Nat) (Operand.tmp (3 : Nat)),type := (129 : Nat),pos := "trip.go:78",after := { toList := [{ on := (1 : Nat),ground := Ground.guard }] },guard := some ((1 : Nat),false) },{ dst := some (13 : Nat),op := Op.load (91 : Nat) (Operand.tmp (7 : Nat)),type := (91 : Nat),pos := "trip.go:78",after := { toList := [{ on := (1 : Nat),ground := Ground.guard }] },guard := some ((1 : Nat),false) },{ dst := some (14 : Nat),op := Op.call { callee := Callee.value (Operand.tmp (12 : Nat)),args := { toList := [Operand.tmp (13 : Nat)] },argTypes := { toList := [(91 : Nat)] } },type := (2 : Nat),pos := "trip.go:78",after := { toList := [{ on := (2 : Nat),ground := Ground.data },{ on := (3 : Nat),ground := Ground.data },{ on := (1 : Nat),ground := Ground.chain },{ on := (1 : Nat),ground := Ground.guard }] },guard := some ((1 : Nat),false) },{ dst := some (15 : Nat),op := Op.load (129 : Nat) (Operand.tmp (3 : Nat)),type := (129 : Nat),pos := "trip.go:78",after := { toList := [{ on := (1 : Nat),ground := Ground.guard }] },guard := some ((1 : Nat),false) },{ dst := some (16 : Nat),op := Op.load (91 : Nat) (Operand.tmp (5 : Nat)),type := (91 : Nat),pos := "trip.go:78",after := { toList := [{ on := (1 : Nat),ground := Ground.guard }] },guard := some ((1 : Nat),false) },{ dst := some (17 : Nat),op := Op.call { callee := Callee.value (Operand.tmp (15 : Nat)),args := { toList := [Operand.tmp (16 : Nat)] },argTypes := { toList := [(91 : Nat)] } },type := (2 : Nat),pos := "trip.go:78",after := { toList := [{ on := (5 : Nat),ground := Ground.data },{ on := (6 : Nat),ground := Ground.data },{ on := (4 : Nat),ground := Ground.chain },{ on := (1 : Nat),ground := Ground.guard }] },guard := some ((1 : Nat),false) },{ dst := some (18 : Nat),op := Op.binOp BinOp.lss (2 : Nat) (Operand.tmp (14 : Nat)) (Operand.tmp (17 : Nat)) (2 : Nat),type := (4 : Nat),pos := "trip.go:78",after := { toList := [{ on := (4 : Nat),ground := Ground.data },{ on := (7 : Nat),ground := Ground.data },{ on := (1 : Nat),ground := Ground.guard }] },guard := some ((1 : Nat),false) },{ dst := some (19 : Nat),op := Op.pick (Operand.tmp (11 : Nat)) (Operand.const (Value.bool true)) (Operand.tmp (18 : Nat)),type := (4 : Nat),pos := "trip.go:78",after := { toList := [{ on := (1 : Nat),ground := Ground.data },{ on := (8 : Nat),ground := Ground.data }] },guard := none }] } true).seq (Code.cond (Operand.tmp (19 : Nat)) (Code.region (6 : Nat) { toList := [{ dst := some (20 : Nat),op := Op.load (91 : Nat) (Operand.tmp (7 : Nat)),type := (91 : Nat),pos := "trip.go:79",after := { toList := [] },guard := none },{ dst := none,op := Op.store (91 : Nat) (Operand.tmp (5 : Nat)) (Operand.tmp (20 : Nat)),type := (0 : Nat),pos := "trip.go:79",after := { toList := [{ on := (0 : Nat),ground := Ground.data },{ on := (0 : Nat),ground := Ground.phase }] },guard := none },{ dst := none,op := Op.store (4 : Nat) (Operand.tmp (6 : Nat)) (Operand.const (Value.bool false)),type := (0 : Nat),pos := "trip.go:79",after := { toList := [{ on := (1 : Nat),ground := Ground.chain },{ on := (0 : Nat),ground := Ground.phase },{ on := (1 : Nat),ground := Ground.phase }] },guard := none }] } false) Code.skip)))
noncomputable def y1d_c2 : Code := (Code.region (2 : Nat) { toList := [{ dst := some (3 : Nat),op := Op.assign (Operand.tmp (6 : Nat)),type := (25 : Nat),pos := "trip.go:40",after := { toList := [] },guard := none }] } false)
noncomputable def y1d_c3 : Code := (Code.block (1 : Nat) ((Code.region (3 : Nat) { toList := [{ dst := some (7 : Nat),op := Op.load (93 : Nat) (Operand.tmp (2 : Nat)),type := (93 : Nat),pos := "trip.go:41",after := { toList := [] },guard := none },{ dst := some (8 : Nat),op := Op.load (79 : Nat) (Operand.tmp (1 : Nat)),type := (79 : Nat),pos := "trip.go:41",after := { toList := [] },guard := none },{ dst := some (9 : Nat),op := Op.move (Operand.tmp (3 : Nat)),type := (25 : Nat),pos := "trip.go:41",after := { toList := [] },guard := none },{ dst := some (10 : Nat),op := Op.call { callee := Callee.value (Operand.func (60 : Nat)),args := { toList := [Operand.tmp (8 : Nat),Operand.tmp (9 : Nat)] },argTypes := { toList := [(79 : Nat),(25 : Nat)] } },type := (91 : Nat),pos := "trip.go:41",after := { toList := [{ on := (1 : Nat),ground := Ground.data },{ on := (2 : Nat),ground := Ground.data }] },guard := none },{ dst := some (11 : Nat),op := Op.call { callee := Callee.value (Operand.tmp (7 : Nat)),args := { toList := [Operand.tmp (10 : Nat)] },argTypes := { toList := [(91 : Nat)] } },type := (4 : Nat),pos := "trip.go:41",after := { toList := [{ on := (0 : Nat),ground := Ground.data },{ on := (3 : Nat),ground := Ground.data },{ on := (3 : Nat),ground := Ground.chain }] },guard := none },{ dst := some (12 : Nat),op := Op.unOp UnOp.not (4 : Nat) (Operand.tmp (11 : Nat)),type := (4 : Nat),pos := "trip.go:41",after := { toList := [{ on := (4 : Nat),ground := Ground.data }] },guard := none }] } true).seq (Code.cond (Operand.tmp (12 : Nat)) Code.ret Code.skip)))
def laF : Value := .func (.func 109) #[ptr0 1] #[]
noncomputable def L0d (nv : Value) : AObj := lpO Try.f102 #[tripsF,nv,junk,ptr0 3,ptr0 4,ptr0 5,ptr0 6,junk,tripsF,junk,junk,junk,junk,junk,junk,junk,junk,junk,junk,junk,junk,junk]
noncomputable def L2d (s : LoopState) : AObj := lpO Try.f123 #[yv 7,ptr0 2,ptr0 8,junk,ptr0 1,.func (.func 133) #[] #[ptr0 9],junk,junk,junk,junk,junk,junk,junk] s
noncomputable def EHd (b : Int) (n c f : Nat) (l : List Int) (nv : Value) (X : AObj) (s : LoopState) (no : Bool) (k : Nat) (st : Nat→Int) : Heap :=
 [ros l,.rw (walkC b n c f (tmd n)) none,.rw [ptr0 1] none,.rw [nv] none,.rw (nilS :: I10 empI []) none,.rw (slotV no k n :: I10 st []) none,.rw [.bool no] none,L0d nv,.rw [yv 7] none,.rw [ptr0 1] none,L2d s]
noncomputable def EGd (b : Int) (n c f : Nat) (l m : List Int) (nv : Value) (X : AObj) (z : LoopState) (no : Bool) (k : Nat) (st : Nat→Int) : Heap := EHd b n c f l nv X z no k st ++ [.gone,rws m]
def YRd (b : Int) (n c f : Nat) (l m : List Int) (nv : Value) (X : AObj) (z : LoopState) (s : LS) (v : Value) (H' : Heap) : Prop :=
 v = .bool true∧∃ k,H' = EGd b n c f l m nv X z s.no k s.st ++ H'.drop 13∧k < H'.length
noncomputable def ldT (b : Int) (n c f : Nat) (l : List Int) : Ct := Ct.none.add 109 (laCt b n c f l)
noncomputable def y0Ed (b : Int) (n c f : Nat) (l : List Int) : VEnv := { ct := ldT b n c f l }
def ND (n : Nat) (l : List Int) (st : Nat→Int) : Int := ltN l st n
def inA (_ : Nat) (_ : List Int) : (Nat→Int)→Bool := fun _ => true
noncomputable def y1Ad0  : Array Value := { toList := [Value.func (Fn.func (123 : FuncId)) { toList := [] } { toList := [ptr0 2] },Value.func (Fn.func (109 : FuncId)) { toList := [ptr0 1] } { toList := [] },junk,ptr0 3,ptr0 4,ptr0 5,ptr0 6,junk,Value.func (Fn.func (123 : FuncId)) { toList := [] } { toList := [ptr0 2] },junk,junk,junk,junk,junk,junk,junk,junk,junk,junk,junk,junk,junk] }
noncomputable def y1Ad1  : Array Value := { toList := [Value.func (Fn.yield (7 : Nat)) { toList := [] } { toList := [] },ptr0 2,ptr0 8,junk,ptr0 1,Value.func (Fn.func (133 : FuncId)) { toList := [] } { toList := [ptr0 9] },junk,junk,junk,junk,junk,junk,junk] }
noncomputable def y1Ad2 (n:Nat) (x:Nat→Int) := (Value.slice (some ⟨12,0,some 0⟩) n 0::I10 x [])
noncomputable def y1Ad3  := (Value.slice none (0 : Nat) (0 : Nat) :: I10 empI [])
noncomputable def y1Ad4  : List Value := [Value.func (Fn.func (109 : FuncId)) { toList := [ptr0 1] } { toList := [] }]
noncomputable def y1Ad5  : List Value := [Value.func (Fn.yield (7 : Nat)) { toList := [] } { toList := [] }]
noncomputable def y1Ad :=
fun (b:Int) (n c f:Nat) (l m:List Int) (x:Nat→Int)↦Ob (0+11≤11)∧Ob (some (Value.bool true)=some (Value.bool true))∧(true=false→Ob (AtW b n c f l [AObj.ro (List.map (Value.int IntKind.i64) l),AObj.rw (vi b::Value.slice (some (ad0 0)) n c::vi (f:Int)::B10 (tmd n) []) none,AObj.rw [ptr0 1] none,AObj.rw y1Ad4 none,AObj.rw y1Ad3 none,AObj.rw y1Ad3 none,AObj.rw [Value.bool true] none,AObj.loop LoopState.busy none y1Ad0 ⟨[9]⟩ y1d_c0 y1d_c1,AObj.rw y1Ad5 none,AObj.rw [ptr0 1] none,AObj.loop LoopState.busy none y1Ad1 ⟨[6]⟩ y1d_c2 y1d_c3,AObj.gone,AObj.rw (List.map (Value.int IntKind.i64) m) (some 1),AObj.rw (y1Ad2 n x) none]∧l.length=n * 2∧n≤10∧1≤n)∧False)∧(true=true→Ob (11≤11)∧Ob (1≤1)∧Ob (YRd b n c f l m (Value.func (Fn.func (109:FuncId)) ⟨[ptr0 1]⟩ ⟨[]⟩) AObj.gone LoopState.busy (stepL (inA n l) (ND n l) { no := true,st := empI } x) (Value.bool true) [AObj.ro (List.map (Value.int IntKind.i64) l),AObj.rw (vi b::Value.slice (some (ad0 0)) n c::vi (f:Int)::B10 (tmd n) []) none,AObj.rw [ptr0 1] none,AObj.rw y1Ad4 none,AObj.rw y1Ad3 none,AObj.rw (y1Ad2 n x) none,AObj.rw [Value.bool false] none,AObj.loop LoopState.ready none y1Ad0 ⟨[9]⟩ y1d_c0 y1d_c1,AObj.rw y1Ad5 none,AObj.rw [ptr0 1] none,AObj.loop LoopState.busy none y1Ad1 ⟨[6]⟩ y1d_c2 y1d_c3,AObj.gone,AObj.rw (List.map (Value.int IntKind.i64) m) (some 1),AObj.rw (y1Ad2 n x) none]))
theorem y1Ad_eq : y1Ad = fun (b : Int) (n c f : Nat) (l m : List Int) (x : Nat→Int) => ycT (ycIn Try.prog (y0Ed b n c f l) (fun _ => none) 7 [.agg (newS 12 n :: I10 x []).toArray] (EGd b n c f l m laF .gone .busy true 11 empI)) (fun v H' => Ob (YRd b n c f l m laF .gone .busy (stepL (inA n l) (ND n l) ⟨true,empI⟩ x) v H')) := by kernel_rfl
noncomputable def y1Bd0 (b:Int) (n:Nat) (c:Nat) (f:Nat) (l:List Int) (m:List Int) (x:Nat→Int) (st:Nat→Int) := (YRd b n c f l m (Value.func (Fn.func (109:FuncId)) ⟨[ptr0 1]⟩ ⟨[]⟩) AObj.gone LoopState.busy (stepL (inA n l) (ND n l) { no := false,st := st } x) (Value.bool true) [AObj.ro (List.map (Value.int IntKind.i64) l),AObj.rw (vi b::Value.slice (some (ad0 0)) n c::vi (f:Int)::B10 (tmd n) []) none,AObj.rw [ptr0 1] none,AObj.rw [Value.func (Fn.func (109:FuncId)) ⟨[ptr0 1]⟩ ⟨[]⟩] none,AObj.rw (Value.slice none 0 0::I10 empI []) none,AObj.rw (Value.slice (some ⟨12,0,some 0⟩) n 0::I10 x []) none,AObj.rw [Value.bool false] none,AObj.loop LoopState.ready none ⟨[Value.func (Fn.func (123:FuncId)) ⟨[]⟩ ⟨[ptr0 2]⟩,Value.func (Fn.func (109:FuncId)) ⟨[ptr0 1]⟩ ⟨[]⟩,junk,ptr0 3,ptr0 4,ptr0 5,ptr0 6,junk,Value.func (Fn.func (123:FuncId)) ⟨[]⟩ ⟨[ptr0 2]⟩,junk,junk,junk,junk,junk,junk,junk,junk,junk,junk,junk,junk,junk]⟩ ⟨[9]⟩ y1d_c0 y1d_c1,AObj.rw [Value.func (Fn.yield 7) ⟨[]⟩ ⟨[]⟩] none,AObj.rw [ptr0 1] none,AObj.loop LoopState.busy none ⟨[Value.func (Fn.yield 7) ⟨[]⟩ ⟨[]⟩,ptr0 2,ptr0 8,junk,ptr0 1,Value.func (Fn.func (133:FuncId)) ⟨[]⟩ ⟨[ptr0 9]⟩,junk,junk,junk,junk,junk,junk,junk]⟩ ⟨[6]⟩ y1d_c2 y1d_c3,AObj.gone,AObj.rw (List.map (Value.int IntKind.i64) m) (some 1),AObj.rw (Value.slice (some ⟨12,0,some 0⟩) n 0::I10 x []) none])
noncomputable def y1Bd1 (b:Int) (n:Nat) (c:Nat) (f:Nat) (l:List Int) (m:List Int) (x:Nat→Int) (st:Nat→Int):Prop := (AtW b n c f l [AObj.ro (List.map (Value.int IntKind.i64) l),AObj.rw (vi b::Value.slice (some (ad0 0)) n c::vi (f:Int)::B10 (tmd n) []) none,AObj.rw [ptr0 1] none,AObj.rw [Value.func (Fn.func (109:FuncId)) ⟨[ptr0 1]⟩ ⟨[]⟩] none,AObj.rw (Value.slice none 0 0::I10 empI []) none,AObj.rw (Value.slice (some ⟨11,0,some 0⟩) n 0::I10 st []) none,AObj.rw [Value.bool false] none,AObj.loop LoopState.busy none ⟨[Value.func (Fn.func (123:FuncId)) ⟨[]⟩ ⟨[ptr0 2]⟩,Value.func (Fn.func (109:FuncId)) ⟨[ptr0 1]⟩ ⟨[]⟩,junk,ptr0 3,ptr0 4,ptr0 5,ptr0 6,junk,Value.func (Fn.func (123:FuncId)) ⟨[]⟩ ⟨[ptr0 2]⟩,junk,junk,junk,junk,junk,junk,junk,junk,junk,junk,junk,junk,junk]⟩ ⟨[9]⟩ y1d_c0 y1d_c1,AObj.rw [Value.func (Fn.yield 7) ⟨[]⟩ ⟨[]⟩] none,AObj.rw [ptr0 1] none,AObj.loop LoopState.busy none ⟨[Value.func (Fn.yield 7) ⟨[]⟩ ⟨[]⟩,ptr0 2,ptr0 8,junk,ptr0 1,Value.func (Fn.func (133:FuncId)) ⟨[]⟩ ⟨[ptr0 9]⟩,junk,junk,junk,junk,junk,junk,junk]⟩ ⟨[6]⟩ y1d_c2 y1d_c3,AObj.gone,AObj.rw (List.map (Value.int IntKind.i64) m) (some 1),AObj.rw (Value.slice (some ⟨12,0,some 0⟩) n 0::I10 x []) none]∧l.length=n * 2∧n≤10∧1≤n)
noncomputable def y1Bd2 (st:Nat→Int) := (l10 (st 0) (st 1) (st 2) (st 3) (st 4) (st 5) (st 6) (st 7) (st 8) (st 9))
noncomputable def y1Bd3 (x:Nat→Int) := (l10 (x 0) (x 1) (x 2) (x 3) (x 4) (x 5) (x 6) (x 7) (x 8) (x 9))
noncomputable def y1Bd :=
fun (b:Int) (n c f:Nat) (l m:List Int) (x st:Nat→Int)↦Ob (0+11≤11)∧Ob (some (Value.bool false)=some (Value.bool false))∧(false=false→Ob (y1Bd1 b n c f l m x st)∧Ob (y1Bd1 b n c f l m x st)∧(decide (ltN l (y1Bd3 x) n<ltN l (y1Bd2 st) n)=true→Ob (11≤11)∧Ob (1≤1)∧Ob (y1Bd0 b n c f l m x st))∧(decide (ltN l (y1Bd3 x) n<ltN l (y1Bd2 st) n)=false→Ob (YRd b n c f l m (Value.func (Fn.func (109:FuncId)) ⟨[ptr0 1]⟩ ⟨[]⟩) AObj.gone LoopState.busy (stepL (inA n l) (ND n l) { no := false,st := st } x) (Value.bool true) [AObj.ro (List.map (Value.int IntKind.i64) l),AObj.rw (vi b::Value.slice (some (ad0 0)) n c::vi (f:Int)::B10 (tmd n) []) none,AObj.rw [ptr0 1] none,AObj.rw [Value.func (Fn.func (109:FuncId)) ⟨[ptr0 1]⟩ ⟨[]⟩] none,AObj.rw (Value.slice none 0 0::I10 empI []) none,AObj.rw (Value.slice (some ⟨11,0,some 0⟩) n 0::I10 st []) none,AObj.rw [Value.bool false] none,AObj.loop LoopState.ready none ⟨[Value.func (Fn.func (123:FuncId)) ⟨[]⟩ ⟨[ptr0 2]⟩,Value.func (Fn.func (109:FuncId)) ⟨[ptr0 1]⟩ ⟨[]⟩,junk,ptr0 3,ptr0 4,ptr0 5,ptr0 6,junk,Value.func (Fn.func (123:FuncId)) ⟨[]⟩ ⟨[ptr0 2]⟩,junk,junk,junk,junk,junk,junk,junk,junk,junk,junk,junk,junk,junk]⟩ ⟨[9]⟩ y1d_c0 y1d_c1,AObj.rw [Value.func (Fn.yield 7) ⟨[]⟩ ⟨[]⟩] none,AObj.rw [ptr0 1] none,AObj.loop LoopState.busy none ⟨[Value.func (Fn.yield 7) ⟨[]⟩ ⟨[]⟩,ptr0 2,ptr0 8,junk,ptr0 1,Value.func (Fn.func (133:FuncId)) ⟨[]⟩ ⟨[ptr0 9]⟩,junk,junk,junk,junk,junk,junk,junk]⟩ ⟨[6]⟩ y1d_c2 y1d_c3,AObj.gone,AObj.rw (List.map (Value.int IntKind.i64) m) (some 1),AObj.rw (Value.slice (some ⟨12,0,some 0⟩) n 0::I10 x []) none])))∧(false=true→Ob (11≤11)∧Ob (1≤1)∧Ob (y1Bd0 b n c f l m x st))
theorem y1Bd_eq : y1Bd = fun (b : Int) (n c f : Nat) (l m : List Int) (x st : Nat→Int) => ycT (ycIn Try.prog (y0Ed b n c f l) (fun _ => none) 7 [.agg (newS 12 n :: I10 x []).toArray] (EGd b n c f l m laF .gone .busy false 11 st)) (fun v H' => Ob (YRd b n c f l m laF .gone .busy (stepL (inA n l) (ND n l) ⟨false,st⟩ x) v H')) := by kernel_rfl
theorem y1Ad_ok (b : Int) (n c f : Nat) (l m : List Int) (x : Nat→Int) (hl : l.length = n * 2) (hn : n≤10) (hn1 : 1≤n) : y1Ad b n c f l m x := by
 unfold y1Ad y1Ad5 y1Ad4 y1Ad3 y1Ad2 y1Ad1 y1Ad0
 simp only [SS,reduceCtorEq,Arg.list,Arg.num,Arg.flag,intOf,andP,Nat.reduceLeDiff,Nat.reduceAdd,Nat.reduceMul,Nat.reduceLT]
 rw [stepL_new rfl (.inl rfl)]
 exact ⟨rfl,12,by kernel_rfl,by simp⟩
theorem y1Bd_ok (b : Int) (n c f : Nat) (l m : List Int) (x st : Nat→Int) (hl : l.length = n * 2) (hn : n≤10) (hn1 : 1≤n) : y1Bd b n c f l m x st := by
 unfold y1Bd y1Bd3 y1Bd2 y1Bd1 y1Bd0
 simp only [SS,reduceCtorEq,Arg.list,Arg.num,Arg.flag,intOf,andP,Nat.reduceLeDiff,Nat.reduceAdd,Nat.reduceMul,Nat.reduceLT,ltN_l10 n hn]
 refine ⟨⟨⟨rfl,rfl⟩,hl,hn,hn1⟩,⟨⟨rfl,rfl⟩,hl,hn,hn1⟩,fun h2 => ?_,fun h2 => ?_⟩
 · rw [stepL_new (N := ND n l) (s := ⟨false,st⟩) rfl (.inr h2)]
   exact ⟨rfl,12,by kernel_rfl,by simp⟩
 · rw [stepL_old (N := ND n l) (s := ⟨false,st⟩) rfl h2]
   exact ⟨rfl,11,by kernel_rfl,by simp⟩
def σkd (k b : Nat) : Nat := if b = 13 then k else b
theorem slot_omapd {k n : Nat} {no : Bool} {st : Nat→Int} : omap (σkd k) (.rw (slotV no 13 n :: I10 st []) none) = .rw (slotV no k n :: I10 st []) none := by cases no <;> rfl
theorem EG_omapd {b : Int} {n c f k : Nat} {l m : List Int} {nv : Value} {X : AObj} {z : LoopState} {no : Bool} {st : Nat→Int} (hX : omap (σkd k) X = X) (hz : omap (σkd k) (L2d z) = L2d z) (hv : omap (σkd k) (.rw [nv] none) = .rw [nv] none∧omap (σkd k) (L0d nv) = L0d nv) :
   (EGd b n c f l m nv X z no 13 st).map (omap (σkd k)) = EGd b n c f l m nv X z no k st := by
 unfold EGd EHd
 simp only [List.map_append,List.map_cons,List.map_nil,ros_omap,rws_omap,slot_omapd,hX,hz,hv.1,hv.2,walk_omap (show σkd k 0 = 0 from rfl)]
 kernel_rfl
theorem EG_scd {b : Int} {n c f k : Nat} {l m : List Int} {nv : Value} {X : AObj} {z : LoopState} {no : Bool} {st : Nat→Int} (hk : k < 14) (hX : X.sc 14 = true) (hz : (L2d z).sc 14 = true) (hv : AObj.sc 14 (.rw [nv] none) = true∧(L0d nv).sc 14 = true) :
   ∀ o ∈ EGd b n c f l m nv X z no k st,o.sc 14 = true := by
 refine List.all_eq_true.1 ?_
 unfold EGd EHd
 simp only [List.all_append,List.all_cons,List.all_nil,ros_sc,rws_sc,slot_sc hk,hX,hz,hv.1,hv.2,Bool.and_true,Bool.true_and]
 kernel_rfl
theorem EG_lend {b : Int} {n c f k : Nat} {l m : List Int} {nv : Value} {X : AObj} {z : LoopState} {no : Bool} {st : Nat→Int} : (EGd b n c f l m nv X z no k st).length = 13 := rfl
theorem YR_anewd {b : Int} {n c f : Nat} {l m : List Int} {nv : Value} {X : AObj} {z : LoopState} {s : LS} {v : Value} {H' : Heap} (h : YRd b n c f l m nv X z s v H')
   (hX : ∀ k,omap (σkd k) X = X) (hz : ∀ k,omap (σkd k) (L2d z) = L2d z) (hv : ∀ k,omap (σkd k) (.rw [nv] none) = .rw [nv] none∧omap (σkd k) (L0d nv) = L0d nv) (sX : X.sc 14 = true) (sz : (L2d z).sc 14 = true) (sv : AObj.sc 14 (.rw [nv] none) = true∧(L0d nv).sc 14 = true) :
   ∃ σ v2 H2,Anew 13 σ H' H2∧v = nmap σ v2∧sc H2.length v2 = true∧(v2 = .bool true∧H2 = EGd b n c f l m nv X z s.no 13 s.st ++ [.gone]) := by
 obtain ⟨rfl,k,he,hk⟩ := h
 refine ⟨σkd k,.bool true,_,⟨?_,fun b' hb => ?_,fun b' o hb => ?_,fun b1 b2 o h1 h2 h3 h4 h5 h6 => ?_,fun b' o hb => ?_⟩,rfl,rfl,rfl,rfl⟩
 · rw [List.length_append,EG_lend]; simp
 · unfold σkd; rw [if_neg (by omega)]
 · rcases Nat.lt_or_ge b' 13 with h1 | h1
   · right
     rw [List.getElem?_append_left (by rw [EG_lend]; exact h1)] at hb
     rw [he,show σkd k b' = b' by unfold σkd; rw [if_neg (by omega)],List.getElem?_append_left (by rw [EG_lend]; exact h1),← EG_omapd (hX k) (hz k) (hv k),List.getElem?_map,hb]
     rfl
   · left
     rw [List.getElem?_append_right (by rw [EG_lend]; exact h1),EG_lend] at hb
     have : b' - 13 = 0 := by
       have := (List.getElem?_eq_some_iff.1 hb).1
       simp at this; omega
     rw [this] at hb
     exact (Option.some.inj hb).symm
 · have hl : (EGd b n c f l m nv X z s.no 13 s.st ++ [AObj.gone]).length = 14 := by rw [List.length_append,EG_lend]; rfl
   rw [hl] at h1 h2
   have g18 : (EGd b n c f l m nv X z s.no 13 s.st ++ [AObj.gone])[13]? = some .gone := by rw [List.getElem?_append_right (by rw [EG_lend]; omega),EG_lend]; rfl
   have n1 : b1 ≠ 13 := fun e => by subst e; rw [g18] at h3; cases h3; exact h4 rfl
   have n2 : b2 ≠ 13 := fun e => by
     subst e
     rcases h5 with h5 | h5
     · exact h5 g18
     · omega
   unfold σkd at h6
   rw [if_neg n1,if_neg n2] at h6
   exact h6
 · have hl : (EGd b n c f l m nv X z s.no 13 s.st ++ [AObj.gone]).length = 14 := by rw [List.length_append,EG_lend]; rfl
   rw [hl]
   rcases List.mem_append.1 (List.mem_of_getElem? hb) with h1 | h1
   · exact EG_scd (by omega) sX sz sv o h1
   · rw [List.mem_singleton.1 h1]; rfl
theorem ldT_ok (b : Int) (n c f : Nat) (l : List Int) : CtOk Try.prog (ldT b n c f l) := CtOk.none.add (la_ok b n c f l)
theorem y1_yieldd (b : Int) (n c f : Nat) (l m : List Int) (x : Nat→Int) (s : LS) (hl : l.length = n * 2) (hn : n≤10) (hn1 : 1≤n) (hs : s.no = true→s.st = empI) :
   Yield Try.prog 7 [.agg (newS 12 n :: I10 x []).toArray] (EGd b n c f l m laF .gone .busy s.no 11 s.st) fun v H' => v = .bool true∧H' = EGd b n c f l m laF .gone .busy (stepL (inA n l) (ND n l) s x).no 13 (stepL (inA n l) (ND n l) s x).st ++ [.gone] := by
 refine Yield.anew (Yield.mono (Q := YRd b n c f l m laF .gone .busy (stepL (inA n l) (ND n l) s x)) ?_ fun v H' h => YR_anewd h (fun _ => rfl) (fun _ => by kernel_rfl) (fun _ => ⟨by kernel_rfl,by kernel_rfl⟩) rfl (by kernel_rfl) ⟨by kernel_rfl,by kernel_rfl⟩)
 obtain ⟨no,st⟩ := s
 cases no with
 | true =>
   obtain rfl : st = empI := hs rfl
   have h := y1Ad_ok b n c f l m x hl hn hn1
   rw [y1Ad_eq] at h
   unfold ycT at h
   split at h
   · rename_i T hT
     exact (ycIn_ok (VOk.ofCt (ldT_ok b n c f l)) mixed _ _ _ _ hT _ h).mono fun v H' k => k.out
   · exact h.elim
 | false =>
   have h := y1Bd_ok b n c f l m x st hl hn hn1
   rw [y1Bd_eq] at h
   unfold ycT at h
   split at h
   · rename_i T hT
     exact (ycIn_ok (VOk.ofCt (ldT_ok b n c f l)) mixed _ _ _ _ hT _ h).mono fun v H' k => k.out
   · exact h.elim
end Go.Pier.Rd
namespace Go.Pier.Rd
open Go Go.Pier Go.Proofs
noncomputable def nxSd (b : Int) (n : Nat) (l m : List Int) (no : Bool) (st : Nat→Int) : LS := stepL (inA n l) (ND n l) ⟨no,st⟩ (stp b l m)
noncomputable def y1Ytd (b : Int) (n c f : Nat) (l m : List Int) (no : Bool) (st : Nat→Int) : Yt := fun b' args H => match Nat.beq b' 7 with
 | true => some (some (args = [.agg (newS 12 n :: I10 (stp b l m) []).toArray]∧H = EGd b n c f l m laF .gone .busy no 11 st∧l.length = n * 2∧n≤10∧1≤n∧(no = true→st = empI)),.bool true,EGd b n c f l m laF .gone .busy (nxSd b n l m no st).no 13 (nxSd b n l m no st).st ++ [.gone],[5,6])
 | false => none
noncomputable def y2Ed (b : Int) (n c f : Nat) (l m : List Int) : VEnv := { ct := Ct.none.add 60 (tpCt b n c f l m) }
noncomputable def y2Vd :=
fun (b:Int) (n c f:Nat) (l m:List Int) (no:Bool) (st:Nat→Int)↦Ob (AtW b n c f l [AObj.ro (List.map (Value.int IntKind.i64) l),AObj.rw (vi b::Value.slice (some (ad0 0)) n c::vi (f:Int)::B10 (tmd n) []) none,AObj.rw [ptr0 1] none,AObj.rw [Value.func (Fn.func (109:FuncId)) ⟨[ptr0 1]⟩ ⟨[]⟩] none,AObj.rw (Value.slice none 0 0::I10 empI []) none,AObj.rw (slotV no 11 n::I10 st []) none,AObj.rw [Value.bool no] none,AObj.loop LoopState.ready none ⟨[Value.func (Fn.func (123:FuncId)) ⟨[]⟩ ⟨[ptr0 2]⟩,Value.func (Fn.func (109:FuncId)) ⟨[ptr0 1]⟩ ⟨[]⟩,junk,ptr0 3,ptr0 4,ptr0 5,ptr0 6,junk,Value.func (Fn.func (123:FuncId)) ⟨[]⟩ ⟨[ptr0 2]⟩,junk,junk,junk,junk,junk,junk,junk,junk,junk,junk,junk,junk,junk]⟩ ⟨[9]⟩ y1d_c0 y1d_c1,AObj.rw [Value.func (Fn.yield 7) ⟨[]⟩ ⟨[]⟩] none,AObj.rw [ptr0 1] none,AObj.loop LoopState.busy none ⟨[Value.func (Fn.yield 7) ⟨[]⟩ ⟨[]⟩,ptr0 2,ptr0 8,junk,ptr0 1,Value.func (Fn.func (133:FuncId)) ⟨[]⟩ ⟨[ptr0 9]⟩,junk,junk,junk,junk,junk,junk,junk]⟩ ⟨[6]⟩ y1d_c2 y1d_c3,AObj.gone,AObj.rw (List.map (Value.int IntKind.i64) m) (some 1)]∧some (AObj.rw (List.map (Value.int IntKind.i64) m) (some 1))=some (AObj.rw (List.map (Value.int IntKind.i64) m) (some 1))∧n=m.length∧l.length=n * 2∧n≤10∧rngP b n l∧m.length≤10∧∀ (j:Nat),j<m.length→(0:Int)≤m.getD j (0:Int)∧m.getD j (0:Int)<(n:Int))∧Ob ([Value.agg { toList := (Value.slice (some ⟨12,0,some 0⟩) n 0::I10 (stp b l m) []) }]=[Value.agg { toList := (Value.slice (some ⟨12,0,some 0⟩) n 0::I10 (stp b l m) []) }]∧[AObj.ro (List.map (Value.int IntKind.i64) l),AObj.rw (vi b::Value.slice (some (ad0 0)) n c::vi (f:Int)::B10 (tmd n) []) none,AObj.rw [ptr0 1] none,AObj.rw [Value.func (Fn.func (109:FuncId)) ⟨[ptr0 1]⟩ ⟨[]⟩] none,AObj.rw (Value.slice none 0 0::I10 empI []) none,AObj.rw (slotV no 11 n::I10 st []) none,AObj.rw [Value.bool no] none,AObj.loop LoopState.ready none ⟨[Value.func (Fn.func (123:FuncId)) ⟨[]⟩ ⟨[ptr0 2]⟩,Value.func (Fn.func (109:FuncId)) ⟨[ptr0 1]⟩ ⟨[]⟩,junk,ptr0 3,ptr0 4,ptr0 5,ptr0 6,junk,Value.func (Fn.func (123:FuncId)) ⟨[]⟩ ⟨[ptr0 2]⟩,junk,junk,junk,junk,junk,junk,junk,junk,junk,junk,junk,junk,junk]⟩ ⟨[9]⟩ y1d_c0 y1d_c1,AObj.rw [Value.func (Fn.yield 7) ⟨[]⟩ ⟨[]⟩] none,AObj.rw [ptr0 1] none,AObj.loop LoopState.busy none ⟨[Value.func (Fn.yield 7) ⟨[]⟩ ⟨[]⟩,ptr0 2,ptr0 8,junk,ptr0 1,Value.func (Fn.func (133:FuncId)) ⟨[]⟩ ⟨[ptr0 9]⟩,junk,junk,junk,junk,junk,junk,junk]⟩ ⟨[6]⟩ y1d_c2 y1d_c3,AObj.gone,AObj.rw (List.map (Value.int IntKind.i64) m) (some 1)]=[AObj.ro (List.map (Value.int IntKind.i64) l),AObj.rw (vi b::Value.slice (some (ad0 0)) n c::vi (f:Int)::B10 (tmd n) []) none,AObj.rw [ptr0 1] none,AObj.rw [Value.func (Fn.func (109:FuncId)) ⟨[ptr0 1]⟩ ⟨[]⟩] none,AObj.rw (Value.slice none 0 0::I10 empI []) none,AObj.rw (slotV no 11 n::I10 st []) none,AObj.rw [Value.bool no] none,AObj.loop LoopState.ready none ⟨[Value.func (Fn.func (123:FuncId)) ⟨[]⟩ ⟨[ptr0 2]⟩,Value.func (Fn.func (109:FuncId)) ⟨[ptr0 1]⟩ ⟨[]⟩,junk,ptr0 3,ptr0 4,ptr0 5,ptr0 6,junk,Value.func (Fn.func (123:FuncId)) ⟨[]⟩ ⟨[ptr0 2]⟩,junk,junk,junk,junk,junk,junk,junk,junk,junk,junk,junk,junk,junk]⟩ ⟨[9]⟩ y1d_c0 y1d_c1,AObj.rw [Value.func (Fn.yield 7) ⟨[]⟩ ⟨[]⟩] none,AObj.rw [ptr0 1] none,AObj.loop LoopState.busy none ⟨[Value.func (Fn.yield 7) ⟨[]⟩ ⟨[]⟩,ptr0 2,ptr0 8,junk,ptr0 1,Value.func (Fn.func (133:FuncId)) ⟨[]⟩ ⟨[ptr0 9]⟩,junk,junk,junk,junk,junk,junk,junk]⟩ ⟨[6]⟩ y1d_c2 y1d_c3,AObj.gone,AObj.rw (List.map (Value.int IntKind.i64) m) (some 1)]∧l.length=n * 2∧n≤10∧1≤n∧(no=true→st=empI))∧(false=true→Ob (Value.bool false=Value.bool true∧[AObj.ro (List.map (Value.int IntKind.i64) l),AObj.rw (vi b::Value.slice (some (ad0 0)) n c::vi (f:Int)::B10 (tmd n) []) none,AObj.rw [ptr0 1] none,AObj.rw [Value.func (Fn.func (109:FuncId)) ⟨[ptr0 1]⟩ ⟨[]⟩] none,AObj.rw (Value.slice none 0 0::I10 empI []) none,AObj.rw (slotV (nxSd b n l m no st).no 13 n::I10 ((nxSd b n l m no st).st) []) none,AObj.rw [Value.bool (nxSd b n l m no st).no] none,AObj.loop LoopState.ready none ⟨[Value.func (Fn.func (123:FuncId)) ⟨[]⟩ ⟨[ptr0 2]⟩,Value.func (Fn.func (109:FuncId)) ⟨[ptr0 1]⟩ ⟨[]⟩,junk,ptr0 3,ptr0 4,ptr0 5,ptr0 6,junk,Value.func (Fn.func (123:FuncId)) ⟨[]⟩ ⟨[ptr0 2]⟩,junk,junk,junk,junk,junk,junk,junk,junk,junk,junk,junk,junk,junk]⟩ ⟨[9]⟩ y1d_c0 y1d_c1,AObj.rw [Value.func (Fn.yield 7) ⟨[]⟩ ⟨[]⟩] none,AObj.rw [ptr0 1] none,AObj.loop LoopState.done (some Code.ret) ⟨[Value.func (Fn.yield 7) ⟨[]⟩ ⟨[]⟩,ptr0 2,ptr0 8,junk,ptr0 1,Value.func (Fn.func (133:FuncId)) ⟨[]⟩ ⟨[ptr0 9]⟩,junk,junk,junk,junk,junk,junk,junk]⟩ ⟨[6]⟩ y1d_c2 y1d_c3,AObj.gone,AObj.rw (List.map (Value.int IntKind.i64) m) (some 1),AObj.gone]=[AObj.ro (List.map (Value.int IntKind.i64) l),AObj.rw (vi b::Value.slice (some (ad0 0)) n c::vi (f:Int)::B10 (tmd n) []) none,AObj.rw [ptr0 1] none,AObj.rw [Value.func (Fn.func (109:FuncId)) ⟨[ptr0 1]⟩ ⟨[]⟩] none,AObj.rw (Value.slice none 0 0::I10 empI []) none,AObj.rw (slotV (nxSd b n l m no st).no 13 n::I10 ((nxSd b n l m no st).st) []) none,AObj.rw [Value.bool (nxSd b n l m no st).no] none,AObj.loop LoopState.ready none ⟨[Value.func (Fn.func (123:FuncId)) ⟨[]⟩ ⟨[ptr0 2]⟩,Value.func (Fn.func (109:FuncId)) ⟨[ptr0 1]⟩ ⟨[]⟩,junk,ptr0 3,ptr0 4,ptr0 5,ptr0 6,junk,Value.func (Fn.func (123:FuncId)) ⟨[]⟩ ⟨[ptr0 2]⟩,junk,junk,junk,junk,junk,junk,junk,junk,junk,junk,junk,junk,junk]⟩ ⟨[9]⟩ y1d_c0 y1d_c1,AObj.rw [Value.func (Fn.yield 7) ⟨[]⟩ ⟨[]⟩] none,AObj.rw [ptr0 1] none,AObj.loop LoopState.ready none ⟨[Value.func (Fn.yield 7) ⟨[]⟩ ⟨[]⟩,ptr0 2,ptr0 8,junk,ptr0 1,Value.func (Fn.func (133:FuncId)) ⟨[]⟩ ⟨[ptr0 9]⟩,junk,junk,junk,junk,junk,junk,junk]⟩ ⟨[6]⟩ y1d_c2 y1d_c3,AObj.gone,AObj.rw (List.map (Value.int IntKind.i64) m) (some 1),AObj.gone]))∧(false=false→Ob (Value.bool true=Value.bool true∧[AObj.ro (List.map (Value.int IntKind.i64) l),AObj.rw (vi b::Value.slice (some (ad0 0)) n c::vi (f:Int)::B10 (tmd n) []) none,AObj.rw [ptr0 1] none,AObj.rw [Value.func (Fn.func (109:FuncId)) ⟨[ptr0 1]⟩ ⟨[]⟩] none,AObj.rw (Value.slice none 0 0::I10 empI []) none,AObj.rw (slotV (nxSd b n l m no st).no 13 n::I10 ((nxSd b n l m no st).st) []) none,AObj.rw [Value.bool (nxSd b n l m no st).no] none,AObj.loop LoopState.ready none ⟨[Value.func (Fn.func (123:FuncId)) ⟨[]⟩ ⟨[ptr0 2]⟩,Value.func (Fn.func (109:FuncId)) ⟨[ptr0 1]⟩ ⟨[]⟩,junk,ptr0 3,ptr0 4,ptr0 5,ptr0 6,junk,Value.func (Fn.func (123:FuncId)) ⟨[]⟩ ⟨[ptr0 2]⟩,junk,junk,junk,junk,junk,junk,junk,junk,junk,junk,junk,junk,junk]⟩ ⟨[9]⟩ y1d_c0 y1d_c1,AObj.rw [Value.func (Fn.yield 7) ⟨[]⟩ ⟨[]⟩] none,AObj.rw [ptr0 1] none,AObj.loop LoopState.ready none ⟨[Value.func (Fn.yield 7) ⟨[]⟩ ⟨[]⟩,ptr0 2,ptr0 8,junk,ptr0 1,Value.func (Fn.func (133:FuncId)) ⟨[]⟩ ⟨[ptr0 9]⟩,junk,junk,junk,junk,junk,junk,junk]⟩ ⟨[6]⟩ y1d_c2 y1d_c3,AObj.gone,AObj.rw (List.map (Value.int IntKind.i64) m) (some 1),AObj.gone]=[AObj.ro (List.map (Value.int IntKind.i64) l),AObj.rw (vi b::Value.slice (some (ad0 0)) n c::vi (f:Int)::B10 (tmd n) []) none,AObj.rw [ptr0 1] none,AObj.rw [Value.func (Fn.func (109:FuncId)) ⟨[ptr0 1]⟩ ⟨[]⟩] none,AObj.rw (Value.slice none 0 0::I10 empI []) none,AObj.rw (slotV (nxSd b n l m no st).no 13 n::I10 ((nxSd b n l m no st).st) []) none,AObj.rw [Value.bool (nxSd b n l m no st).no] none,AObj.loop LoopState.ready none ⟨[Value.func (Fn.func (123:FuncId)) ⟨[]⟩ ⟨[ptr0 2]⟩,Value.func (Fn.func (109:FuncId)) ⟨[ptr0 1]⟩ ⟨[]⟩,junk,ptr0 3,ptr0 4,ptr0 5,ptr0 6,junk,Value.func (Fn.func (123:FuncId)) ⟨[]⟩ ⟨[ptr0 2]⟩,junk,junk,junk,junk,junk,junk,junk,junk,junk,junk,junk,junk,junk]⟩ ⟨[9]⟩ y1d_c0 y1d_c1,AObj.rw [Value.func (Fn.yield 7) ⟨[]⟩ ⟨[]⟩] none,AObj.rw [ptr0 1] none,AObj.loop LoopState.ready none ⟨[Value.func (Fn.yield 7) ⟨[]⟩ ⟨[]⟩,ptr0 2,ptr0 8,junk,ptr0 1,Value.func (Fn.func (133:FuncId)) ⟨[]⟩ ⟨[ptr0 9]⟩,junk,junk,junk,junk,junk,junk,junk]⟩ ⟨[6]⟩ y1d_c2 y1d_c3,AObj.gone,AObj.rw (List.map (Value.int IntKind.i64) m) (some 1),AObj.gone]))
theorem y2Vd_eq : y2Vd = fun (b : Int) (n c f : Nat) (l m : List Int) (no : Bool) (st : Nat→Int) => ycT (ycInY Try.prog (y2Ed b n c f l m) (y1Ytd b n c f l m no st) (fun _ => none) 10 [newS 12 n] (EGd b n c f l m laF .gone .ready no 11 st)) (fun v H' => Ob (v = .bool true∧H' = EGd b n c f l m laF .gone .ready (nxSd b n l m no st).no 13 (nxSd b n l m no st).st ++ [.gone])) := by kernel_rfl
theorem y2V_okd (b : Int) (n c f : Nat) (l m : List Int) (no : Bool) (st : Nat→Int) (hl : l.length = n * 2) (hn : n≤10) (hn1 : 1≤n) (hr : rngP b n l) (hm : m.length = n) (ha : ∀ j,j < m.length→0≤m.getD j 0∧m.getD j 0 < n) (hs : no = true→st = empI) : y2Vd b n c f l m no st := by
 unfold y2Vd
 exact ⟨⟨⟨rfl,rfl⟩,rfl,hm.symm,hl,hn,hr,by omega,ha⟩,⟨rfl,by kernel_rfl,hl,hn,hn1,hs⟩,fun h => absurd h (by decide),fun _ => ⟨rfl,by kernel_rfl⟩⟩
theorem y1Yt_okd (b : Int) (n c f : Nat) (l m : List Int) (no : Bool) (st : Nat→Int) : YtOk Try.prog (y1Ytd b n c f l m no st) := by
 intro b' args H φ v H' lg h hφ
 unfold y1Ytd at h
 split at h <;> cases h
 rename_i hb
 obtain rfl := Nat.eq_of_beq_eq_true hb
 obtain ⟨rfl,rfl,h1,h2,h4,h3⟩ := hφ
 refine ⟨y1_yieldd b n c f l m _ ⟨no,st⟩ h1 h2 h4 h3,by rw [List.length_append,EG_lend,EG_lend]; omega,fun b1 h6 h5 => ?_⟩
 rw [EG_lend] at h6
 rw [List.getElem?_append_left (by rw [EG_lend]; exact h6)]
 have h8 : b1 ≠ 5 := fun e => h5 (by subst e; simp)
 have h9 : b1 ≠ 6 := fun e => h5 (by subst e; simp)
 unfold EGd EHd
 rcases b1 with _ | _ | _ | _ | _ | _ | _ | _ | _ | _ | _ | _ | _ | _ | _ | _ | _ | _ | b1 <;> first | rfl | omega
theorem y2E_okd (b : Int) (n c f : Nat) (l m : List Int) : VOk Try.prog (y2Ed b n c f l m) := VOk.ofCt (CtOk.none.add (tp_ok b n c f l m))
theorem y2_yieldd (b : Int) (n c f : Nat) (l m : List Int) (no : Bool) (st : Nat→Int) (hl : l.length = n * 2) (hn : n≤10) (hn1 : 1≤n) (hr : rngP b n l) (hm : m.length = n) (ha : ∀ j,j < m.length→0≤m.getD j 0∧m.getD j 0 < n) (hs : no = true→st = empI) :
   Yield Try.prog 10 [newS 12 n] (EGd b n c f l m laF .gone .ready no 11 st) fun v H' => v = .bool true∧H' = EGd b n c f l m laF .gone .ready (nxSd b n l m no st).no 13 (nxSd b n l m no st).st ++ [.gone] := by
 have h := y2V_okd b n c f l m no st hl hn hn1 hr hm ha hs
 rw [y2Vd_eq] at h
 unfold ycT at h
 split at h
 · rename_i T hT
   exact (ycIn_okY (y2E_okd b n c f l m) (y1Yt_okd b n c f l m no st) mixed _ _ _ _ hT _ h).mono fun v H' k => k.out
 · exact h.elim
end Go.Pier.Rd
