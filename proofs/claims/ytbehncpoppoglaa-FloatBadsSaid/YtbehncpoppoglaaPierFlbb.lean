import Derived.Test.YtbehncpoppoglaaPierKB6
import Derived.KernelRfl
set_option linter.unusedSimpArgs false
set_option linter.unusedVariables false
set_option maxRecDepth 100000
namespace Go.Pier.Fl
open Go Go.Pier Go.Proofs
noncomputable def bbT : Ct := ((((Ct.none.add 19 (pureG [] worksS)).add 35 (pureG [.ints .i64] baS)).add 36 (pureG [.ints .i64] baS)).add 37 (pureG [.ints .i64,.int .i64] cbS)).add 38 (pureG [.ints .i64,.int .i64] cbS)
noncomputable def bbE : VEnv := { ct := bbT,cc := ccIn Try.prog {} [⟨18,Try.f18,fun _ _ _ => none⟩] }
noncomputable def bbB : Code := Try.f6.body.getD .skip
noncomputable def bbK : KD := retK Try.prog Try.f6 isTrue
noncomputable def bbV :=
fun (l:List Int) (c:Nat) (a:Int)↦(decide ((10:Int)<(l.length:Int))=true→Ob True∧True∧Ob (isTrue (Value.bool true) [AObj.ro (List.map (Value.int IntKind.i64) l)]))∧(decide ((10:Int)<(l.length:Int))=false→Ob ((List.take l.length (List.drop 0 (List.map (Value.int IntKind.i64) l))=List.map (Value.int IntKind.i64) (List.take l.length (List.drop 0 (intsOf (List.map (Value.int IntKind.i64) l))))∧0+l.length≤(List.map (Value.int IntKind.i64) l).length∧true=true)∧(List.take l.length (List.drop 0 (intsOf (List.map (Value.int IntKind.i64) l)))).length≤1000000)∧Ob ((List.take l.length (List.drop 0 (List.map (Value.int IntKind.i64) l))=List.map (Value.int IntKind.i64) (List.take l.length (List.drop 0 (intsOf (List.map (Value.int IntKind.i64) l))))∧0+l.length≤(List.map (Value.int IntKind.i64) l).length∧true=true)∧(List.take l.length (List.drop 0 (intsOf (List.map (Value.int IntKind.i64) l)))).length≤1000000)∧Ob ((List.take l.length (List.drop 0 (List.map (Value.int IntKind.i64) l))=List.map (Value.int IntKind.i64) (List.take l.length (List.drop 0 (intsOf (List.map (Value.int IntKind.i64) l))))∧0+l.length≤(List.map (Value.int IntKind.i64) l).length∧true=true)∧(List.take l.length (List.drop 0 (intsOf (List.map (Value.int IntKind.i64) l)))).length≤1000000)∧Ob ((List.take l.length (List.drop 0 (List.map (Value.int IntKind.i64) l))=List.map (Value.int IntKind.i64) (List.take l.length (List.drop 0 (intsOf (List.map (Value.int IntKind.i64) l))))∧0+l.length≤(List.map (Value.int IntKind.i64) l).length∧true=true)∧(List.take l.length (List.drop 0 (intsOf (List.map (Value.int IntKind.i64) l)))).length≤1000000)∧((cbdE (List.take l.length (List.drop 0 (intsOf (List.map (Value.int IntKind.i64) l)))) a==cbdE (List.take l.length (List.drop 0 (intsOf (List.map (Value.int IntKind.i64) l)))) a)=true→((badV (List.take l.length (List.drop 0 (intsOf (List.map (Value.int IntKind.i64) l))))==badV (List.take l.length (List.drop 0 (intsOf (List.map (Value.int IntKind.i64) l)))))=true→((badE (List.take l.length (List.drop 0 (intsOf (List.map (Value.int IntKind.i64) l))))==badE (List.take l.length (List.drop 0 (intsOf (List.map (Value.int IntKind.i64) l)))))=true→Ob True∧True∧Ob (isTrue (Value.bool true) [AObj.ro (List.map (Value.int IntKind.i64) l)]))∧((badE (List.take l.length (List.drop 0 (intsOf (List.map (Value.int IntKind.i64) l))))==badE (List.take l.length (List.drop 0 (intsOf (List.map (Value.int IntKind.i64) l)))))=false→True∧Ob (isTrue (Value.bool false) [AObj.ro (List.map (Value.int IntKind.i64) l)])))∧((badV (List.take l.length (List.drop 0 (intsOf (List.map (Value.int IntKind.i64) l))))==badV (List.take l.length (List.drop 0 (intsOf (List.map (Value.int IntKind.i64) l)))))=false→True∧Ob (isTrue (Value.bool false) [AObj.ro (List.map (Value.int IntKind.i64) l)])))∧((cbdE (List.take l.length (List.drop 0 (intsOf (List.map (Value.int IntKind.i64) l)))) a==cbdE (List.take l.length (List.drop 0 (intsOf (List.map (Value.int IntKind.i64) l)))) a)=false→True∧Ob (isTrue (Value.bool false) [AObj.ro (List.map (Value.int IntKind.i64) l)])))
theorem bbV_eq : bbV = fun (l : List Int) (c : Nat) (a : Int) => vc Try.prog bbE 1 42 true (fun _ => none) bbB [] (argFr 0 [.slice (some ⟨0,0,none⟩) l.length c,vi a]) [ros l] bbK := by kernel_rfl
noncomputable def bbN :=
fun (a:Int)↦(false=true→Ob True∧True∧Ob (isTrue (Value.bool true) []))∧(false=false→Ob True∧Ob True∧Ob True∧Ob True∧(true=true→(true=true→(true=true→Ob True∧True∧Ob (isTrue (Value.bool true) []))∧(true=false→True∧Ob (isTrue (Value.bool false) [])))∧(true=false→True∧Ob (isTrue (Value.bool false) [])))∧(true=false→True∧Ob (isTrue (Value.bool false) [])))
theorem bbN_eq : bbN = fun (a : Int) => vc Try.prog bbE 0 42 true (fun _ => none) bbB [] (argFr 0 [.slice none 0 0,vi a]) [] bbK := by kernel_rfl
noncomputable def bbH :=
fun (s:Option Nat) (c:Nat) (a:Int)↦(false=true→Ob True∧True∧Ob (isTrue (Value.bool true) [AObj.gone]))∧(false=false→Ob True∧Ob True∧Ob True∧Ob True∧(true=true→(true=true→(true=true→Ob True∧True∧Ob (isTrue (Value.bool true) [AObj.gone]))∧(true=false→True∧Ob (isTrue (Value.bool false) [AObj.gone])))∧(true=false→True∧Ob (isTrue (Value.bool false) [AObj.gone])))∧(true=false→True∧Ob (isTrue (Value.bool false) [AObj.gone])))
theorem bbH_eq : bbH = fun (s : Option Nat) (c : Nat) (a : Int) => vc Try.prog bbE 1 42 true (fun _ => none) bbB [] (argFr 0 [.slice (some ⟨0,0,s⟩) 0 c,vi a]) [.gone] bbK := by kernel_rfl
theorem bbV_ok (l : List Int) (c : Nat) (a : Int) : bbV l c a := by
 unfold bbV
 simp only [SS,reduceCtorEq,Arg.list,Arg.num,Arg.flag,intOf,andP,Nat.reduceLeDiff,Nat.reduceAdd,Nat.reduceMul,Nat.reduceLT,isTrue]
 intro h
 exact ⟨by omega,by omega,by omega,by omega⟩
theorem bbN_ok (a : Int) : bbN a := by
 unfold bbN
 simp only [SS,reduceCtorEq,Arg.list,Arg.num,Arg.flag,intOf,andP,Nat.reduceLeDiff,Nat.reduceAdd,Nat.reduceMul,Nat.reduceLT,isTrue]
theorem bbH_ok (s : Option Nat) (c : Nat) (a : Int) : bbH s c a := by
 unfold bbH
 simp only [SS,reduceCtorEq,Arg.list,Arg.num,Arg.flag,intOf,andP,Nat.reduceLeDiff,Nat.reduceAdd,Nat.reduceMul,Nat.reduceLT,isTrue]
theorem bbT_ok : CtOk Try.prog bbT := ((((CtOk.none.add worksG_ok).add baG_ok).add rxG_ok).add cbG_ok).add rkG2_ok
theorem bbE_ok : VOk Try.prog bbE := ⟨bbT_ok,ccIn_ok E0_ok mixed (inl_one Try.func18),E0_ok.yc,E0_ok.orc⟩
theorem fitb_int {k : IntKind} {a : Arg} (h : (PK.int k).fits a) : ∃ n,a = .plain (.int k n) := by
 obtain ⟨n,h,_⟩ := h
 exact ⟨n,h⟩
theorem fitb_ints {k : IntKind} {a : Arg} (h : (PK.ints k).fits a) : a = .plain (.slice none 0 0)∨(∃ s,a = .hole s)∨∃ l,a = .ints k l∧0 < l.length := by
 rcases h with h | h | ⟨l,h,h0,_⟩
 · exact .inl h
 · exact .inr (.inl h)
 · exact .inr (.inr ⟨l,h,h0⟩)
theorem fitb_two {p q : PK} {r : List Arg} (h : fitsAll [p,q] r) : ∃ a b,r = [a,b]∧p.fits a∧q.fits b := match r,h with
 | [a,b],⟨h1,h2,_⟩ => ⟨a,b,rfl,h1,h2⟩
theorem bads_small (r : List Arg) (hr : fitsAll [.ints .i64,.int .i64] r) (caps : Nat→Nat) : Call Try.prog 6 (canonA caps 0 r) (canonH r) isTrue := by
   obtain ⟨x,y,rfl,hx,hy⟩ := fitb_two hr
   obtain ⟨a,rfl⟩ := fitb_int hy
   rcases fitb_ints hx with rfl | ⟨s,rfl⟩ | ⟨l,rfl,_⟩
   · show Call Try.prog 6 [.slice none 0 0,vi a] [] isTrue
     have h := bbN_ok a
     rw [bbN_eq] at h
     exact Call.ofVc bbE_ok mixed (c := bbB) (inv := fun _ => none) Try.func6 (by kernel_rfl) h
   · show Call Try.prog 6 [.slice (some ⟨0,0,s⟩) 0 (caps 0),vi a] [.gone] isTrue
     have h := bbH_ok s (caps 0) a
     rw [bbH_eq] at h
     exact Call.ofVc bbE_ok mixed (c := bbB) (inv := fun _ => none) Try.func6 (by kernel_rfl) h
   · show Call Try.prog 6 [.slice (some ⟨0,0,none⟩) l.length (caps 0),vi a] [ros l] isTrue
     have h := bbV_ok l (caps 0) a
     rw [bbV_eq] at h
     exact Call.ofVc bbE_ok mixed (c := bbB) (inv := fun _ => none) Try.func6 (by kernel_rfl) h
theorem bads_law {K : Type} : ∀ (H : Heap) (avs : List Value) (ds : List (DataW K)),Still H→ReadsAll Try.prog H Try.f6.params.toList avs ds→Call Try.prog 6 avs H fun v _ => v = .bool true :=
 law_of (ps := [.ints .i64,.int .i64]) (by kernel_rfl) bads_small
end Go.Pier.Fl
