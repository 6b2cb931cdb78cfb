import Derived.Test.YtbmdkgoclijgkaaPierKS5
import Derived.KernelRfl
import Derived.Test.YtbmdkgoclijgkaaPierKS2
import Derived.Test.YtbmdkgoclijgkaaPierKS4
set_option linter.unusedSimpArgs false
set_option linter.unusedVariables false
set_option maxRecDepth 100000
namespace Go.Pier.Rd
open Go Go.Pier Go.Proofs
noncomputable def shLs (g : Nat) (s : Int) (N : (Nat→Int)→Int) (b : Int) (n f : Nat) (l : List Int) : LS := fdRs g s N b n l true empI (rds n n f f [])
noncomputable def g1Cts (g : Nat) (s : Int) (N : (Nat→Int)→Int) (b : Int) (n c f : Nat) (l : List Int) (S : LS) : Ct := fun fn args H => match Nat.beq fn 134 with
 | true => some (some (args = [ptr0 1,nilS,vi f,vi f,yv 15]∧H = EHLs g s N b n c f l true 16 empI),.bool true,EHLs g s N b n c f l S.no 16 S.st ++ [.gone],[8,9])
 | false => none
noncomputable def ls1Es (g : Nat) (s : Int) (N : (Nat→Int)→Int) (b : Int) (n c f : Nat) (l : List Int) (S : LS) : VEnv := { ct := g1Cts g s N b n c f l S,orc := prO }
noncomputable def ls2Es (g : Nat) (s : Int) (N : (Nat→Int)→Int) (b : Int) (n c f : Nat) (l : List Int) (S : LS) : VEnv := { orc := prO,cc := ccIn Try.prog (ls1Es g s N b n c f l S) [⟨133,Try.f133,fun _ _ _ => none⟩,⟨124,Try.f124,fun _ _ _ => none⟩] }
noncomputable def ls3Es (g : Nat) (s : Int) (N : (Nat→Int)→Int) (b : Int) (n c f : Nat) (l : List Int) (S : LS) : VEnv := { orc := prO,cc := ccIn Try.prog (ls2Es g s N b n c f l S) [⟨123,Try.f123,fun _ _ _ => none⟩] }
noncomputable def ls4Es (g : Nat) (s : Int) (N : (Nat→Int)→Int) (b : Int) (n c f : Nat) (l : List Int) (S : LS) : VEnv := { orc := prO,cc := ccIn Try.prog (ls3Es g s N b n c f l S) [⟨122,Try.f122,fun _ _ _ => none⟩] }
def B6s (g : Nat) (s : Int) (N : (Nat→Int)→Int) (b : Int) (n c f : Nat) (l : List Int) : Heap := [ros l,.rw (walkC b n c f (tmd n)) none,.rw [ptr0 1] none,.rw [tripsF] none,.rw [.func (.func 61) #[ptr0 1] #[]] none,xB s]
def LRs (g : Nat) (s : Int) (N : (Nat→Int)→Int) (b : Int) (n c f : Nat) (l : List Int) (sx : LS) (v : Value) (H' : Heap) : Prop := ∃ k,v = .agg (slotV sx.no k n :: I10 sx.st []).toArray∧H' = B6s g s N b n c f l ++ H'.drop 6∧k < H'.length
noncomputable def lsVs0 (g:Nat):Array Value := ⟨[Value.func (Fn.func (122:FuncId)) ⟨[]⟩ ⟨[ptr0 3,ptr0 4]⟩,Value.func (Fn.func g) ⟨[]⟩ ⟨[ptr0 5]⟩,junk,ptr0 6,ptr0 7,ptr0 8,ptr0 9,junk,Value.func (Fn.func (122:FuncId)) ⟨[]⟩ ⟨[ptr0 3,ptr0 4]⟩,junk,junk,junk,junk,junk,junk,junk,junk,junk,junk,junk,junk,junk]⟩
noncomputable def lsVs1  := (Value.slice none (0 : Nat) (0 : Nat) :: I10 empI [])
noncomputable def lsVs2  : Array Value := { toList := [Value.func (Fn.yield (10 : Nat)) { toList := [] } { toList := [] },ptr0 3,ptr0 4,ptr0 11,junk,Value.func (Fn.func (123 : FuncId)) { toList := [] } { toList := [ptr0 2] },junk,junk,junk,junk,junk,junk,junk,junk,junk,junk] }
noncomputable def lsVs3  : List Value := [Value.func (Fn.func (123 : FuncId)) { toList := [] } { toList := [ptr0 2] }]
noncomputable def lsVs4  : List Value := [Value.func (Fn.func (61 : FuncId)) { toList := [ptr0 1] } { toList := [] }]
noncomputable def lsVs5 (f:Nat):List Value := [ptr0 1,Value.slice none 0 0,vi (f:Int),vi (f:Int),Value.func (Fn.yield 15) ⟨[]⟩ ⟨[]⟩]
noncomputable def lsVs6  : List Value := [Value.func (Fn.yield (10 : Nat)) { toList := [] } { toList := [] }]
noncomputable def lsVs7  : List Value := [Value.func (Fn.yield (12 : Nat)) { toList := [] } { toList := [] }]
noncomputable def lsVs8 (g:Nat):List Value := [Value.func (Fn.func g) ⟨[]⟩ ⟨[ptr0 5]⟩]
noncomputable def lsVs9 (b:Int) (n:Nat) (c:Nat) (f:Nat) := (vi b::Value.slice (some (ad0 0)) n c::vi (f:Int)::B10 (tmd n) [])
noncomputable def lsVs :=
fun (g:Nat) (s:Int) (N:(Nat→Int)→Int) (b:Int) (n c f:Nat) (l:List Int)↦Ob (some (Value.bool false)=some (Value.bool false)∧some 1=some 1)∧Ob (some (vi (f:Int))=some (vi (f:Int)))∧Ob (some (vi (f:Int))=some (vi (f:Int)))∧Ob ((lsVs5 f)=(lsVs5 f)∧[AObj.ro (List.map (Value.int IntKind.i64) l),AObj.rw (lsVs9 b n c f) none,AObj.rw [ptr0 1] none,AObj.rw lsVs3 none,AObj.rw lsVs4 none,AObj.rw [vi s] none,AObj.rw (lsVs8 g) none,AObj.rw lsVs1 none,AObj.rw lsVs1 none,AObj.rw [Value.bool true] none,AObj.loop LoopState.ready none (lsVs0 g) ⟨[9]⟩ y1_c0 y1_c1,AObj.rw lsVs6 none,AObj.loop LoopState.ready none lsVs2 ⟨[6]⟩ y1_c2 y1_c3,AObj.rw lsVs7 none,AObj.rw [ptr0 1] none,AObj.loop LoopState.ready none ⟨[Value.func (Fn.yield 12) ⟨[]⟩ ⟨[]⟩,ptr0 2,ptr0 13,junk,ptr0 1,Value.func (Fn.func 133) ⟨[]⟩ ⟨[ptr0 14]⟩,junk,junk,junk,junk,junk,junk,junk]⟩ ⟨[6]⟩ y1_c4 y1_c5]=[AObj.ro (List.map (Value.int IntKind.i64) l),AObj.rw (lsVs9 b n c f) none,AObj.rw [ptr0 1] none,AObj.rw lsVs3 none,AObj.rw lsVs4 none,AObj.rw [vi s] none,AObj.rw (lsVs8 g) none,AObj.rw lsVs1 none,AObj.rw lsVs1 none,AObj.rw [Value.bool true] none,AObj.loop LoopState.ready none (lsVs0 g) ⟨[9]⟩ y1_c0 y1_c1,AObj.rw lsVs6 none,AObj.loop LoopState.ready none lsVs2 ⟨[6]⟩ y1_c2 y1_c3,AObj.rw lsVs7 none,AObj.rw [ptr0 1] none,AObj.loop LoopState.ready none ⟨[Value.func (Fn.yield 12) ⟨[]⟩ ⟨[]⟩,ptr0 2,ptr0 13,junk,ptr0 1,Value.func (Fn.func (133:FuncId)) ⟨[]⟩ ⟨[ptr0 14]⟩,junk,junk,junk,junk,junk,junk,junk]⟩ ⟨[6]⟩ y1_c4 y1_c5])∧Ob (0+11≤11)∧True∧Ob (LRs g s N b n c f l { no := true,st := empI } (Value.agg { toList := lsVs1 }) [AObj.ro (List.map (Value.int IntKind.i64) l),AObj.rw (lsVs9 b n c f) none,AObj.rw [ptr0 1] none,AObj.rw lsVs3 none,AObj.rw lsVs4 none,AObj.rw [vi s] none,AObj.rw (lsVs8 g) none,AObj.rw lsVs1 none,AObj.rw lsVs1 none,AObj.rw [Value.bool true] none,AObj.gone,AObj.rw lsVs6 none,AObj.gone,AObj.rw lsVs7 none,AObj.rw [ptr0 1] none,AObj.gone,AObj.gone])
theorem lsVs_eq : lsVs = fun (g : Nat) (s : Int) (N : (Nat→Int)→Int) (b : Int) (n c f : Nat) (l : List Int) => vc Try.prog (ls4Es g s N b n c f l ⟨true,empI⟩) 6 22 true (fun _ => none) lsB [] (argFr 0 [allF,(spF g)]) (B6s g s N b n c f l) (retK Try.prog Try.f102 (LRs g s N b n c f l ⟨true,empI⟩)) := by kernel_rfl
noncomputable def lsWs0 (g:Nat):Array Value := ⟨[Value.func (Fn.func (122:FuncId)) ⟨[]⟩ ⟨[ptr0 3,ptr0 4]⟩,Value.func (Fn.func g) ⟨[]⟩ ⟨[ptr0 5]⟩,junk,ptr0 6,ptr0 7,ptr0 8,ptr0 9,junk,Value.func (Fn.func (122:FuncId)) ⟨[]⟩ ⟨[ptr0 3,ptr0 4]⟩,junk,junk,junk,junk,junk,junk,junk,junk,junk,junk,junk,junk,junk]⟩
noncomputable def lsWs1  : Array Value := { toList := [Value.func (Fn.yield (10 : Nat)) { toList := [] } { toList := [] },ptr0 3,ptr0 4,ptr0 11,junk,Value.func (Fn.func (123 : FuncId)) { toList := [] } { toList := [ptr0 2] },junk,junk,junk,junk,junk,junk,junk,junk,junk,junk] }
noncomputable def lsWs2 (n:Nat) (st:Nat→Int) := (Value.slice (some ⟨16,0,some 0⟩) n 0::I10 st [])
noncomputable def lsWs3  : List Value := [Value.func (Fn.func (123 : FuncId)) { toList := [] } { toList := [ptr0 2] }]
noncomputable def lsWs4  : List Value := [Value.func (Fn.func (61 : FuncId)) { toList := [ptr0 1] } { toList := [] }]
noncomputable def lsWs5  := (Value.slice none (0 : Nat) (0 : Nat) :: I10 empI [])
noncomputable def lsWs6 (f:Nat):List Value := [ptr0 1,Value.slice none 0 0,vi (f:Int),vi (f:Int),Value.func (Fn.yield 15) ⟨[]⟩ ⟨[]⟩]
noncomputable def lsWs7  : List Value := [Value.func (Fn.yield (10 : Nat)) { toList := [] } { toList := [] }]
noncomputable def lsWs8  : List Value := [Value.func (Fn.yield (12 : Nat)) { toList := [] } { toList := [] }]
noncomputable def lsWs9 (g:Nat):List Value := [Value.func (Fn.func g) ⟨[]⟩ ⟨[ptr0 5]⟩]
noncomputable def lsWs10 (b:Int) (n:Nat) (c:Nat) (f:Nat) := (vi b::Value.slice (some (ad0 0)) n c::vi (f:Int)::B10 (tmd n) [])
noncomputable def lsWs :=
fun (g:Nat) (s:Int) (N:(Nat→Int)→Int) (b:Int) (n c f:Nat) (l:List Int) (st:Nat→Int)↦Ob (some (Value.bool false)=some (Value.bool false)∧some 1=some 1)∧Ob (some (vi (f:Int))=some (vi (f:Int)))∧Ob (some (vi (f:Int))=some (vi (f:Int)))∧Ob ((lsWs6 f)=(lsWs6 f)∧[AObj.ro (List.map (Value.int IntKind.i64) l),AObj.rw (lsWs10 b n c f) none,AObj.rw [ptr0 1] none,AObj.rw lsWs3 none,AObj.rw lsWs4 none,AObj.rw [vi s] none,AObj.rw (lsWs9 g) none,AObj.rw lsWs5 none,AObj.rw lsWs5 none,AObj.rw [Value.bool true] none,AObj.loop LoopState.ready none (lsWs0 g) ⟨[9]⟩ y1_c0 y1_c1,AObj.rw lsWs7 none,AObj.loop LoopState.ready none lsWs1 ⟨[6]⟩ y1_c2 y1_c3,AObj.rw lsWs8 none,AObj.rw [ptr0 1] none,AObj.loop LoopState.ready none ⟨[Value.func (Fn.yield 12) ⟨[]⟩ ⟨[]⟩,ptr0 2,ptr0 13,junk,ptr0 1,Value.func (Fn.func 133) ⟨[]⟩ ⟨[ptr0 14]⟩,junk,junk,junk,junk,junk,junk,junk]⟩ ⟨[6]⟩ y1_c4 y1_c5]=[AObj.ro (List.map (Value.int IntKind.i64) l),AObj.rw (lsWs10 b n c f) none,AObj.rw [ptr0 1] none,AObj.rw lsWs3 none,AObj.rw lsWs4 none,AObj.rw [vi s] none,AObj.rw (lsWs9 g) none,AObj.rw lsWs5 none,AObj.rw lsWs5 none,AObj.rw [Value.bool true] none,AObj.loop LoopState.ready none (lsWs0 g) ⟨[9]⟩ y1_c0 y1_c1,AObj.rw lsWs7 none,AObj.loop LoopState.ready none lsWs1 ⟨[6]⟩ y1_c2 y1_c3,AObj.rw lsWs8 none,AObj.rw [ptr0 1] none,AObj.loop LoopState.ready none ⟨[Value.func (Fn.yield 12) ⟨[]⟩ ⟨[]⟩,ptr0 2,ptr0 13,junk,ptr0 1,Value.func (Fn.func (133:FuncId)) ⟨[]⟩ ⟨[ptr0 14]⟩,junk,junk,junk,junk,junk,junk,junk]⟩ ⟨[6]⟩ y1_c4 y1_c5])∧Ob (0+11≤11)∧True∧Ob (LRs g s N b n c f l { no := false,st := st } (Value.agg { toList := (lsWs2 n st) }) [AObj.ro (List.map (Value.int IntKind.i64) l),AObj.rw (lsWs10 b n c f) none,AObj.rw [ptr0 1] none,AObj.rw lsWs3 none,AObj.rw lsWs4 none,AObj.rw [vi s] none,AObj.rw (lsWs9 g) none,AObj.rw (lsWs2 n st) none,AObj.rw (lsWs2 n st) none,AObj.rw [Value.bool false] none,AObj.gone,AObj.rw lsWs7 none,AObj.gone,AObj.rw lsWs8 none,AObj.rw [ptr0 1] none,AObj.gone,AObj.gone])
theorem lsWs_eq : lsWs = fun (g : Nat) (s : Int) (N : (Nat→Int)→Int) (b : Int) (n c f : Nat) (l : List Int) (st : Nat→Int) => vc Try.prog (ls4Es g s N b n c f l ⟨false,st⟩) 6 22 true (fun _ => none) lsB [] (argFr 0 [allF,(spF g)]) (B6s g s N b n c f l) (retK Try.prog Try.f102 (LRs g s N b n c f l ⟨false,st⟩)) := by kernel_rfl
theorem lsV_oks (g : Nat) (s : Int) (N : (Nat→Int)→Int) (hY : SpanOk g s N) (b : Int) (n c f : Nat) (l : List Int) : lsVs g s N b n c f l := by
 unfold lsVs lsVs9 lsVs8 lsVs7 lsVs6 lsVs5 lsVs4 lsVs3 lsVs2 lsVs1 lsVs0
 simp only [SS,reduceCtorEq,Arg.list,Arg.num,Arg.flag,intOf,andP,Nat.reduceLeDiff,Nat.reduceAdd,Nat.reduceMul,Nat.reduceLT,yv]
 exact ⟨16,by kernel_rfl,by kernel_rfl,by simp⟩
theorem lsW_oks (g : Nat) (s : Int) (N : (Nat→Int)→Int) (hY : SpanOk g s N) (b : Int) (n c f : Nat) (l : List Int) (st : Nat→Int) : lsWs g s N b n c f l st := by
 unfold lsWs lsWs10 lsWs9 lsWs8 lsWs7 lsWs6 lsWs5 lsWs4 lsWs3 lsWs2 lsWs1 lsWs0
 simp only [SS,reduceCtorEq,Arg.list,Arg.num,Arg.flag,intOf,andP,Nat.reduceLeDiff,Nat.reduceAdd,Nat.reduceMul,Nat.reduceLT,yv]
 exact ⟨16,by kernel_rfl,by kernel_rfl,by simp⟩
theorem g1Ct_oks (g : Nat) (s : Int) (N : (Nat→Int)→Int) (hY : SpanOk g s N) (b : Int) (n c f : Nat) (l : List Int) (S : LS) (hl : l.length = n * 2) (hn : n≤10) (hr : rngP b n l) (hn1 : 1≤n) (hf : f≤n) (hS : S = shLs g s N b n f l) : CtOk Try.prog (g1Cts g s N b n c f l S) := by
 intro fn args H φ v H' lg h hφ
 unfold g1Cts at h
 split at h <;> cases h
 rename_i hb
 obtain rfl := Nat.eq_of_beq_eq_true hb
 obtain ⟨rfl,rfl⟩ := hφ
 subst hS
 refine ⟨grow0_oks g s N hY b n c f l hl hn hr true empI n f hn1 hf (by omega) (fun _ => rfl),by rw [List.length_append,EHL_lens g s N hY,EHL_lens g s N hY]; omega,fun b1 h4 h5 => ?_⟩
 rw [EHL_lens g s N hY] at h4
 rw [List.getElem?_append_left (by rw [EHL_lens g s N hY]; exact h4)]
 have h8 : b1 ≠ 8 := fun e => h5 (by subst e; simp)
 have h9 : b1 ≠ 9 := fun e => h5 (by subst e; simp)
 unfold EHLs EH
 rcases b1 with _ | _ | _ | _ | _ | _ | _ | _ | _ | _ | _ | _ | _ | _ | _ | _ | b1 <;> first | rfl | omega
theorem ls4E_oks (g : Nat) (s : Int) (N : (Nat→Int)→Int) (hY : SpanOk g s N) (b : Int) (n c f : Nat) (l : List Int) (S : LS) (hl : l.length = n * 2) (hn : n≤10) (hr : rngP b n l) (hn1 : 1≤n) (hf : f≤n) (hS : S = shLs g s N b n f l) : VOk Try.prog (ls4Es g s N b n c f l S) := by
 have h1 : VOk Try.prog (ls1Es g s N b n c f l S) := ⟨g1Ct_oks g s N hY b n c f l S hl hn hr hn1 hf hS,E0_ok.cc,E0_ok.yc,prE1_ok.orc⟩
 have h2 : VOk Try.prog (ls2Es g s N b n c f l S) := ⟨CtOk.none,ccIn_ok h1 mixed (inl_two Try.func133 Try.func124),E0_ok.yc,prE1_ok.orc⟩
 have h3 : VOk Try.prog (ls3Es g s N b n c f l S) := ⟨CtOk.none,ccIn_ok h2 mixed (inl_one Try.func123),E0_ok.yc,prE1_ok.orc⟩
 exact ⟨CtOk.none,ccIn_ok h3 mixed (inl_one Try.func122),E0_ok.yc,prE1_ok.orc⟩
theorem B6_maps (g : Nat) (s : Int) (N : (Nat→Int)→Int) (hY : SpanOk g s N) {σ : Nat→Nat} {b : Int} {n c f : Nat} {l : List Int} (h0 : σ 0 = 0) (h1 : σ 1 = 1) (h2 : σ 2 = 2) : (B6s g s N b n c f l).map (omap σ) = B6s g s N b n c f l := by
 unfold B6s
 simp only [List.map_cons,List.map_nil,ros_omap,walk_omap h0]
 have e2 : omap σ (AObj.rw [ptr0 1] none) = .rw [ptr0 1] none := by
   show AObj.rw [.pointer (some ⟨σ 1,0,none⟩)] none = _
   rw [h1]
 have e3 : omap σ (AObj.rw [tripsF] none) = .rw [tripsF] none := by simp [omap,tripsF,nmap1,nmapFn,nmap0,am,h2]
 have e4 : omap σ (AObj.rw [Value.func (.func 61) #[ptr0 1] #[]] none) = .rw [Value.func (.func 61) #[ptr0 1] #[]] none := by simp [omap,nmap1,nmapFn,nmapA,nmap0,am,h1]
 rw [e2,e3,e4]; rfl
theorem B6_scs (g : Nat) (s : Int) (N : (Nat→Int)→Int) (hY : SpanOk g s N) {b : Int} {n c f : Nat} {l : List Int} : ∀ o ∈ B6s g s N b n c f l,o.sc 6 = true := by
 refine List.all_eq_true.1 ?_
 unfold B6s
 simp only [List.all_cons,List.all_nil,ros_sc,Bool.and_true,Bool.true_and]
 kernel_rfl
theorem LR_anews (g : Nat) (s : Int) (N : (Nat→Int)→Int) (hY : SpanOk g s N) {b : Int} {n c f : Nat} {l : List Int} {sx : LS} {v : Value} {H' : Heap} (h : LRs g s N b n c f l sx v H') :
   ∃ σ v2 H2,Anew 6 σ H' H2∧v = nmap σ v2∧sc H2.length v2 = true∧(v2 = .agg (slotV sx.no 6 n :: I10 sx.st []).toArray∧H2 = B6s g s N b n c f l ++ [.gone]) := by
 obtain ⟨k,rfl,he,hk⟩ := h
 have hl : (B6s g s N b n c f l ++ [AObj.gone]).length = 7 := rfl
 have hb6 : (B6s g s N b n c f l).length = 6 := rfl
 have g6 : (B6s g s N b n c f l ++ [AObj.gone])[6]? = some .gone := rfl
 have hm := B6_maps g s N hY (σ := σ6 k) (b := b) (n := n) (c := c) (f := f) (l := l) rfl rfl rfl
 refine ⟨σ6 k,_,_,⟨?_,fun b' hb => ?_,fun b' o hb => ?_,fun b1 b2 o h1 h2 h3 h4 h5 h6 => ?_,fun b' o hb => ?_⟩,?_,agg_slot_sc (show 6 < 7 by omega),rfl,rfl⟩
 · rw [hl]; omega
 · unfold σ6; rw [if_neg (by omega)]
 · rcases Nat.lt_or_ge b' 6 with h1 | h1
   · right
     rw [List.getElem?_append_left (by rw [hb6]; exact h1)] at hb
     rw [he,show σ6 k b' = b' by unfold σ6; rw [if_neg (by omega)],List.getElem?_append_left (by rw [hb6]; exact h1),← hm,List.getElem?_map,hb]
     rfl
   · left
     have h2 := (List.getElem?_eq_some_iff.1 hb).1
     rw [hl] at h2
     obtain rfl : b' = 6 := by omega
     rw [g6] at hb
     exact (Option.some.inj hb).symm
 · rw [hl] at h1 h2
   have n1 : b1 ≠ 6 := fun e => by subst e; rw [g6] at h3; cases h3; exact h4 rfl
   have n2 : b2 ≠ 6 := fun e => by
     subst e
     rcases h5 with h5 | h5
     · exact h5 g6
     · omega
   unfold σ6 at h6
   rw [if_neg n1,if_neg n2] at h6
   exact h6
 · rw [hl]
   rcases List.mem_append.1 (List.mem_of_getElem? hb) with h1 | h1
   · exact AObj.sc_mono (by omega) (B6_scs g s N hY o h1)
   · rw [List.mem_singleton.1 h1]; rfl
 · rw [agg_slot]; rfl
theorem shL_emps (g : Nat) (s : Int) (N : (Nat→Int)→Int) (hY : SpanOk g s N) {b : Int} {n f : Nat} {l : List Int} : (shLs g s N b n f l).no = true→(shLs g s N b n f l).st = empI := fdR_emps g s N hY fun _ => rfl
theorem least_oks (g : Nat) (s : Int) (N : (Nat→Int)→Int) (hY : SpanOk g s N) (b : Int) (n c f : Nat) (l : List Int) (hl : l.length = n * 2) (hn : n≤10) (hr : rngP b n l) (hn1 : 1≤n) (hf : f≤n) :
   Call Try.prog 102 [allF,(spF g)] (B6s g s N b n c f l) fun v H' => v = .agg (slotV (shLs g s N b n f l).no 6 n :: I10 (shLs g s N b n f l).st []).toArray∧H' = B6s g s N b n c f l ++ [.gone] := by
 have e := shL_emps g s N hY (b := b) (n := n) (f := f) (l := l)
 generalize hS : shLs g s N b n f l = S at *
 have hE := ls4E_oks g s N hY b n c f l S hl hn hr hn1 hf hS.symm
 refine Call.anew (Call.mono (Q := LRs g s N b n c f l S) ?_ fun v H' hy => LR_anews g s N hY hy)
 obtain ⟨no,st⟩ := S
 cases no with
 | true =>
   obtain rfl : st = empI := e rfl
   have h := lsV_oks g s N hY b n c f l
   rw [lsVs_eq] at h
   exact Call.ofVc (H := B6s g s N b n c f l) (args := [allF,(spF g)]) hE mixed (c := lsB) (inv := fun _ => none) (R := LRs g s N b n c f l ⟨true,empI⟩) Try.func102 (by kernel_rfl) (cast (by kernel_rfl) h)
 | false =>
   have h := lsW_oks g s N hY b n c f l st
   rw [lsWs_eq] at h
   exact Call.ofVc (H := B6s g s N b n c f l) (args := [allF,(spF g)]) hE mixed (c := lsB) (inv := fun _ => none) (R := LRs g s N b n c f l ⟨false,st⟩) Try.func102 (by kernel_rfl) (cast (by kernel_rfl) h)
end Go.Pier.Rd
namespace Go.Pier.Rd
open Go Go.Pier Go.Proofs
noncomputable def leastsCc (b:Int) (n c f:Nat) (l:List Int) (s:Int) (S T:LS):Cc := fun fn args H => match Nat.beq fn 102 with
 | true => match args with
   | [.func (.func 122) ⟨[]⟩ ⟨[.pointer (some ⟨a,0,none⟩),.pointer (some ⟨i,0,none⟩)]⟩,.func (.func g) ⟨[]⟩ ⟨[.pointer (some ⟨q,0,none⟩)]⟩] => match H[a]? with
     | some (.rw [.func (.func 123) ⟨[]⟩ ⟨[.pointer (some ⟨x,0,none⟩)]⟩] none) => match H[x]? with
       | some (.rw [.pointer (some ⟨w,0,none⟩)] none) => match nodupB [0,w,x,a,i,q] with
         | true => match Nat.beq g 107 with
           | true => some fun Q => Ob (H[0]?=some (ros l)∧H[w]?=some (.rw (walkC b n c f (tmd n)) none)∧H[i]?=some (.rw [.func (.func 61) #[ptr0 w] #[]] none)∧H[q]?=some (xB s)) ∧
             (S.no=true→Q (.agg (nilS::I10 empI []).toArray) (H++[.gone]))∧(S.no=false→Q (.agg (newS H.length n::I10 S.st []).toArray) (H++[.gone]))
           | false => match Nat.beq g 108 with
             | true => some fun Q => Ob (H[0]?=some (ros l)∧H[w]?=some (.rw (walkC b n c f (tmd n)) none)∧H[i]?=some (.rw [.func (.func 61) #[ptr0 w] #[]] none)∧H[q]?=some (xB s)) ∧
               (T.no=true→Q (.agg (nilS::I10 empI []).toArray) (H++[.gone]))∧(T.no=false→Q (.agg (newS H.length n::I10 T.st []).toArray) (H++[.gone]))
             | false => none
         | false => none
       | _ => none
     | _ => none
   | _ => none
 | false => none
noncomputable def wnT : Ct := (shT.add 66 (pureG [.int .i64,.int .i64,.ints .i64] wiS))
noncomputable def wnE1 (b : Int) (n c : Nat) (l : List Int) (s : Int) (S T : LS) : VEnv := { ct := wnT,orc := prO,cc := ccOr (leastsCc b n c (lg b l n) l s S T) (ccIn Try.prog shE0 [⟨72,Try.f72,fun _ _ _ => none⟩]) }
noncomputable def wnE2 (b : Int) (n c : Nat) (l : List Int) (s : Int) (S T : LS) : VEnv := { ct := wnT,orc := prO,cc := ccIn Try.prog (wnE1 b n c l s S T) [⟨73,Try.f73,fun _ _ _ => none⟩,⟨57,Try.f57,inv57 b n c l⟩] }
noncomputable def wnB : Code := Try.f31.body.getD .skip
def wnV (s : Int) (S T : LS) : Value := .tuple #[.agg #[vi (bif S.no then 0 else S.st s.toNat),vi (bif S.no then 0 else T.st s.toNat)],vi (bif S.no then 12 else 0)]
noncomputable def wnV0_s0 (s:Int) (S:LS) (T:LS):Array Value := ⟨[Value.agg ⟨[vi (bif S.no then (0:Int) else S.st s.toNat),vi (bif S.no then (0:Int) else T.st s.toNat)]⟩,vi (bif S.no then (12:Int) else (0:Int))]⟩
noncomputable def wnV0_s1  (x:Nat) := (0+3+(x:Int).toNat * 1)
noncomputable def wnV0_s2 (b:Int) (n:Nat) (c:Nat) (l:List Int) (x:Nat):List Value := [vi b,Value.slice (some (ad0 0)) n c,vi (↑(lg b l x):Int),Value.bool (bif Nat.beq 3 (wnV0_s1 x) then true else tmd x 0),Value.bool (bif Nat.beq 4 (wnV0_s1 x) then true else tmd x 1),Value.bool (bif Nat.beq 5 (wnV0_s1 x) then true else tmd x 2),Value.bool (bif Nat.beq 6 (wnV0_s1 x) then true else tmd x 3),Value.bool (bif Nat.beq 7 (wnV0_s1 x) then true else tmd x 4),Value.bool (bif Nat.beq 8 (wnV0_s1 x) then true else tmd x 5),Value.bool (bif Nat.beq 9 (wnV0_s1 x) then true else tmd x 6),Value.bool (bif Nat.beq 10 (wnV0_s1 x) then true else tmd x 7),Value.bool (bif Nat.beq 11 (wnV0_s1 x) then true else tmd x 8),Value.bool (bif Nat.beq 12 (wnV0_s1 x) then true else tmd x 9)]
noncomputable def wnV0_s3 (l:List Int) := (List.map (Value.int IntKind.i64) l)
noncomputable def wnV0_s4 (s:Int) := (0+1+s.toNat * 1)
noncomputable def wnV0_s5 (b:Int) (n:Nat) (c:Nat):Prop := (AObj.rw [vi b,Value.slice (some (ad0 0)) n c] none=AObj.rw [vi b,Value.slice (some (ad0 0)) n c] none∧true=true)
noncomputable def wnV0_s6 (S:LS) := (l10 (S.st 0) (S.st 1) (S.st 2) (S.st 3) (S.st 4) (S.st 5) (S.st 6) (S.st 7) (S.st 8) (S.st 9))
noncomputable def wnV0_s7  : Array Value := { toList := [Value.pointer (some { block := (3 : Nat) + (1 : Nat),off := (0 : Nat),spot := none })] }
noncomputable def wnV0_s8 (s:Int) (S:LS) (T:LS):Prop := (Value.tuple ⟨[Value.agg ⟨[vi (0:Int),vi (0:Int)]⟩,vi (12:Int)]⟩=Value.tuple (wnV0_s0 s S T))
noncomputable def wnV0_s9  := (Value.slice none (0 : Nat) (0 : Nat) :: I10 empI [])
noncomputable def wnV0_s10 (n:Nat) (T:LS) := (Value.slice (some ⟨16,0,some 0⟩) n 0::I10 T.st [])
noncomputable def wnV0_s11 (n:Nat) (S:LS) := (Value.slice (some ⟨11,0,some 0⟩) n 0::I10 S.st [])
noncomputable def wnV0_s12  : Prop := (AObj.rw [vi (0 : Int),vi (0 : Int)] none = AObj.rw [vi (0 : Int),vi (0 : Int)] none∧true = true)
noncomputable def wnV0_s13  : Prop := (Value.pointer (some { block := (3 : Nat) + (1 : Nat),off := (0 : Nat),spot := none }) = Value.pointer (some { block := (3 : Nat) + (1 : Nat),off := (0 : Nat),spot := none }))
noncomputable def wnV0_s14 (b:Int) (n:Nat) (c:Nat) (l:List Int) (x:Nat) := (vi b::Value.slice (some (ad0 0)) n c::vi (↑(lg b l x):Int)::B10 (tmd x) [])
noncomputable def wnV0_s15  := (AObj.rw [Value.func (Fn.func (61 : FuncId)) wnV0_s7 { toList := [] }] none)
noncomputable def wnV0_s16  (x:Nat) := (0+(x:Int).toNat * 2)
noncomputable def wnV0_s17  := (AObj.rw [Value.func (Fn.func (61 : Nat)) wnV0_s7 { toList := [] }] none)
noncomputable def wnV0_s18 (b:Int) (n:Nat) (c:Nat) (l:List Int) := (AObj.rw (vi b::Value.slice (some (ad0 0)) n c::vi (↑(lg b l n):Int)::B10 (tmd n) []) none)
noncomputable def wnV0_s19 (b:Int) (n:Nat) (c:Nat) (l:List Int) (y:Nat) := (vi b::Value.slice (some (ad0 0)) n c::vi (↑(lg b l y):Int)::B10 (tmd y) [])
noncomputable def wnV0_s20 (n:Nat) (c:Nat):Prop := (Value.slice (some (ad0 0)) n c=Value.slice (some (ad0 0)) n c)
noncomputable def wnV0_s21 (n:Nat) (s:Int) := (!wiF (Arg.plain (vi (0:Int))).num (Arg.plain (vi (IntKind.i64.wrap ((n:Int)-(1:Int))))).num [intOf (vi s)])
noncomputable def wnV0_s22 (s:Int) := (IntAt IntKind.i64 wnV0_s9 (wnV0_s4 s))
noncomputable def wnV0_s23 (l:List Int) := (AObj.ro (wnV0_s3 l))
noncomputable def wnV0_s24  : Array Value := { toList := [vi (0 : Int),vi (0 : Int)] }
noncomputable def wnV0_s25 (b:Int) (n:Nat) (l:List Int):Bool := (errP b n (intsOf (wnV0_s3 l)) !=(0:Int))
noncomputable def wnV0 :=
fun (b:Int) (n c:Nat) (l:List Int) (s:Int) (S T:LS)↦Ob ((true=true∧Flat (wnV0_s3 l))∧okL (Leaf.view (wnV0_s3 l) n false))∧((wnV0_s25 b n l)=true→((wnV0_s25 b n l)=true→Ob (0+2≤2)∧True∧Ob (Value.tuple ⟨[Value.agg wnV0_s24,vi (errP b n (intsOf (wnV0_s3 l)))]⟩=Value.tuple (wnV0_s0 s S T)))∧((wnV0_s25 b n l)=false→False))∧((wnV0_s25 b n l)=false→(∃ (y:Nat),Ob (y≤n)∧(Ob (AObj.ro (wnV0_s3 l)=AObj.ro (List.map (nmap1 fun (bq:Nat)↦bq) (wnV0_s3 l))∧AObj.sc 5 (wnV0_s23 l)=true)∧Ob (wnV0_s5 b n c)∧Ob wnV0_s12∧Ob (wnV0_s5 b n c)∧Ob (AObj.rw (vi b::Value.slice (some (ad0 0)) n c::vi (0:Int)::B10 empB []) none=AObj.rw (wnV0_s19 b n c l y) none∧true=true)∧True)∧Ob (ptr0 4=ptr0 4)∧Ob (wnV0_s20 n c)∧Ob ((n:Int)=(n:Int))∧Ob ((0:Int)=(y:Int))∧True)∧∀ (x:Nat),Ob (x≤n)→(decide ((x:Int)<(n:Int))=true→Ob ((0:Int)≤(x:Int)∧(x:Int)<(n:Int)∧true=true)∧Ob (ckAsk [CK.i IntKind.i64,CK.i IntKind.i64] (wnV0_s3 l) (wnV0_s16 x))∧Ob (0+2≤2)∧Ob ((0:Int)≤(x:Int)∧(x:Int)<(↑(10:Nat):Int))∧Ob (BoolAt (wnV0_s14 b n c l x) (wnV0_s1 x)∧some 1=some 1)∧Ob (some (vi (getI (wnV0_s3 l) (wnV0_s16 x)))=some (vi (getI (wnV0_s3 l) (wnV0_s16 x))))∧Ob (some (vi b)=some (vi b))∧(decide (getI (wnV0_s3 l) (wnV0_s16 x)<b)=true→Ob (IntAt IntKind.i64 (wnV0_s2 b n c l x) (0+2)∧some 1=some 1)∧∃ (y:Nat),Ob (y≤n)∧Ob (n-y<n-x)∧(Ob (AObj.ro (wnV0_s3 l)=AObj.ro (List.map (nmap1 fun (bqq:Nat)↦bqq) (wnV0_s3 l))∧AObj.sc 5 (wnV0_s23 l)=true)∧Ob (wnV0_s5 b n c)∧Ob wnV0_s12∧Ob (wnV0_s5 b n c)∧Ob (AObj.rw [vi (bif false then IntKind.i64.wrap ((x:Int)+(1:Int)) else b),Value.slice (some (ad0 0)) n c,vi (bif true then IntKind.i64.wrap ((x:Int)+(1:Int)) else (↑(lg b l x):Int)),Value.bool (bif Nat.beq 3 (wnV0_s1 x) then true else tmd x 0),Value.bool (bif Nat.beq 4 (wnV0_s1 x) then true else tmd x 1),Value.bool (bif Nat.beq 5 (wnV0_s1 x) then true else tmd x 2),Value.bool (bif Nat.beq 6 (wnV0_s1 x) then true else tmd x 3),Value.bool (bif Nat.beq 7 (wnV0_s1 x) then true else tmd x 4),Value.bool (bif Nat.beq 8 (wnV0_s1 x) then true else tmd x 5),Value.bool (bif Nat.beq 9 (wnV0_s1 x) then true else tmd x 6),Value.bool (bif Nat.beq 10 (wnV0_s1 x) then true else tmd x 7),Value.bool (bif Nat.beq 11 (wnV0_s1 x) then true else tmd x 8),Value.bool (bif Nat.beq 12 (wnV0_s1 x) then true else tmd x 9)] none=AObj.rw (wnV0_s19 b n c l y) none∧true=true)∧True)∧Ob wnV0_s13∧Ob (wnV0_s20 n c)∧Ob ((n:Int)=(n:Int))∧Ob (IntKind.i64.wrap ((x:Int)+(1:Int))=(y:Int))∧True)∧(decide (getI (wnV0_s3 l) (wnV0_s16 x)<b)=false→∃ (y:Nat),Ob (y≤n)∧Ob (n-y<n-x)∧(Ob (AObj.ro (wnV0_s3 l)=AObj.ro (List.map (nmap1 fun (bqqq:Nat)↦bqqq) (wnV0_s3 l))∧AObj.sc 5 (wnV0_s23 l)=true)∧Ob (wnV0_s5 b n c)∧Ob wnV0_s12∧Ob (wnV0_s5 b n c)∧Ob (AObj.rw (wnV0_s2 b n c l x) none=AObj.rw (wnV0_s19 b n c l y) none∧true=true)∧True)∧Ob wnV0_s13∧Ob (wnV0_s20 n c)∧Ob ((n:Int)=(n:Int))∧Ob (IntKind.i64.wrap ((x:Int)+(1:Int))=(y:Int))∧True))∧(decide ((x:Int)<(n:Int))=false→(false=true→Ob (0+2≤2)∧True∧Ob (Value.tuple ⟨[Value.agg wnV0_s24,vi (0:Int)]⟩=Value.tuple (wnV0_s0 s S T)))∧(false=false→Ob (([vi s]=[vi (intOf (vi s))]∧0+1≤1∧true=true)∧1≤1000000)∧((wnV0_s21 n s)=true→Ob (0+2≤2)∧True∧Ob (Value.tuple ⟨[Value.agg wnV0_s24,vi (2:Int)]⟩=Value.tuple (wnV0_s0 s S T)))∧((wnV0_s21 n s)=false→Ob (some (wnV0_s23 l)=some (wnV0_s23 l)∧some (AObj.rw (wnV0_s14 b n c l x) none)=some (wnV0_s18 b n c l)∧some wnV0_s17=some wnV0_s15∧some (AObj.rw [vi s] none)=some (AObj.rw [vi s] none))∧(S.no=true→Ob (0+11≤11)∧Ob (some (wnV0_s23 l)=some (wnV0_s23 l)∧some (AObj.rw (wnV0_s14 b n c l x) none)=some (wnV0_s18 b n c l)∧some wnV0_s17=some wnV0_s15∧some (AObj.rw [vi s] none)=some (AObj.rw [vi s] none))∧(T.no=true→Ob (0+11≤11)∧(true=true→Ob (0+2≤2)∧Ob (0+2≤2)∧True∧Ob (wnV0_s8 s S T))∧(true=false→Ob (some (vi s)=some (vi s))∧Ob ((0:Int)≤s∧s<(↑(10:Nat):Int))∧Ob (wnV0_s22 s)∧Ob (some (vi s)=some (vi s))∧Ob ((0:Int)≤s∧s<(↑(10:Nat):Int))∧Ob (wnV0_s22 s)∧Ob (0+2≤2)∧Ob (0+2≤2)∧True∧Ob (Value.tuple ⟨[Value.agg ⟨[vi (getI wnV0_s9 (wnV0_s4 s)),vi (getI wnV0_s9 (wnV0_s4 s))]⟩,vi (0:Int)]⟩=Value.tuple (wnV0_s0 s S T))))∧(T.no=false→Ob (0+11≤11)∧(true=true→Ob (0+2≤2)∧Ob (0+2≤2)∧True∧Ob (wnV0_s8 s S T))∧(true=false→Ob (some (vi s)=some (vi s))∧Ob ((0:Int)≤s∧s<(↑(10:Nat):Int))∧Ob (wnV0_s22 s)∧Ob (some (vi s)=some (vi s))∧Ob ((0:Int)≤s∧s<(↑(10:Nat):Int))∧Ob (IntAt IntKind.i64 (wnV0_s10 n T) (wnV0_s4 s))∧Ob (0+2≤2)∧Ob (0+2≤2)∧True∧Ob (Value.tuple ⟨[Value.agg ⟨[vi (getI wnV0_s9 (wnV0_s4 s)),vi (getI (wnV0_s10 n T) (wnV0_s4 s))]⟩,vi (0:Int)]⟩=Value.tuple (wnV0_s0 s S T)))))∧(S.no=false→Ob (0+11≤11)∧Ob (some (wnV0_s23 l)=some (wnV0_s23 l)∧some (AObj.rw (wnV0_s14 b n c l x) none)=some (wnV0_s18 b n c l)∧some wnV0_s17=some wnV0_s15∧some (AObj.rw [vi s] none)=some (AObj.rw [vi s] none))∧(T.no=true→Ob (0+11≤11)∧(eq10 (wnV0_s6 S) empI=true→Ob (0+2≤2)∧Ob (0+2≤2)∧True∧Ob (wnV0_s8 s S T))∧(eq10 (wnV0_s6 S) empI=false→Ob (some (vi s)=some (vi s))∧Ob ((0:Int)≤s∧s<(↑(10:Nat):Int))∧Ob (IntAt IntKind.i64 (wnV0_s11 n S) (wnV0_s4 s))∧Ob (some (vi s)=some (vi s))∧Ob ((0:Int)≤s∧s<(↑(10:Nat):Int))∧Ob (wnV0_s22 s)∧Ob (0+2≤2)∧Ob (0+2≤2)∧True∧Ob (Value.tuple ⟨[Value.agg ⟨[vi (getI (wnV0_s11 n S) (wnV0_s4 s)),vi (getI wnV0_s9 (wnV0_s4 s))]⟩,vi (0:Int)]⟩=Value.tuple (wnV0_s0 s S T))))∧(T.no=false→Ob (0+11≤11)∧(eq10 (wnV0_s6 S) empI=true→Ob (0+2≤2)∧Ob (0+2≤2)∧True∧Ob (wnV0_s8 s S T))∧(eq10 (wnV0_s6 S) empI=false→Ob (some (vi s)=some (vi s))∧Ob ((0:Int)≤s∧s<(↑(10:Nat):Int))∧Ob (IntAt IntKind.i64 (wnV0_s11 n S) (wnV0_s4 s))∧Ob (some (vi s)=some (vi s))∧Ob ((0:Int)≤s∧s<(↑(10:Nat):Int))∧Ob (IntAt IntKind.i64 (wnV0_s10 n T) (wnV0_s4 s))∧Ob (0+2≤2)∧Ob (0+2≤2)∧True∧Ob (Value.tuple ⟨[Value.agg ⟨[vi (getI (wnV0_s11 n S) (wnV0_s4 s)),vi (getI (wnV0_s10 n T) (wnV0_s4 s))]⟩,vi (0:Int)]⟩=Value.tuple (wnV0_s0 s S T)))))))))
theorem wnV0_eq : wnV0 = fun (b : Int) (n c : Nat) (l : List Int) (s : Int) (S T : LS) => vc Try.prog (wnE2 b n c l s S T) 1 34 true (fun _ => none) wnB [] (argFr 0 [pierV b (some ⟨0,0,none⟩) n c,vi s]) [ros l] (retK Try.prog Try.f31 (fun v _ => v = wnV s S T)) := by kernel_rfl
theorem wnV0_ok (b : Int) (n c : Nat) (l : List Int) (s : Int) (S T : LS) (hl : l.length = n * 2) (hP : errP b n l = 0) (hs : 0≤s∧s < n) (hne : S.no = false→eq10 S.st empI = false) (hST : S.no = T.no) : wnV0 b n c l s S T := by
 have hn : n≤1000000 := by have := (errP_cases hP).1; omega
 have fo : Flat (List.map (Value.int .i64) l)∧okL (.view (List.map (Value.int .i64) l) n false) := ⟨flat_ints,okL_ints hl hn⟩
 unfold wnV0 wnV0_s25 wnV0_s24 wnV0_s23 wnV0_s22 wnV0_s21 wnV0_s20 wnV0_s19 wnV0_s18 wnV0_s17 wnV0_s16 wnV0_s15 wnV0_s14 wnV0_s13 wnV0_s12 wnV0_s11 wnV0_s10 wnV0_s9 wnV0_s8 wnV0_s7 wnV0_s6 wnV0_s5 wnV0_s4 wnV0_s3 wnV0_s2 wnV0_s1 wnV0_s0
 simp only [SS,reduceCtorEq,Arg.list,Arg.num,Arg.flag,intOf,andP,Nat.reduceLeDiff,Nat.reduceAdd,Nat.reduceMul,Nat.reduceLT,errT,ckAsk,CK.ask,pl_fold,tw_fold,nb1_1,nb1_2,nb1_3,nb1_4,nb1_5,nb1_6,nb1_7,nb1_8,nb1_9,nb1_10,nb3_3,nb3_4,nb3_5,nb3_6,nb3_7,nb3_8,nb3_9,nb3_10,nb3_11,nb3_12,cond_true,cond_false,tmd_step,getI_2b,intAt_2b,wiF_one]
 refine ⟨fo,fun h1 => absurd hP h1,fun h1 => ?_⟩
 obtain ⟨⟨n1,n2⟩,hr,ho⟩ := errP_cases hP
 refine ⟨⟨0,by omega,⟨rfl,tmd_zero⟩,rfl⟩,fun x hx => ⟨fun h2 => ?_,fun h2 => ?_⟩⟩
 · have hx10 : x < 10 := by omega
   refine ⟨by omega,by omega,by omega,B10_at hx10,fun h3 => ⟨rfl,x + 1,by omega,by omega,⟨?_,rfl⟩,wrap_succ (n := n) (by omega) hn⟩,fun h3 => ⟨x + 1,by omega,by omega,⟨?_,rfl⟩,wrap_succ (n := n) (by omega) hn⟩⟩
   · rw [lg,if_pos h3]; exact wrap_succ (n := n) (by omega) hn
   · rw [lg,if_neg h3]
 have ex : x = n := by omega
 subst ex
 have w1 : IntKind.i64.wrap ((x : Int) - 1) = (x : Int) - 1 := wrap_in (by omega) (by omega)
 rw [w1]
 refine ⟨fun h => absurd hs (by omega),fun _ => ⟨⟨rfl,rfl⟩,fun h => ⟨⟨rfl,rfl⟩,fun h3 => ?_,fun h3 => ?_⟩,fun h => ⟨⟨rfl,rfl⟩,fun h3 => ?_,fun h3 => ?_⟩⟩⟩
 · rw [h]; rfl
 · rw [h,h3] at hST; cases hST
 · rw [h,h3] at hST; cases hST
 · rw [eq10_l10 (y := empI) (fun _ => rfl),hne h]
   refine ⟨fun h4 => (by cases h4),fun _ => ?_⟩
   refine ⟨by omega,(I10_getI1 (by omega)).2,by omega,(I10_getI1 (by omega)).2,?_⟩
   rw [(I10_getI1 (by omega)).1,(I10_getI1 (by omega)).1,h]; rfl
def spq (g q : Nat) : Value := .func (.func g) #[] #[ptr0 q]
theorem B6_ats (g : Nat) (s : Int) (N : (Nat→Int)→Int) {σ : Nat→Nat} {b : Int} {n c f : Nat} {l : List Int} (h0 : σ 0 = 0) : (B6s g s N b n c f l).map (omap σ) = [ros l,.rw (walkC b n c f (tmd n)) none,.rw [ptr0 (σ 1)] none,.rw [.func (.func 123) #[] #[ptr0 (σ 2)]] none,.rw [.func (.func 61) #[ptr0 (σ 1)] #[]] none,xB s] := by
 unfold B6s
 simp only [List.map_cons,List.map_nil,ros_omap,walk_omap h0]
 have e2 : omap σ (AObj.rw [ptr0 1] none) = .rw [ptr0 (σ 1)] none := rfl
 have e3 : omap σ (AObj.rw [tripsF] none) = .rw [.func (.func 123) #[] #[ptr0 (σ 2)]] none := by simp [omap,tripsF,nmap1,nmapFn,nmap0,am]
 have e4 : omap σ (AObj.rw [Value.func (.func 61) #[ptr0 1] #[]] none) = .rw [Value.func (.func 61) #[ptr0 (σ 1)] #[]] none := by simp [omap,nmap1,nmapFn,nmapA,nmap0,am]
 rw [e2,e3,e4]; rfl
theorem B6_nms (g : Nat) (s : Int) (N : (Nat→Int)→Int) {b : Int} {n c f : Nat} {l : List Int} : ∀ o ∈ B6s g s N b n c f l,o.nm tt' = true := by
 refine List.all_eq_true.1 ?_
 unfold B6s
 simp only [List.all_cons,List.all_nil,ros_nm,Bool.and_true,Bool.true_and]
 kernel_rfl
theorem leasts_at {g : Nat} {s : Int} {N : (Nat→Int)→Int} (hY : SpanOk g s N) {b : Int} {n c f w x a i q : Nat} {l : List Int} {H : Heap} (hl : l.length = n * 2) (hn : n≤10) (hr : rngP b n l) (hn1 : 1≤n) (hf : f≤n) (hnd : nodupB [0,w,x,a,i,q] = true)
   (h0 : H[0]? = some (ros l)) (hw : H[w]? = some (.rw (walkC b n c f (tmd n)) none)) (hx : H[x]? = some (.rw [ptr0 w] none)) (ha : H[a]? = some (.rw [.func (.func 123) #[] #[ptr0 x]] none)) (hi : H[i]? = some (.rw [.func (.func 61) #[ptr0 w] #[]] none)) (hq : H[q]? = some (xB s)) :
   Call Try.prog 102 [.func (.func 122) #[] #[ptr0 a,ptr0 i],spq g q] H fun v H' => v = .agg (slotV (shLs g s N b n f l).no H.length n :: I10 (shLs g s N b n f l).st []).toArray∧H' = H ++ [.gone] := by
 have lt : ∀ {k : Nat} {o : AObj},H[k]? = some o→k < H.length := fun h => (List.getElem?_eq_some_iff.1 h).1
 have hlt : ∀ y ∈ [0,w,x,a,i,q],y < H.length := fun y hy => by
   simp only [List.mem_cons,List.not_mem_nil,or_false] at hy
   rcases hy with rfl | rfl | rfl | rfl | rfl | rfl
   · exact lt h0
   · exact lt hw
   · exact lt hx
   · exact lt ha
   · exact lt hi
   · exact lt hq
 have hm1 := B6_ats g s N (σ := fun c => [0,w,x,a,i,q].getD c 0) (b := b) (n := n) (c := c) (f := f) (l := l) rfl
 have hm2 := B6_ats g s N (σ := nameL [0,w,x,a,i,q] 6 H.length) (b := b) (n := n) (c := c) (f := f) (l := l) rfl
 have hmem : ∀ (c' : Nat) (o : AObj),([ros l,.rw (walkC b n c f (tmd n)) none,.rw [ptr0 w] none,.rw [.func (.func 123) #[] #[ptr0 x]] none,.rw [.func (.func 61) #[ptr0 w] #[]] none,xB s] : Heap)[c']? = some o→o = .gone∨H[[0,w,x,a,i,q].getD c' 0]? = some o := fun c' o hc => by
   rcases c' with _ | _ | _ | _ | _ | _ | c'
   · cases hc; exact .inr h0
   · cases hc; exact .inr hw
   · cases hc; exact .inr hx
   · cases hc; exact .inr ha
   · cases hc; exact .inr hi
   · cases hc; exact .inr hq
   · simp at hc
 have hso : ∀ o ∈ ([ros l,.rw (walkC b n c f (tmd n)) none,.rw [ptr0 w] none,.rw [.func (.func 123) #[] #[ptr0 x]] none,.rw [.func (.func 61) #[ptr0 w] #[]] none,xB s] : Heap),o.sc H.length = true := fun o ho => by
   have hw' := lt hw
   have hx' := lt hx
   have h0' := lt h0
   simp only [List.mem_cons,List.not_mem_nil,or_false] at ho
   rcases ho with rfl | rfl | rfl | rfl | rfl | rfl
   · exact ros_sc
   · show ((vi b :: sl0 n c :: vi f :: B10 (tmd n) []).all _) = true; simp [sl0,B10,sc1,sc0]; omega
   · simp [AObj.sc,sc1,sc0]; omega
   · simp [AObj.sc,sc1,sc0,scA]; omega
   · simp [AObj.sc,sc1,sc0,scA]; omega
   · rfl
 have := (Call.frameG (H := H) (Et := B6s g s N b n c f l) (Ft := B6s g s N b n c f l) (N := [.gone]) (L := [0,w,x,a,i,q]) (vs := [.func (.func 122) #[] #[ptr0 a,ptr0 i],spq g q]) rfl rfl (nodupB_ok hnd) hlt
   (fun c' o hc => by
     have h2 : ((B6s g s N b n c f l).map (omap fun c => [0,w,x,a,i,q].getD c 0))[c']? = some (omap (fun c => [0,w,x,a,i,q].getD c 0) o) := by rw [List.getElem?_map,hc]; rfl
     rw [hm1] at h2
     rcases hmem c' _ h2 with h3 | h3
     · left
       cases o <;> first | rfl | (cases h3; done)
     · exact .inr h3)
   (fun o ho => B6_scs g s N hY o ho) (by simp [allF,spF,spq,nmap,nmap2,nmap1,nmapFn,nmap0,am]) (by kernel_rfl) (least_oks g s N hY b n c f l hl hn hr hn1 hf)
   (fun o ho => by
     show o.nm (fun d => decide (d < 6) || decide (6≤d)) = true
     rw [any_nm rfl]
     rcases List.mem_append.1 ho with h2 | h2
     · exact B6_nms g s N o h2
     · rw [List.mem_singleton.1 h2]; rfl)
   (fun o ho => by rw [List.mem_singleton.1 ho]; rfl)
   (by
     show nm (fun d => decide (d < 6) || decide (6≤d)) _ = true
     rw [any_nm rfl]
     cases (shLs g s N b n f l).no with
     | true =>
       show (nilS :: I10 _ []).toArray.all (nm1 tt') = true
       rw [← Array.all_toList]; rfl
     | false => exact agg_nm rfl rfl)
   (fun o ho => by
     rcases List.mem_append.1 ho with h2 | h2
     · have h3 := List.mem_map_of_mem (f := omap (nameL [0,w,x,a,i,q] 6 H.length)) h2
       rw [hm2] at h3
       exact AObj.sc_mono (Nat.le_add_right _ _) (hso _ h3)
     · rw [List.mem_singleton.1 h2]; rfl)
   (by
     rw [agg_slot]
     exact agg_slot_sc (show H.length + (6 - 6) < H.length + 1 by omega))).1
 refine this.mono fun v H' hh => ⟨by rw [hh.1,agg_slot]; rfl,?_⟩
 rw [hh.2]
 congr 1
 refine setG_same _ _ _ _ fun c' b' e o k1 k2 k3 k4 => ?_
 have h2 : (List.map (omap (nameL [0,w,x,a,i,q] 6 H.length)) (B6s g s N b n c f l))[c']? = some o := k4
 rw [hm2] at h2
 rcases hmem c' o h2 with h3 | h3
 · subst h3
   rw [List.getElem?_map,k1,Option.map_some,Option.some.injEq] at k4
   cases e <;> first | (cases k2; done) | (cases k4; done)
 · rwa [natD_of_get k3] at h3
theorem leastsCc_ok {b : Int} {n c f : Nat} {l : List Int} {s : Int} (hs : 0≤s∧s < 10) (hl : l.length = n * 2) (hn : n≤10) (hr : rngP b n l) (hn1 : 1≤n) (hf : f≤n) : CcOk Try.prog (leastsCc b n c f l s (shLs 107 s (NS s) b n f l) (shLs 108 s (NT s) b n f l)) := by
 intro fn args H T hT Q hQ
 unfold leastsCc at hT
 split at hT <;> try (cases hT; done)
 rename_i hfn
 obtain rfl := Nat.eq_of_beq_eq_true hfn
 split at hT <;> try (cases hT; done)
 rename_i a i g q
 split at hT <;> try (cases hT; done)
 rename_i x ha
 split at hT <;> try (cases hT; done)
 rename_i w hx
 split at hT <;> try (cases hT; done)
 rename_i hnd
 have key : ∀ (g : Nat) (N : (Nat → Int) → Int), SpanOk g s N → H[0]? = some (ros l) ∧ H[w]? = some (.rw (walkC b n c f (tmd n)) none) ∧ H[i]? = some (.rw [.func (.func 61) #[ptr0 w] #[]] none) ∧ H[q]? = some (xB s) →
     ((shLs g s N b n f l).no = true→Q (.agg (nilS :: I10 empI []).toArray) (H ++ [.gone]))→((shLs g s N b n f l).no = false→Q (.agg (newS H.length n :: I10 (shLs g s N b n f l).st []).toArray) (H ++ [.gone]))→Call Try.prog 102 [.func (.func 122) #[] #[ptr0 a,ptr0 i],spq g q] H Q := fun g N hY h0 q1 q2 => by
   refine (leasts_at hY hl hn hr hn1 hf hnd h0.1 h0.2.1 hx ha h0.2.2.1 h0.2.2.2).mono fun v H' hh => ?_
   rw [hh.1,hh.2]
   have e := shL_emps g s N hY (b := b) (n := n) (f := f) (l := l)
   cases hno : (shLs g s N b n f l).no with
   | true => rw [e hno]; exact q1 hno
   | false => exact q2 hno
 split at hT
 · cases hT
   rename_i hg
   obtain rfl := Nat.eq_of_beq_eq_true hg
   obtain ⟨hO,q1,q2⟩ := hQ
   exact key 107 (NS s) (y1s_yield s hs) hO.out q1 q2
 · split at hT <;> cases hT
   rename_i hg
   obtain rfl := Nat.eq_of_beq_eq_true hg
   obtain ⟨hO,q1,q2⟩ := hQ
   exact key 108 (NT s) (y1t_yield s hs) hO.out q1 q2
theorem least_same {b : Int} {l : List Int} {g : (Nat→Int)→Bool} {N N' : (Nat→Int)→Int} {r : List (List Int)} {s t : LS} (h : LeastOf b l g N r s) (k : LeastOf b l g N' r t) : s.no = t.no := by
 cases hs : s.no with
 | true => cases ht : t.no with
   | true => rfl
   | false =>
     obtain ⟨⟨m,h1,h2,_⟩,_⟩ := k.2 ht
     rw [(h.1 hs).2 m h1] at h2; cases h2
 | false => cases ht : t.no with
   | false => rfl
   | true =>
     obtain ⟨⟨m,h1,h2,_⟩,_⟩ := h.2 hs
     rw [(k.1 ht).2 m h1] at h2; cases h2
theorem shLs_least {g : Nat} {s : Int} {N : (Nat→Int)→Int} {b : Int} {n f : Nat} {l : List Int} : LeastOf b l (inTB n l) N (rds n n f f []) (shLs g s N b n f l) := foldR_from _
theorem shLs_ne {g : Nat} {s : Int} {N : (Nat→Int)→Int} {b : Int} {n f : Nat} {l : List Int} (hn : 1≤n) (hf : f≤n) (hn10 : n≤10) (ho : ordP b n l) (h : (shLs g s N b n f l).no = false) : eq10 (shLs g s N b n f l).st empI = false := by
 obtain ⟨⟨m,h1,h2,h3⟩,_⟩ := (shLs_least (g := g) (s := s) (N := N)).2 h
 obtain ⟨i,hi,hne⟩ := stp_first (rds_mem_whole hf m h1) hn ho
 exact eq10_false (i := i) (by omega) (by rw [h3]; exact hne)
theorem wnT_ok : CtOk Try.prog wnT := shT_ok.add wiG_ok
theorem wnE2_ok {b : Int} {n c : Nat} {l : List Int} {s : Int} (hs : 0≤s∧s < n) (hl : l.length = n * 2) (hP : errP b n l = 0) : VOk Try.prog (wnE2 b n c l s (shLs 107 s (NS s) b n (lg b l n) l) (shLs 108 s (NT s) b n (lg b l n) l)) := by
 obtain ⟨⟨n1,n2⟩,hr,ho⟩ := errP_cases hP
 have h0 : VOk Try.prog shE0 := ⟨prE1_ok.ct,ccIn_ok prE1_ok mixed (inl_two Try.func105 Try.func106),E0_ok.yc,prE1_ok.orc⟩
 have h1 : VOk Try.prog (wnE1 b n c l s (shLs 107 s (NS s) b n (lg b l n) l) (shLs 108 s (NT s) b n (lg b l n) l)) := ⟨wnT_ok,ccOr_ok (leastsCc_ok (by omega) hl n2 hr n1 (lg_spec n).1) (ccIn_ok h0 mixed (inl_one Try.func72)),E0_ok.yc,prE1_ok.orc⟩
 exact ⟨wnT_ok,ccIn_ok h1 mixed (inl_two Try.func73 Try.func57),E0_ok.yc,prE1_ok.orc⟩
noncomputable def wnF (b : Int) (n : Nat) (l : List Int) (s : Int) : Value := wnV s (shLs 107 s (NS s) b n (lefts b n l) l) (shLs 108 s (NT s) b n (lefts b n l) l)
theorem wn_call (b : Int) (n c : Nat) (l : List Int) (s : Int) (hs : 0≤s∧s < n) (hl : l.length = n * 2) (hP : errP b n l = 0) : Call Try.prog 31 [pierV b (some ⟨0,0,none⟩) n c,vi s] [ros l] fun v _ => v = wnF b n l s := by
 obtain ⟨⟨n1,n2⟩,hr,ho⟩ := errP_cases hP
 have h := wnV0_ok b n c l s (shLs 107 s (NS s) b n (lg b l n) l) (shLs 108 s (NT s) b n (lg b l n) l) hl hP hs (shLs_ne n1 (lg_spec n).1 n2 ho) (least_same shLs_least shLs_least)
 rw [wnV0_eq] at h
 unfold wnF
 rw [← lg_lefts ho]
 exact Call.ofVc (H := [ros l]) (args := [pierV b (some ⟨0,0,none⟩) n c,vi s]) (wnE2_ok (c := c) hs hl hP) mixed (c := wnB) (inv := fun _ => none) (R := fun v _ => v = wnV s (shLs 107 s (NS s) b n (lg b l n) l) (shLs 108 s (NT s) b n (lg b l n) l)) Try.func31 (by kernel_rfl) (cast (by kernel_rfl) h)
abbrev psPI : List K3 := [.agg [.int .i64,.rows [.i .i64,.i .i64] false],.one (.int .i64)]
noncomputable def specI (F : Int→Nat→List Int→Int→Value) : List Arg3→Option (Prop × Value)
 | [.agg [.plain (.int .i64 b),.view cs n r],.one (.plain (.int .i64 s))] => some (okL (.view cs n r)∧errP b n (intsOf cs) = 0∧0≤s∧s < n,F b n (intsOf cs) s)
 | _ => none
theorem wnG_ok : ∀ args H φ v H' l,pure3 psPI (specI wnF) args H = some (φ,v,H',l)→Asks φ→Call Try.prog 31 args H (fun v' H2 => v' = v∧H2 = H')∧Kept H H' l :=
 pure3_ok fun r ψ v hk hs hψ => by
   match r,hk with
   | [.agg [x,y],.one z],⟨⟨h1,h2,_⟩,h3,_⟩ =>
     obtain ⟨b,rfl⟩ := h1
     obtain ⟨s,rfl⟩ := h3
     rcases h2 with rfl | ⟨t,rfl⟩ | ⟨cs,n,rfl⟩
     · cases hs
     · cases hs
     · cases hs
       refine ⟨by simp [wnF,wnV,sc,sc2,sc1,sc0],fun caps _ => ?_⟩
       obtain ⟨⟨h1,h2,h3⟩,h5,h6⟩ := hψ
       have h4 := wn_call b n (caps 0) (intsOf cs) s h6 (by rw [← h2,intsOf,List.length_map]) h5
       have e : canonH3 [.agg [.plain (.int .i64 b),.view cs n false],.one (.plain (.int .i64 s))] = [ros (intsOf cs)] := by
         show [AObj.ro cs] = [.ro ((intsOf cs).map (.int .i64))]
         rw [← h1]
       rw [e]
       exact h4
end Go.Pier.Rd
namespace Go.Pier.Rd
open Go Go.Pier Go.Proofs
def ltN (l : List Int) (x : Nat→Int) : Nat→Int
 | 0 => IntKind.i64.wrap (x 0 - tw l 0)
 | k + 1 => if IntKind.i64.wrap (x k - tw l k) > ltN l x k then IntKind.i64.wrap (x k - tw l k) else ltN l x k
noncomputable def laB : Code := Try.f109.body.getD .skip
def laI (b : Int) (n c f : Nat) (l : List Int) (k : Nat) (x : Nat→Int) : Nat→Option LInv := invOf
 0 (LInv.one Nat (fun y => y≤n) (fun y => [(0,ptr0 1),(3,ptr0 3),(5,vi (ltN l x y)),(24,sl0 n c),(25,vi n),(26,vi y)]) (fun _ => itE b n c f l [.gone,.rw (newS 2 k :: I10 x []) none]) (fun y => n - y))
noncomputable def laV0 (b:Int) (n c f k:Nat) (l:List Int) (x:Nat→Int) := (Value.slice (some ⟨2,0,some 0⟩) k 0::I10 x [])
noncomputable def laV1 (b:Int) (n c f k:Nat) (l:List Int) (x:Nat→Int) (x_1:Nat):List Value := [vi (getI (List.map (Value.int IntKind.i64) l) (0+(x_1:Int).toNat * 2)),vi (getI (List.map (Value.int IntKind.i64) l) (0+(x_1:Int).toNat * 2+1))]
noncomputable def laV2 (b:Int) (n c f k:Nat) (l:List Int) (x:Nat→Int) := (vi b::Value.slice (some (ad0 0)) n c::vi (f:Int)::B10 (tmd n) [])
noncomputable def laV :=
fun (b:Int) (n c f k:Nat) (l:List Int) (x:Nat→Int)↦Ob ((0:Int)≤(0:Int)∧(0:Int)<(↑(10:Nat):Int))∧Ob (IntAt IntKind.i64 (laV0 b n c f k l x) (0+1+0))∧Ob ((0:Int)≤(0:Int)∧(0:Int)<(n:Int)∧true=true)∧Ob (IntAt IntKind.i64 (List.map (Value.int IntKind.i64) l) 1)∧(∃ (y:Nat),Ob (y≤n)∧(Ob (AObj.ro (List.map (Value.int IntKind.i64) l)=AObj.ro (List.map (nmap1 fun (bq:Nat)↦bq) (List.map (Value.int IntKind.i64) l))∧AObj.sc 4 (AObj.ro (List.map (Value.int IntKind.i64) l))=true)∧Ob (AObj.rw (laV2 b n c f k l x) none=AObj.rw (laV2 b n c f k l x) none∧true=true)∧Ob (AObj.rw (laV0 b n c f k l x) none=AObj.rw (laV0 b n c f k l x) none∧true=true)∧True)∧Ob (ptr0 1=ptr0 1)∧Ob (ptr0 3=ptr0 3)∧Ob (IntKind.i64.wrap (getI (laV0 b n c f k l x) (0+1+0)-getI (List.map (Value.int IntKind.i64) l) 1)=ltN l x y)∧Ob (Value.slice (some (ad0 0)) n c=Value.slice (some (ad0 0)) n c)∧Ob ((n:Int)=(n:Int))∧Ob ((0:Int)=(y:Int))∧True)∧∀ (x_1:Nat),Ob (x_1≤n)→(decide ((x_1:Int)<(n:Int))=true→Ob ((0:Int)≤(x_1:Int)∧(x_1:Int)<(n:Int)∧true=true)∧Ob (ckAsk [CK.i IntKind.i64,CK.i IntKind.i64] (List.map (Value.int IntKind.i64) l) (0+(x_1:Int).toNat * 2))∧Ob (0+2≤2)∧Ob ((0:Int)≤(x_1:Int)∧(x_1:Int)<(↑(10:Nat):Int))∧Ob (IntAt IntKind.i64 (laV0 b n c f k l x) (1+(x_1:Int).toNat * 1))∧Ob (IntAt IntKind.i64 (laV1 b n c f k l x x_1) (0+1))∧∃ (y:Nat),Ob (y≤n)∧Ob (n-y<n-x_1)∧(Ob (AObj.ro (List.map (Value.int IntKind.i64) l)=AObj.ro (List.map (nmap1 fun (bqq:Nat)↦bqq) (List.map (Value.int IntKind.i64) l))∧AObj.sc 4 (AObj.ro (List.map (Value.int IntKind.i64) l))=true)∧Ob (AObj.rw (laV2 b n c f k l x) none=AObj.rw (laV2 b n c f k l x) none∧true=true)∧Ob (AObj.rw (laV0 b n c f k l x) none=AObj.rw (laV0 b n c f k l x) none∧true=true)∧True)∧Ob (ptr0 1=ptr0 1)∧Ob (ptr0 3=ptr0 3)∧Ob ((if IntKind.i64.wrap (getI (laV0 b n c f k l x) (1+(x_1:Int).toNat * 1)-getI (laV1 b n c f k l x x_1) (0+1)) > ltN l x x_1 then IntKind.i64.wrap (getI (laV0 b n c f k l x) (1+(x_1:Int).toNat * 1)-getI (laV1 b n c f k l x x_1) (0+1)) else ltN l x x_1)=ltN l x y)∧Ob (Value.slice (some (ad0 0)) n c=Value.slice (some (ad0 0)) n c)∧Ob ((n:Int)=(n:Int))∧Ob (IntKind.i64.wrap ((x_1:Int)+(1:Int))=(y:Int))∧True)∧(decide ((x_1:Int)<(n:Int))=false→(Ob (AObj.ro (List.map (Value.int IntKind.i64) l)=AObj.ro (List.map (nmap1 fun (bqqq:Nat)↦bqqq) (List.map (Value.int IntKind.i64) l))∧AObj.sc 3 (AObj.ro (List.map (Value.int IntKind.i64) l))=true)∧Ob (AObj.rw (laV2 b n c f k l x) none=AObj.rw (laV2 b n c f k l x) none∧true=true)∧True)∧Ob (ltN l x x_1=ltN l x n)∧True)
theorem laV_eq : laV = fun (b : Int) (n c f k : Nat) (l : List Int) (x : Nat→Int) => vc Try.prog prE1 3 42 true (laI b n c f l k x) laB [] (argFr 0 [ptr0 1,.agg (newS 2 k :: I10 x []).toArray]) (itE b n c f l [.gone]) (retR Try.prog Try.f109 3 (fun b => b) (vi (ltN l x n)) (itE b n c f l [.gone])) := by kernel_rfl
theorem laV_ok (b : Int) (n c f k : Nat) (l : List Int) (x : Nat→Int) (hl : l.length = n * 2) (hn : n≤10) (hn1 : 1≤n) : laV b n c f k l x := by
 unfold laV laV2 laV1 laV0
 simp only [SS,reduceCtorEq,Arg.list,Arg.num,Arg.flag,intOf,andP,Nat.reduceLeDiff,Nat.reduceAdd,Nat.reduceMul,Nat.reduceLT,ckAsk,CK.ask,pl_fold,tw_fold,getI_2b,intAt_2b]
 have e0 : getI (Value.slice (some { block := 2,off := 0,spot := some 0 }) k 0 :: I10 x []) 1 = x 0 := rfl
 have g0 : l.getD 1 0 = tw l 0 := rfl
 rw [e0,g0]
 refine ⟨by omega,rfl,by omega,by omega,⟨0,by omega,rfl,rfl⟩,fun y hy => ⟨fun h1 => ?_,fun h1 => by rw [show y = n by omega]⟩⟩
 obtain ⟨e1,e2⟩ := I10_getI1 (sl := newS 2 k) (st := x) (x := y) (by omega)
 have e1' : getI (Value.slice (some { block := 2,off := 0,spot := some 0 }) k 0 :: I10 x []) (1 + y) = x y := e1
 rw [e1']
 exact ⟨by omega,by omega,by omega,e2,y + 1,by omega,by omega,rfl,wrap_succ (n := 10) (by omega) (by omega)⟩
theorem laV_call (b : Int) (n c f k : Nat) (l : List Int) (x : Nat→Int) (hl : l.length = n * 2) (hn : n≤10) (hn1 : 1≤n) : Call Try.prog 109 [ptr0 1,.agg (newS 2 k :: I10 x []).toArray] (itE b n c f l [.gone]) fun v H' => v = vi (ltN l x n)∧H' = itE b n c f l [.gone] := by
 have h := laV_ok b n c f k l x hl hn hn1
 rw [laV_eq] at h
 exact Call.ofVcR (H := itE b n c f l [.gone]) (args := [ptr0 1,.agg (newS 2 k :: I10 x []).toArray]) (σ := fun b => b) (v2 := vi (ltN l x n)) (H2 := itE b n c f l [.gone]) prE1_ok mixed (c := laB) (inv := laI b n c f l k x) Try.func109 (by kernel_rfl) (cast (by kernel_rfl) h)
noncomputable def laCt (b : Int) (n c f : Nat) (l : List Int) : List Value→Heap→Option (Option Prop × Value × Heap × List Nat) := fun args H => match args with
 | [.pointer (some ⟨1,0,none⟩),.agg ⟨[.slice (some ⟨k,0,some 0⟩) _ 0,.int .i64 a0,.int .i64 a1,.int .i64 a2,.int .i64 a3,.int .i64 a4,.int .i64 a5,.int .i64 a6,.int .i64 a7,.int .i64 a8,.int .i64 a9]⟩] => match Nat.ble 2 k with
   | true => some (some (AtW b n c f l H∧l.length = n * 2∧n≤10∧1≤n),vi (ltN l (l10 a0 a1 a2 a3 a4 a5 a6 a7 a8 a9) n),H,[])
   | false => none
 | _ => none
theorem la_ok (b : Int) (n c f : Nat) (l : List Int) : ∀ args H φ v H' lg,laCt b n c f l args H = some (φ,v,H',lg)→Asks φ→Call Try.prog 109 args H (fun v' H2 => v' = v∧H2 = H')∧Kept H H' lg := by
 intro args H φ v H' lg h hφ
 unfold laCt at h
 split at h <;> try (cases h; done)
 rename_i k y a0 a1 a2 a3 a4 a5 a6 a7 a8 a9
 split at h <;> cases h
 rename_i hk
 obtain ⟨h1,h2,h3,h4⟩ := hφ
 refine ⟨fun ρ w R hs => ?_,Kept.refl _ _⟩
 have hkH : k < H.length := ag_lt hs (List.mem_cons_of_mem _ List.mem_cons_self)
 exact walk_frame (o := .gone) h1 (Nat.le_of_ble_eq_true hk) hkH (.inl rfl) (fun _ => rfl) (fun _ => rfl) (args := [ptr0 1,.agg (newS 2 y :: I10 (l10 a0 a1 a2 a3 a4 a5 a6 a7 a8 a9) []).toArray]) (by rw [List.map_cons,List.map_cons,List.map_nil,agg_nmap rfl]; rfl) (by rw [List.all_cons,List.all_cons,agg_sc (by omega) rfl]; rfl) (laV_call b n c f y l _ h2 h3 h4) rfl rfl ρ w R hs
theorem ltN_l10 {l : List Int} {x : Nat→Int} : ∀ n,n≤10→ltN l (l10 (x 0) (x 1) (x 2) (x 3) (x 4) (x 5) (x 6) (x 7) (x 8) (x 9)) n = ltN l x n
 | 0,_ => rfl
 | n + 1,h => by rw [ltN,ltN,ltN_l10 n (by omega),show l10 (x 0) (x 1) (x 2) (x 3) (x 4) (x 5) (x 6) (x 7) (x 8) (x 9) n = x n by rcases n with _ | _ | _ | _ | _ | _ | _ | _ | _ | _ | n <;> first | rfl | omega]
end Go.Pier.Rd
namespace Go.Pier.Rd
open Go Go.Pier Go.Proofs
def laF : Value := .func (.func 109) #[ptr0 1] #[]
noncomputable def L0d (nv : Value) : AObj := lpO Try.f102 #[tripsF,nv,junk,ptr0 3,ptr0 4,ptr0 5,ptr0 6,junk,tripsF,junk,junk,junk,junk,junk,junk,junk,junk,junk,junk,junk,junk,junk]
noncomputable def L2d (s : LoopState) : AObj := lpO Try.f123 #[yv 7,ptr0 2,ptr0 8,junk,ptr0 1,.func (.func 133) #[] #[ptr0 9],junk,junk,junk,junk,junk,junk,junk] s
noncomputable def EHd (b : Int) (n c f : Nat) (l : List Int) (nv : Value) (X : AObj) (s : LoopState) (no : Bool) (k : Nat) (st : Nat→Int) : Heap :=
 [ros l,.rw (walkC b n c f (tmd n)) none,.rw [ptr0 1] none,.rw [nv] none,.rw (nilS :: I10 empI []) none,.rw (slotV no k n :: I10 st []) none,.rw [.bool no] none,L0d nv,.rw [yv 7] none,.rw [ptr0 1] none,L2d s]
noncomputable def EGd (b : Int) (n c f : Nat) (l m : List Int) (nv : Value) (X : AObj) (z : LoopState) (no : Bool) (k : Nat) (st : Nat→Int) : Heap := EHd b n c f l nv X z no k st ++ [.gone,rws m]
def YRd (b : Int) (n c f : Nat) (l m : List Int) (nv : Value) (X : AObj) (z : LoopState) (s : LS) (v : Value) (H' : Heap) : Prop :=
 v = .bool true∧∃ k,H' = EGd b n c f l m nv X z s.no k s.st ++ H'.drop 13∧k < H'.length
noncomputable def ldT (b : Int) (n c f : Nat) (l : List Int) : Ct := Ct.none.add 109 (laCt b n c f l)
noncomputable def y0Ed (b : Int) (n c f : Nat) (l : List Int) : VEnv := { ct := ldT b n c f l }
def ND (n : Nat) (l : List Int) (st : Nat→Int) : Int := ltN l st n
def inA (_ : Nat) (_ : List Int) : (Nat→Int)→Bool := fun _ => true
noncomputable def y1Ad0  : Array Value := { toList := [Value.func (Fn.func (123 : FuncId)) { toList := [] } { toList := [ptr0 2] },Value.func (Fn.func (109 : FuncId)) { toList := [ptr0 1] } { toList := [] },junk,ptr0 3,ptr0 4,ptr0 5,ptr0 6,junk,Value.func (Fn.func (123 : FuncId)) { toList := [] } { toList := [ptr0 2] },junk,junk,junk,junk,junk,junk,junk,junk,junk,junk,junk,junk,junk] }
noncomputable def y1Ad1  : Array Value := { toList := [Value.func (Fn.yield (7 : Nat)) { toList := [] } { toList := [] },ptr0 2,ptr0 8,junk,ptr0 1,Value.func (Fn.func (133 : FuncId)) { toList := [] } { toList := [ptr0 9] },junk,junk,junk,junk,junk,junk,junk] }
noncomputable def y1Ad2 (n:Nat) (x:Nat→Int) := (Value.slice (some ⟨12,0,some 0⟩) n 0::I10 x [])
noncomputable def y1Ad3  := (Value.slice none (0 : Nat) (0 : Nat) :: I10 empI [])
noncomputable def y1Ad4  : List Value := [Value.func (Fn.func (109 : FuncId)) { toList := [ptr0 1] } { toList := [] }]
noncomputable def y1Ad5  : List Value := [Value.func (Fn.yield (7 : Nat)) { toList := [] } { toList := [] }]
noncomputable def y1Ad :=
fun (b:Int) (n c f:Nat) (l m:List Int) (x:Nat→Int)↦Ob (0+11≤11)∧Ob (some (Value.bool true)=some (Value.bool true))∧(true=false→Ob (AtW b n c f l [AObj.ro (List.map (Value.int IntKind.i64) l),AObj.rw (vi b::Value.slice (some (ad0 0)) n c::vi (f:Int)::B10 (tmd n) []) none,AObj.rw [ptr0 1] none,AObj.rw y1Ad4 none,AObj.rw y1Ad3 none,AObj.rw y1Ad3 none,AObj.rw [Value.bool true] none,AObj.loop LoopState.busy none y1Ad0 ⟨[9]⟩ y1_c0 y1_c1,AObj.rw y1Ad5 none,AObj.rw [ptr0 1] none,AObj.loop LoopState.busy none y1Ad1 ⟨[6]⟩ y1_c4 y1_c5,AObj.gone,AObj.rw (List.map (Value.int IntKind.i64) m) (some 1),AObj.rw (y1Ad2 n x) none]∧l.length=n * 2∧n≤10∧1≤n)∧False)∧(true=true→Ob (11≤11)∧Ob (1≤1)∧Ob (YRd b n c f l m (Value.func (Fn.func (109:FuncId)) ⟨[ptr0 1]⟩ ⟨[]⟩) AObj.gone LoopState.busy (stepL (inA n l) (ND n l) { no := true,st := empI } x) (Value.bool true) [AObj.ro (List.map (Value.int IntKind.i64) l),AObj.rw (vi b::Value.slice (some (ad0 0)) n c::vi (f:Int)::B10 (tmd n) []) none,AObj.rw [ptr0 1] none,AObj.rw y1Ad4 none,AObj.rw y1Ad3 none,AObj.rw (y1Ad2 n x) none,AObj.rw [Value.bool false] none,AObj.loop LoopState.ready none y1Ad0 ⟨[9]⟩ y1_c0 y1_c1,AObj.rw y1Ad5 none,AObj.rw [ptr0 1] none,AObj.loop LoopState.busy none y1Ad1 ⟨[6]⟩ y1_c4 y1_c5,AObj.gone,AObj.rw (List.map (Value.int IntKind.i64) m) (some 1),AObj.rw (y1Ad2 n x) none]))
theorem y1Ad_eq : y1Ad = fun (b : Int) (n c f : Nat) (l m : List Int) (x : Nat→Int) => ycT (ycIn Try.prog (y0Ed b n c f l) (fun _ => none) 7 [.agg (newS 12 n :: I10 x []).toArray] (EGd b n c f l m laF .gone .busy true 11 empI)) (fun v H' => Ob (YRd b n c f l m laF .gone .busy (stepL (inA n l) (ND n l) ⟨true,empI⟩ x) v H')) := by kernel_rfl
noncomputable def y1Bd0 (b:Int) (n:Nat) (c:Nat) (f:Nat) (l:List Int) (m:List Int) (x:Nat→Int) (st:Nat→Int) := (YRd b n c f l m (Value.func (Fn.func (109:FuncId)) ⟨[ptr0 1]⟩ ⟨[]⟩) AObj.gone LoopState.busy (stepL (inA n l) (ND n l) { no := false,st := st } x) (Value.bool true) [AObj.ro (List.map (Value.int IntKind.i64) l),AObj.rw (vi b::Value.slice (some (ad0 0)) n c::vi (f:Int)::B10 (tmd n) []) none,AObj.rw [ptr0 1] none,AObj.rw [Value.func (Fn.func (109:FuncId)) ⟨[ptr0 1]⟩ ⟨[]⟩] none,AObj.rw (Value.slice none 0 0::I10 empI []) none,AObj.rw (Value.slice (some ⟨12,0,some 0⟩) n 0::I10 x []) none,AObj.rw [Value.bool false] none,AObj.loop LoopState.ready none ⟨[Value.func (Fn.func (123:FuncId)) ⟨[]⟩ ⟨[ptr0 2]⟩,Value.func (Fn.func (109:FuncId)) ⟨[ptr0 1]⟩ ⟨[]⟩,junk,ptr0 3,ptr0 4,ptr0 5,ptr0 6,junk,Value.func (Fn.func (123:FuncId)) ⟨[]⟩ ⟨[ptr0 2]⟩,junk,junk,junk,junk,junk,junk,junk,junk,junk,junk,junk,junk,junk]⟩ ⟨[9]⟩ y1_c0 y1_c1,AObj.rw [Value.func (Fn.yield 7) ⟨[]⟩ ⟨[]⟩] none,AObj.rw [ptr0 1] none,AObj.loop LoopState.busy none ⟨[Value.func (Fn.yield 7) ⟨[]⟩ ⟨[]⟩,ptr0 2,ptr0 8,junk,ptr0 1,Value.func (Fn.func (133:FuncId)) ⟨[]⟩ ⟨[ptr0 9]⟩,junk,junk,junk,junk,junk,junk,junk]⟩ ⟨[6]⟩ y1_c4 y1_c5,AObj.gone,AObj.rw (List.map (Value.int IntKind.i64) m) (some 1),AObj.rw (Value.slice (some ⟨12,0,some 0⟩) n 0::I10 x []) none])
noncomputable def y1Bd1 (b:Int) (n:Nat) (c:Nat) (f:Nat) (l:List Int) (m:List Int) (x:Nat→Int) (st:Nat→Int):Prop := (AtW b n c f l [AObj.ro (List.map (Value.int IntKind.i64) l),AObj.rw (vi b::Value.slice (some (ad0 0)) n c::vi (f:Int)::B10 (tmd n) []) none,AObj.rw [ptr0 1] none,AObj.rw [Value.func (Fn.func (109:FuncId)) ⟨[ptr0 1]⟩ ⟨[]⟩] none,AObj.rw (Value.slice none 0 0::I10 empI []) none,AObj.rw (Value.slice (some ⟨11,0,some 0⟩) n 0::I10 st []) none,AObj.rw [Value.bool false] none,AObj.loop LoopState.busy none ⟨[Value.func (Fn.func (123:FuncId)) ⟨[]⟩ ⟨[ptr0 2]⟩,Value.func (Fn.func (109:FuncId)) ⟨[ptr0 1]⟩ ⟨[]⟩,junk,ptr0 3,ptr0 4,ptr0 5,ptr0 6,junk,Value.func (Fn.func (123:FuncId)) ⟨[]⟩ ⟨[ptr0 2]⟩,junk,junk,junk,junk,junk,junk,junk,junk,junk,junk,junk,junk,junk]⟩ ⟨[9]⟩ y1_c0 y1_c1,AObj.rw [Value.func (Fn.yield 7) ⟨[]⟩ ⟨[]⟩] none,AObj.rw [ptr0 1] none,AObj.loop LoopState.busy none ⟨[Value.func (Fn.yield 7) ⟨[]⟩ ⟨[]⟩,ptr0 2,ptr0 8,junk,ptr0 1,Value.func (Fn.func (133:FuncId)) ⟨[]⟩ ⟨[ptr0 9]⟩,junk,junk,junk,junk,junk,junk,junk]⟩ ⟨[6]⟩ y1_c4 y1_c5,AObj.gone,AObj.rw (List.map (Value.int IntKind.i64) m) (some 1),AObj.rw (Value.slice (some ⟨12,0,some 0⟩) n 0::I10 x []) none]∧l.length=n * 2∧n≤10∧1≤n)
noncomputable def y1Bd2 (st:Nat→Int) := (l10 (st 0) (st 1) (st 2) (st 3) (st 4) (st 5) (st 6) (st 7) (st 8) (st 9))
noncomputable def y1Bd3 (x:Nat→Int) := (l10 (x 0) (x 1) (x 2) (x 3) (x 4) (x 5) (x 6) (x 7) (x 8) (x 9))
noncomputable def y1Bd :=
fun (b:Int) (n c f:Nat) (l m:List Int) (x st:Nat→Int)↦Ob (0+11≤11)∧Ob (some (Value.bool false)=some (Value.bool false))∧(false=false→Ob (y1Bd1 b n c f l m x st)∧Ob (y1Bd1 b n c f l m x st)∧(decide (ltN l (y1Bd3 x) n<ltN l (y1Bd2 st) n)=true→Ob (11≤11)∧Ob (1≤1)∧Ob (y1Bd0 b n c f l m x st))∧(decide (ltN l (y1Bd3 x) n<ltN l (y1Bd2 st) n)=false→Ob (YRd b n c f l m (Value.func (Fn.func (109:FuncId)) ⟨[ptr0 1]⟩ ⟨[]⟩) AObj.gone LoopState.busy (stepL (inA n l) (ND n l) { no := false,st := st } x) (Value.bool true) [AObj.ro (List.map (Value.int IntKind.i64) l),AObj.rw (vi b::Value.slice (some (ad0 0)) n c::vi (f:Int)::B10 (tmd n) []) none,AObj.rw [ptr0 1] none,AObj.rw [Value.func (Fn.func (109:FuncId)) ⟨[ptr0 1]⟩ ⟨[]⟩] none,AObj.rw (Value.slice none 0 0::I10 empI []) none,AObj.rw (Value.slice (some ⟨11,0,some 0⟩) n 0::I10 st []) none,AObj.rw [Value.bool false] none,AObj.loop LoopState.ready none ⟨[Value.func (Fn.func (123:FuncId)) ⟨[]⟩ ⟨[ptr0 2]⟩,Value.func (Fn.func (109:FuncId)) ⟨[ptr0 1]⟩ ⟨[]⟩,junk,ptr0 3,ptr0 4,ptr0 5,ptr0 6,junk,Value.func (Fn.func (123:FuncId)) ⟨[]⟩ ⟨[ptr0 2]⟩,junk,junk,junk,junk,junk,junk,junk,junk,junk,junk,junk,junk,junk]⟩ ⟨[9]⟩ y1_c0 y1_c1,AObj.rw [Value.func (Fn.yield 7) ⟨[]⟩ ⟨[]⟩] none,AObj.rw [ptr0 1] none,AObj.loop LoopState.busy none ⟨[Value.func (Fn.yield 7) ⟨[]⟩ ⟨[]⟩,ptr0 2,ptr0 8,junk,ptr0 1,Value.func (Fn.func (133:FuncId)) ⟨[]⟩ ⟨[ptr0 9]⟩,junk,junk,junk,junk,junk,junk,junk]⟩ ⟨[6]⟩ y1_c4 y1_c5,AObj.gone,AObj.rw (List.map (Value.int IntKind.i64) m) (some 1),AObj.rw (Value.slice (some ⟨12,0,some 0⟩) n 0::I10 x []) none])))∧(false=true→Ob (11≤11)∧Ob (1≤1)∧Ob (y1Bd0 b n c f l m x st))
theorem y1Bd_eq : y1Bd = fun (b : Int) (n c f : Nat) (l m : List Int) (x st : Nat→Int) => ycT (ycIn Try.prog (y0Ed b n c f l) (fun _ => none) 7 [.agg (newS 12 n :: I10 x []).toArray] (EGd b n c f l m laF .gone .busy false 11 st)) (fun v H' => Ob (YRd b n c f l m laF .gone .busy (stepL (inA n l) (ND n l) ⟨false,st⟩ x) v H')) := by kernel_rfl
theorem y1Ad_ok (b : Int) (n c f : Nat) (l m : List Int) (x : Nat→Int) (hl : l.length = n * 2) (hn : n≤10) (hn1 : 1≤n) : y1Ad b n c f l m x := by
 unfold y1Ad y1Ad5 y1Ad4 y1Ad3 y1Ad2 y1Ad1 y1Ad0
 simp only [SS,reduceCtorEq,Arg.list,Arg.num,Arg.flag,intOf,andP,Nat.reduceLeDiff,Nat.reduceAdd,Nat.reduceMul,Nat.reduceLT]
 rw [stepL_new rfl (.inl rfl)]
 exact ⟨rfl,12,by kernel_rfl,by simp⟩
theorem y1Bd_ok (b : Int) (n c f : Nat) (l m : List Int) (x st : Nat→Int) (hl : l.length = n * 2) (hn : n≤10) (hn1 : 1≤n) : y1Bd b n c f l m x st := by
 unfold y1Bd y1Bd3 y1Bd2 y1Bd1 y1Bd0
 simp only [SS,reduceCtorEq,Arg.list,Arg.num,Arg.flag,intOf,andP,Nat.reduceLeDiff,Nat.reduceAdd,Nat.reduceMul,Nat.reduceLT,ltN_l10 n hn]
 refine ⟨⟨⟨rfl,rfl⟩,hl,hn,hn1⟩,⟨⟨rfl,rfl⟩,hl,hn,hn1⟩,fun h2 => ?_,fun h2 => ?_⟩
 · rw [stepL_new (N := ND n l) (s := ⟨false,st⟩) rfl (.inr h2)]
   exact ⟨rfl,12,by kernel_rfl,by simp⟩
 · rw [stepL_old (N := ND n l) (s := ⟨false,st⟩) rfl h2]
   exact ⟨rfl,11,by kernel_rfl,by simp⟩
def σkd (k b : Nat) : Nat := if b = 13 then k else b
theorem slot_omapd {k n : Nat} {no : Bool} {st : Nat→Int} : omap (σkd k) (.rw (slotV no 13 n :: I10 st []) none) = .rw (slotV no k n :: I10 st []) none := by cases no <;> rfl
theorem EG_omapd {b : Int} {n c f k : Nat} {l m : List Int} {nv : Value} {X : AObj} {z : LoopState} {no : Bool} {st : Nat→Int} (hX : omap (σkd k) X = X) (hz : omap (σkd k) (L2d z) = L2d z) (hv : omap (σkd k) (.rw [nv] none) = .rw [nv] none∧omap (σkd k) (L0d nv) = L0d nv) :
   (EGd b n c f l m nv X z no 13 st).map (omap (σkd k)) = EGd b n c f l m nv X z no k st := by
 unfold EGd EHd
 simp only [List.map_append,List.map_cons,List.map_nil,ros_omap,rws_omap,slot_omapd,hX,hz,hv.1,hv.2,walk_omap (show σkd k 0 = 0 from rfl)]
 kernel_rfl
theorem EG_scd {b : Int} {n c f k : Nat} {l m : List Int} {nv : Value} {X : AObj} {z : LoopState} {no : Bool} {st : Nat→Int} (hk : k < 14) (hX : X.sc 14 = true) (hz : (L2d z).sc 14 = true) (hv : AObj.sc 14 (.rw [nv] none) = true∧(L0d nv).sc 14 = true) :
   ∀ o ∈ EGd b n c f l m nv X z no k st,o.sc 14 = true := by
 refine List.all_eq_true.1 ?_
 unfold EGd EHd
 simp only [List.all_append,List.all_cons,List.all_nil,ros_sc,rws_sc,slot_sc hk,hX,hz,hv.1,hv.2,Bool.and_true,Bool.true_and]
 kernel_rfl
theorem EG_lend {b : Int} {n c f k : Nat} {l m : List Int} {nv : Value} {X : AObj} {z : LoopState} {no : Bool} {st : Nat→Int} : (EGd b n c f l m nv X z no k st).length = 13 := rfl
theorem YR_anewd {b : Int} {n c f : Nat} {l m : List Int} {nv : Value} {X : AObj} {z : LoopState} {s : LS} {v : Value} {H' : Heap} (h : YRd b n c f l m nv X z s v H')
   (hX : ∀ k,omap (σkd k) X = X) (hz : ∀ k,omap (σkd k) (L2d z) = L2d z) (hv : ∀ k,omap (σkd k) (.rw [nv] none) = .rw [nv] none∧omap (σkd k) (L0d nv) = L0d nv) (sX : X.sc 14 = true) (sz : (L2d z).sc 14 = true) (sv : AObj.sc 14 (.rw [nv] none) = true∧(L0d nv).sc 14 = true) :
   ∃ σ v2 H2,Anew 13 σ H' H2∧v = nmap σ v2∧sc H2.length v2 = true∧(v2 = .bool true∧H2 = EGd b n c f l m nv X z s.no 13 s.st ++ [.gone]) := by
 obtain ⟨rfl,k,he,hk⟩ := h
 refine ⟨σkd k,.bool true,_,⟨?_,fun b' hb => ?_,fun b' o hb => ?_,fun b1 b2 o h1 h2 h3 h4 h5 h6 => ?_,fun b' o hb => ?_⟩,rfl,rfl,rfl,rfl⟩
 · rw [List.length_append,EG_lend]; simp
 · unfold σkd; rw [if_neg (by omega)]
 · rcases Nat.lt_or_ge b' 13 with h1 | h1
   · right
     rw [List.getElem?_append_left (by rw [EG_lend]; exact h1)] at hb
     rw [he,show σkd k b' = b' by unfold σkd; rw [if_neg (by omega)],List.getElem?_append_left (by rw [EG_lend]; exact h1),← EG_omapd (hX k) (hz k) (hv k),List.getElem?_map,hb]
     rfl
   · left
     rw [List.getElem?_append_right (by rw [EG_lend]; exact h1),EG_lend] at hb
     have : b' - 13 = 0 := by
       have := (List.getElem?_eq_some_iff.1 hb).1
       simp at this; omega
     rw [this] at hb
     exact (Option.some.inj hb).symm
 · have hl : (EGd b n c f l m nv X z s.no 13 s.st ++ [AObj.gone]).length = 14 := by rw [List.length_append,EG_lend]; rfl
   rw [hl] at h1 h2
   have g18 : (EGd b n c f l m nv X z s.no 13 s.st ++ [AObj.gone])[13]? = some .gone := by rw [List.getElem?_append_right (by rw [EG_lend]; omega),EG_lend]; rfl
   have n1 : b1 ≠ 13 := fun e => by subst e; rw [g18] at h3; cases h3; exact h4 rfl
   have n2 : b2 ≠ 13 := fun e => by
     subst e
     rcases h5 with h5 | h5
     · exact h5 g18
     · omega
   unfold σkd at h6
   rw [if_neg n1,if_neg n2] at h6
   exact h6
 · have hl : (EGd b n c f l m nv X z s.no 13 s.st ++ [AObj.gone]).length = 14 := by rw [List.length_append,EG_lend]; rfl
   rw [hl]
   rcases List.mem_append.1 (List.mem_of_getElem? hb) with h1 | h1
   · exact EG_scd (by omega) sX sz sv o h1
   · rw [List.mem_singleton.1 h1]; rfl
theorem ldT_ok (b : Int) (n c f : Nat) (l : List Int) : CtOk Try.prog (ldT b n c f l) := CtOk.none.add (la_ok b n c f l)
theorem y1_yieldd (b : Int) (n c f : Nat) (l m : List Int) (x : Nat→Int) (s : LS) (hl : l.length = n * 2) (hn : n≤10) (hn1 : 1≤n) (hs : s.no = true→s.st = empI) :
   Yield Try.prog 7 [.agg (newS 12 n :: I10 x []).toArray] (EGd b n c f l m laF .gone .busy s.no 11 s.st) fun v H' => v = .bool true∧H' = EGd b n c f l m laF .gone .busy (stepL (inA n l) (ND n l) s x).no 13 (stepL (inA n l) (ND n l) s x).st ++ [.gone] := by
 refine Yield.anew (Yield.mono (Q := YRd b n c f l m laF .gone .busy (stepL (inA n l) (ND n l) s x)) ?_ fun v H' h => YR_anewd h (fun _ => rfl) (fun _ => by kernel_rfl) (fun _ => ⟨by kernel_rfl,by kernel_rfl⟩) rfl (by kernel_rfl) ⟨by kernel_rfl,by kernel_rfl⟩)
 obtain ⟨no,st⟩ := s
 cases no with
 | true =>
   obtain rfl : st = empI := hs rfl
   have h := y1Ad_ok b n c f l m x hl hn hn1
   rw [y1Ad_eq] at h
   unfold ycT at h
   split at h
   · rename_i T hT
     exact (ycIn_ok (VOk.ofCt (ldT_ok b n c f l)) mixed _ _ _ _ hT _ h).mono fun v H' k => k.out
   · exact h.elim
 | false =>
   have h := y1Bd_ok b n c f l m x st hl hn hn1
   rw [y1Bd_eq] at h
   unfold ycT at h
   split at h
   · rename_i T hT
     exact (ycIn_ok (VOk.ofCt (ldT_ok b n c f l)) mixed _ _ _ _ hT _ h).mono fun v H' k => k.out
   · exact h.elim
end Go.Pier.Rd
namespace Go.Pier.Rd
open Go Go.Pier Go.Proofs
noncomputable def nxSd (b : Int) (n : Nat) (l m : List Int) (no : Bool) (st : Nat→Int) : LS := stepL (inA n l) (ND n l) ⟨no,st⟩ (stp b l m)
noncomputable def y1Ytd (b : Int) (n c f : Nat) (l m : List Int) (no : Bool) (st : Nat→Int) : Yt := fun b' args H => match Nat.beq b' 7 with
 | true => some (some (args = [.agg (newS 12 n :: I10 (stp b l m) []).toArray]∧H = EGd b n c f l m laF .gone .busy no 11 st∧l.length = n * 2∧n≤10∧1≤n∧(no = true→st = empI)),.bool true,EGd b n c f l m laF .gone .busy (nxSd b n l m no st).no 13 (nxSd b n l m no st).st ++ [.gone],[5,6])
 | false => none
noncomputable def y2Ed (b : Int) (n c f : Nat) (l m : List Int) : VEnv := { ct := Ct.none.add 60 (tpCt b n c f l m) }
noncomputable def y2Vd :=
fun (b:Int) (n c f:Nat) (l m:List Int) (no:Bool) (st:Nat→Int)↦Ob (AtW b n c f l [AObj.ro (List.map (Value.int IntKind.i64) l),AObj.rw (vi b::Value.slice (some (ad0 0)) n c::vi (f:Int)::B10 (tmd n) []) none,AObj.rw [ptr0 1] none,AObj.rw [Value.func (Fn.func (109:FuncId)) ⟨[ptr0 1]⟩ ⟨[]⟩] none,AObj.rw (Value.slice none 0 0::I10 empI []) none,AObj.rw (slotV no 11 n::I10 st []) none,AObj.rw [Value.bool no] none,AObj.loop LoopState.ready none ⟨[Value.func (Fn.func (123:FuncId)) ⟨[]⟩ ⟨[ptr0 2]⟩,Value.func (Fn.func (109:FuncId)) ⟨[ptr0 1]⟩ ⟨[]⟩,junk,ptr0 3,ptr0 4,ptr0 5,ptr0 6,junk,Value.func (Fn.func (123:FuncId)) ⟨[]⟩ ⟨[ptr0 2]⟩,junk,junk,junk,junk,junk,junk,junk,junk,junk,junk,junk,junk,junk]⟩ ⟨[9]⟩ y1_c0 y1_c1,AObj.rw [Value.func (Fn.yield 7) ⟨[]⟩ ⟨[]⟩] none,AObj.rw [ptr0 1] none,AObj.loop LoopState.busy none ⟨[Value.func (Fn.yield 7) ⟨[]⟩ ⟨[]⟩,ptr0 2,ptr0 8,junk,ptr0 1,Value.func (Fn.func (133:FuncId)) ⟨[]⟩ ⟨[ptr0 9]⟩,junk,junk,junk,junk,junk,junk,junk]⟩ ⟨[6]⟩ y1_c4 y1_c5,AObj.gone,AObj.rw (List.map (Value.int IntKind.i64) m) (some 1)]∧some (AObj.rw (List.map (Value.int IntKind.i64) m) (some 1))=some (AObj.rw (List.map (Value.int IntKind.i64) m) (some 1))∧n=m.length∧l.length=n * 2∧n≤10∧rngP b n l∧m.length≤10∧∀ (j:Nat),j<m.length→(0:Int)≤m.getD j (0:Int)∧m.getD j (0:Int)<(n:Int))∧Ob ([Value.agg { toList := (Value.slice (some ⟨12,0,some 0⟩) n 0::I10 (stp b l m) []) }]=[Value.agg { toList := (Value.slice (some ⟨12,0,some 0⟩) n 0::I10 (stp b l m) []) }]∧[AObj.ro (List.map (Value.int IntKind.i64) l),AObj.rw (vi b::Value.slice (some (ad0 0)) n c::vi (f:Int)::B10 (tmd n) []) none,AObj.rw [ptr0 1] none,AObj.rw [Value.func (Fn.func (109:FuncId)) ⟨[ptr0 1]⟩ ⟨[]⟩] none,AObj.rw (Value.slice none 0 0::I10 empI []) none,AObj.rw (slotV no 11 n::I10 st []) none,AObj.rw [Value.bool no] none,AObj.loop LoopState.ready none ⟨[Value.func (Fn.func (123:FuncId)) ⟨[]⟩ ⟨[ptr0 2]⟩,Value.func (Fn.func (109:FuncId)) ⟨[ptr0 1]⟩ ⟨[]⟩,junk,ptr0 3,ptr0 4,ptr0 5,ptr0 6,junk,Value.func (Fn.func (123:FuncId)) ⟨[]⟩ ⟨[ptr0 2]⟩,junk,junk,junk,junk,junk,junk,junk,junk,junk,junk,junk,junk,junk]⟩ ⟨[9]⟩ y1_c0 y1_c1,AObj.rw [Value.func (Fn.yield 7) ⟨[]⟩ ⟨[]⟩] none,AObj.rw [ptr0 1] none,AObj.loop LoopState.busy none ⟨[Value.func (Fn.yield 7) ⟨[]⟩ ⟨[]⟩,ptr0 2,ptr0 8,junk,ptr0 1,Value.func (Fn.func (133:FuncId)) ⟨[]⟩ ⟨[ptr0 9]⟩,junk,junk,junk,junk,junk,junk,junk]⟩ ⟨[6]⟩ y1_c4 y1_c5,AObj.gone,AObj.rw (List.map (Value.int IntKind.i64) m) (some 1)]=[AObj.ro (List.map (Value.int IntKind.i64) l),AObj.rw (vi b::Value.slice (some (ad0 0)) n c::vi (f:Int)::B10 (tmd n) []) none,AObj.rw [ptr0 1] none,AObj.rw [Value.func (Fn.func (109:FuncId)) ⟨[ptr0 1]⟩ ⟨[]⟩] none,AObj.rw (Value.slice none 0 0::I10 empI []) none,AObj.rw (slotV no 11 n::I10 st []) none,AObj.rw [Value.bool no] none,AObj.loop LoopState.ready none ⟨[Value.func (Fn.func (123:FuncId)) ⟨[]⟩ ⟨[ptr0 2]⟩,Value.func (Fn.func (109:FuncId)) ⟨[ptr0 1]⟩ ⟨[]⟩,junk,ptr0 3,ptr0 4,ptr0 5,ptr0 6,junk,Value.func (Fn.func (123:FuncId)) ⟨[]⟩ ⟨[ptr0 2]⟩,junk,junk,junk,junk,junk,junk,junk,junk,junk,junk,junk,junk,junk]⟩ ⟨[9]⟩ y1_c0 y1_c1,AObj.rw [Value.func (Fn.yield 7) ⟨[]⟩ ⟨[]⟩] none,AObj.rw [ptr0 1] none,AObj.loop LoopState.busy none ⟨[Value.func (Fn.yield 7) ⟨[]⟩ ⟨[]⟩,ptr0 2,ptr0 8,junk,ptr0 1,Value.func (Fn.func (133:FuncId)) ⟨[]⟩ ⟨[ptr0 9]⟩,junk,junk,junk,junk,junk,junk,junk]⟩ ⟨[6]⟩ y1_c4 y1_c5,AObj.gone,AObj.rw (List.map (Value.int IntKind.i64) m) (some 1)]∧l.length=n * 2∧n≤10∧1≤n∧(no=true→st=empI))∧(false=true→Ob (Value.bool false=Value.bool true∧[AObj.ro (List.map (Value.int IntKind.i64) l),AObj.rw (vi b::Value.slice (some (ad0 0)) n c::vi (f:Int)::B10 (tmd n) []) none,AObj.rw [ptr0 1] none,AObj.rw [Value.func (Fn.func (109:FuncId)) ⟨[ptr0 1]⟩ ⟨[]⟩] none,AObj.rw (Value.slice none 0 0::I10 empI []) none,AObj.rw (slotV (nxSd b n l m no st).no 13 n::I10 ((nxSd b n l m no st).st) []) none,AObj.rw [Value.bool (nxSd b n l m no st).no] none,AObj.loop LoopState.ready none ⟨[Value.func (Fn.func (123:FuncId)) ⟨[]⟩ ⟨[ptr0 2]⟩,Value.func (Fn.func (109:FuncId)) ⟨[ptr0 1]⟩ ⟨[]⟩,junk,ptr0 3,ptr0 4,ptr0 5,ptr0 6,junk,Value.func (Fn.func (123:FuncId)) ⟨[]⟩ ⟨[ptr0 2]⟩,junk,junk,junk,junk,junk,junk,junk,junk,junk,junk,junk,junk,junk]⟩ ⟨[9]⟩ y1_c0 y1_c1,AObj.rw [Value.func (Fn.yield 7) ⟨[]⟩ ⟨[]⟩] none,AObj.rw [ptr0 1] none,AObj.loop LoopState.done (some Code.ret) ⟨[Value.func (Fn.yield 7) ⟨[]⟩ ⟨[]⟩,ptr0 2,ptr0 8,junk,ptr0 1,Value.func (Fn.func (133:FuncId)) ⟨[]⟩ ⟨[ptr0 9]⟩,junk,junk,junk,junk,junk,junk,junk]⟩ ⟨[6]⟩ y1_c4 y1_c5,AObj.gone,AObj.rw (List.map (Value.int IntKind.i64) m) (some 1),AObj.gone]=[AObj.ro (List.map (Value.int IntKind.i64) l),AObj.rw (vi b::Value.slice (some (ad0 0)) n c::vi (f:Int)::B10 (tmd n) []) none,AObj.rw [ptr0 1] none,AObj.rw [Value.func (Fn.func (109:FuncId)) ⟨[ptr0 1]⟩ ⟨[]⟩] none,AObj.rw (Value.slice none 0 0::I10 empI []) none,AObj.rw (slotV (nxSd b n l m no st).no 13 n::I10 ((nxSd b n l m no st).st) []) none,AObj.rw [Value.bool (nxSd b n l m no st).no] none,AObj.loop LoopState.ready none ⟨[Value.func (Fn.func (123:FuncId)) ⟨[]⟩ ⟨[ptr0 2]⟩,Value.func (Fn.func (109:FuncId)) ⟨[ptr0 1]⟩ ⟨[]⟩,junk,ptr0 3,ptr0 4,ptr0 5,ptr0 6,junk,Value.func (Fn.func (123:FuncId)) ⟨[]⟩ ⟨[ptr0 2]⟩,junk,junk,junk,junk,junk,junk,junk,junk,junk,junk,junk,junk,junk]⟩ ⟨[9]⟩ y1_c0 y1_c1,AObj.rw [Value.func (Fn.yield 7) ⟨[]⟩ ⟨[]⟩] none,AObj.rw [ptr0 1] none,AObj.loop LoopState.ready none ⟨[Value.func (Fn.yield 7) ⟨[]⟩ ⟨[]⟩,ptr0 2,ptr0 8,junk,ptr0 1,Value.func (Fn.func (133:FuncId)) ⟨[]⟩ ⟨[ptr0 9]⟩,junk,junk,junk,junk,junk,junk,junk]⟩ ⟨[6]⟩ y1_c4 y1_c5,AObj.gone,AObj.rw (List.map (Value.int IntKind.i64) m) (some 1),AObj.gone]))∧(false=false→Ob (Value.bool true=Value.bool true∧[AObj.ro (List.map (Value.int IntKind.i64) l),AObj.rw (vi b::Value.slice (some (ad0 0)) n c::vi (f:Int)::B10 (tmd n) []) none,AObj.rw [ptr0 1] none,AObj.rw [Value.func (Fn.func (109:FuncId)) ⟨[ptr0 1]⟩ ⟨[]⟩] none,AObj.rw (Value.slice none 0 0::I10 empI []) none,AObj.rw (slotV (nxSd b n l m no st).no 13 n::I10 ((nxSd b n l m no st).st) []) none,AObj.rw [Value.bool (nxSd b n l m no st).no] none,AObj.loop LoopState.ready none ⟨[Value.func (Fn.func (123:FuncId)) ⟨[]⟩ ⟨[ptr0 2]⟩,Value.func (Fn.func (109:FuncId)) ⟨[ptr0 1]⟩ ⟨[]⟩,junk,ptr0 3,ptr0 4,ptr0 5,ptr0 6,junk,Value.func (Fn.func (123:FuncId)) ⟨[]⟩ ⟨[ptr0 2]⟩,junk,junk,junk,junk,junk,junk,junk,junk,junk,junk,junk,junk,junk]⟩ ⟨[9]⟩ y1_c0 y1_c1,AObj.rw [Value.func (Fn.yield 7) ⟨[]⟩ ⟨[]⟩] none,AObj.rw [ptr0 1] none,AObj.loop LoopState.ready none ⟨[Value.func (Fn.yield 7) ⟨[]⟩ ⟨[]⟩,ptr0 2,ptr0 8,junk,ptr0 1,Value.func (Fn.func (133:FuncId)) ⟨[]⟩ ⟨[ptr0 9]⟩,junk,junk,junk,junk,junk,junk,junk]⟩ ⟨[6]⟩ y1_c4 y1_c5,AObj.gone,AObj.rw (List.map (Value.int IntKind.i64) m) (some 1),AObj.gone]=[AObj.ro (List.map (Value.int IntKind.i64) l),AObj.rw (vi b::Value.slice (some (ad0 0)) n c::vi (f:Int)::B10 (tmd n) []) none,AObj.rw [ptr0 1] none,AObj.rw [Value.func (Fn.func (109:FuncId)) ⟨[ptr0 1]⟩ ⟨[]⟩] none,AObj.rw (Value.slice none 0 0::I10 empI []) none,AObj.rw (slotV (nxSd b n l m no st).no 13 n::I10 ((nxSd b n l m no st).st) []) none,AObj.rw [Value.bool (nxSd b n l m no st).no] none,AObj.loop LoopState.ready none ⟨[Value.func (Fn.func (123:FuncId)) ⟨[]⟩ ⟨[ptr0 2]⟩,Value.func (Fn.func (109:FuncId)) ⟨[ptr0 1]⟩ ⟨[]⟩,junk,ptr0 3,ptr0 4,ptr0 5,ptr0 6,junk,Value.func (Fn.func (123:FuncId)) ⟨[]⟩ ⟨[ptr0 2]⟩,junk,junk,junk,junk,junk,junk,junk,junk,junk,junk,junk,junk,junk]⟩ ⟨[9]⟩ y1_c0 y1_c1,AObj.rw [Value.func (Fn.yield 7) ⟨[]⟩ ⟨[]⟩] none,AObj.rw [ptr0 1] none,AObj.loop LoopState.ready none ⟨[Value.func (Fn.yield 7) ⟨[]⟩ ⟨[]⟩,ptr0 2,ptr0 8,junk,ptr0 1,Value.func (Fn.func (133:FuncId)) ⟨[]⟩ ⟨[ptr0 9]⟩,junk,junk,junk,junk,junk,junk,junk]⟩ ⟨[6]⟩ y1_c4 y1_c5,AObj.gone,AObj.rw (List.map (Value.int IntKind.i64) m) (some 1),AObj.gone]))
theorem y2Vd_eq : y2Vd = fun (b : Int) (n c f : Nat) (l m : List Int) (no : Bool) (st : Nat→Int) => ycT (ycInY Try.prog (y2Ed b n c f l m) (y1Ytd b n c f l m no st) (fun _ => none) 10 [newS 12 n] (EGd b n c f l m laF .gone .ready no 11 st)) (fun v H' => Ob (v = .bool true∧H' = EGd b n c f l m laF .gone .ready (nxSd b n l m no st).no 13 (nxSd b n l m no st).st ++ [.gone])) := by kernel_rfl
theorem y2V_okd (b : Int) (n c f : Nat) (l m : List Int) (no : Bool) (st : Nat→Int) (hl : l.length = n * 2) (hn : n≤10) (hn1 : 1≤n) (hr : rngP b n l) (hm : m.length = n) (ha : ∀ j,j < m.length→0≤m.getD j 0∧m.getD j 0 < n) (hs : no = true→st = empI) : y2Vd b n c f l m no st := by
 unfold y2Vd
 exact ⟨⟨⟨rfl,rfl⟩,rfl,hm.symm,hl,hn,hr,by omega,ha⟩,⟨rfl,by kernel_rfl,hl,hn,hn1,hs⟩,fun h => absurd h (by decide),fun _ => ⟨rfl,by kernel_rfl⟩⟩
theorem y1Yt_okd (b : Int) (n c f : Nat) (l m : List Int) (no : Bool) (st : Nat→Int) : YtOk Try.prog (y1Ytd b n c f l m no st) := by
 intro b' args H φ v H' lg h hφ
 unfold y1Ytd at h
 split at h <;> cases h
 rename_i hb
 obtain rfl := Nat.eq_of_beq_eq_true hb
 obtain ⟨rfl,rfl,h1,h2,h4,h3⟩ := hφ
 refine ⟨y1_yieldd b n c f l m _ ⟨no,st⟩ h1 h2 h4 h3,by rw [List.length_append,EG_lend,EG_lend]; omega,fun b1 h6 h5 => ?_⟩
 rw [EG_lend] at h6
 rw [List.getElem?_append_left (by rw [EG_lend]; exact h6)]
 have h8 : b1 ≠ 5 := fun e => h5 (by subst e; simp)
 have h9 : b1 ≠ 6 := fun e => h5 (by subst e; simp)
 unfold EGd EHd
 rcases b1 with _ | _ | _ | _ | _ | _ | _ | _ | _ | _ | _ | _ | _ | _ | _ | _ | _ | _ | b1 <;> first | rfl | omega
theorem y2E_okd (b : Int) (n c f : Nat) (l m : List Int) : VOk Try.prog (y2Ed b n c f l m) := VOk.ofCt (CtOk.none.add (tp_ok b n c f l m))
theorem y2_yieldd (b : Int) (n c f : Nat) (l m : List Int) (no : Bool) (st : Nat→Int) (hl : l.length = n * 2) (hn : n≤10) (hn1 : 1≤n) (hr : rngP b n l) (hm : m.length = n) (ha : ∀ j,j < m.length→0≤m.getD j 0∧m.getD j 0 < n) (hs : no = true→st = empI) :
   Yield Try.prog 10 [newS 12 n] (EGd b n c f l m laF .gone .ready no 11 st) fun v H' => v = .bool true∧H' = EGd b n c f l m laF .gone .ready (nxSd b n l m no st).no 13 (nxSd b n l m no st).st ++ [.gone] := by
 have h := y2V_okd b n c f l m no st hl hn hn1 hr hm ha hs
 rw [y2Vd_eq] at h
 unfold ycT at h
 split at h
 · rename_i T hT
   exact (ycIn_okY (y2E_okd b n c f l m) (y1Yt_okd b n c f l m no st) mixed _ _ _ _ hT _ h).mono fun v H' k => k.out
 · exact h.elim
end Go.Pier.Rd
namespace Go.Pier.Rd
open Go Go.Pier Go.Proofs
noncomputable def grBd : Code := Try.f134.body.getD .skip
noncomputable def EGLd (b : Int) (n c f : Nat) (l m : List Int) (no : Bool) (k : Nat) (st : Nat→Int) : Heap := EGd b n c f l m laF .gone .ready no k st
noncomputable def fdRd (b : Int) (n : Nat) (l : List Int) (no : Bool) (st : Nat→Int) (r : List (List Int)) : LS := foldR b l (inA n l) (ND n l) ⟨no,st⟩ r
noncomputable def grCcd (b:Int) (n c f:Nat) (l m:List Int) (κ:Nat):Cc := fun fn args H => match Nat.beq fn 134 with
 | true => match Nat.beq H.length 15 with
   | true => some fun Q => ∃ (m2:List Int) (f1 t1:Nat) (no:Bool) (st:Nat→Int) (o18:AObj),Ob (args=[ptr0 1,newS 14 m2.length,vi f1,vi t1,yv 10]∧H=EGLd b n c f l m no 11 st++[o18,rws m2]∧Begun n f1 t1 m2∧f1+(n-t1)+1=κ∧(no=true→st=empI)) ∧
       Q (.bool true) (EGLd b n c f l m (fdRd b n l no st (rds n (κ-1) f1 t1 m2)).no 15 (fdRd b n l no st (rds n (κ-1) f1 t1 m2)).st++[o18,rws m2,.gone])
   | false => match Nat.beq H.length 18 with
     | true => some fun Q => ∃ (m2:List Int) (f1 t1:Nat) (no:Bool) (st:Nat→Int) (o18 o19 o21:AObj),Ob (args=[ptr0 1,newS 17 m2.length,vi f1,vi t1,yv 10]∧H=EGLd b n c f l m no 15 st++[o18,o19,.gone,o21,rws m2]∧Begun n f1 t1 m2∧f1+(n-t1)+1=κ∧(no=true→st=empI)) ∧
         Q (.bool true) (EGLd b n c f l m (fdRd b n l no st (rds n (κ-1) f1 t1 m2)).no 18 (fdRd b n l no st (rds n (κ-1) f1 t1 m2)).st++[o18,o19,.gone,o21,rws m2,.gone])
     | false => none
 | false => none
noncomputable def grYcd (b:Int) (n c f:Nat) (l m:List Int) (no:Bool) (st:Nat→Int):Yc := fun b1 args H => match Nat.beq b1 10 with
 | true => some fun Q => Ob (args=[newS 12 n]∧H=EGLd b n c f l m no 11 st∧Whole n m)∧Q (.bool true) (EGLd b n c f l m (nxSd b n l m no st).no 13 (nxSd b n l m no st).st++[.gone])
 | false => none
noncomputable def grEd (b : Int) (n c f : Nat) (l m : List Int) (no : Bool) (st : Nat→Int) (κ : Nat) : VEnv := { orc := orcOr (orcLim Try.prog) prO,cc := grCcd b n c f l m κ,yc := grYcd b n c f l m no st }
noncomputable def grVd0  : Array Value := { toList := [Value.func (Fn.func (123 : FuncId)) { toList := [] } { toList := [ptr0 2] },Value.func (Fn.func (109 : FuncId)) { toList := [ptr0 1] } { toList := [] },junk,ptr0 3,ptr0 4,ptr0 5,ptr0 6,junk,Value.func (Fn.func (123 : FuncId)) { toList := [] } { toList := [ptr0 2] },junk,junk,junk,junk,junk,junk,junk,junk,junk,junk,junk,junk,junk] }
noncomputable def grVd1  : Array Value := { toList := [Value.func (Fn.yield (7 : Nat)) { toList := [] } { toList := [] },ptr0 2,ptr0 8,junk,ptr0 1,Value.func (Fn.func (133 : FuncId)) { toList := [] } { toList := [ptr0 9] },junk,junk,junk,junk,junk,junk,junk] }
noncomputable def grVd2 (b:Int) (n:Nat) (c:Nat) (f:Nat) (l:List Int) (m:List Int) (κ:Nat) (f1:Nat) (m2:List Int) (no_1:Bool) (o18:AObj) (st_1:Nat→Int) (t1:Nat):List AObj := [AObj.ro (List.map (Value.int IntKind.i64) l),AObj.rw (vi b::Value.slice (some (ad0 0)) n c::vi (f:Int)::B10 (tmd n) []) none,AObj.rw [ptr0 1] none,AObj.rw [Value.func (Fn.func (109:FuncId)) ⟨[ptr0 1]⟩ ⟨[]⟩] none,AObj.rw (Value.slice none 0 0::I10 empI []) none,AObj.rw (slotV (fdRd b n l no_1 st_1 (rds n (κ-1) f1 t1 m2)).no 15 n::I10 ((fdRd b n l no_1 st_1 (rds n (κ-1) f1 t1 m2)).st) []) none,AObj.rw [Value.bool (fdRd b n l no_1 st_1 (rds n (κ-1) f1 t1 m2)).no] none,AObj.loop LoopState.ready none grVd0 ⟨[9]⟩ y1_c0 y1_c1,AObj.rw [Value.func (Fn.yield 7) ⟨[]⟩ ⟨[]⟩] none,AObj.rw [ptr0 1] none,AObj.loop LoopState.ready none grVd1 ⟨[6]⟩ y1_c4 y1_c5,AObj.gone,AObj.rw (List.map (Value.int IntKind.i64) m) (some 1),o18,AObj.rw (List.map (Value.int IntKind.i64) m2) (some 1),AObj.gone]
noncomputable def grVd3 (b:Int) (n:Nat) (c:Nat) (f:Nat) (l:List Int) (m:List Int) (no:Bool) (st:Nat→Int):List AObj := [AObj.ro (List.map (Value.int IntKind.i64) l),AObj.rw (vi b::Value.slice (some (ad0 0)) n c::vi (f:Int)::B10 (tmd n) []) none,AObj.rw [ptr0 1] none,AObj.rw [Value.func (Fn.func (109:FuncId)) ⟨[ptr0 1]⟩ ⟨[]⟩] none,AObj.rw (Value.slice none 0 0::I10 empI []) none,AObj.rw (slotV no 11 n::I10 st []) none,AObj.rw [Value.bool no] none,AObj.loop LoopState.ready none grVd0 ⟨[9]⟩ y1_c0 y1_c1,AObj.rw [Value.func (Fn.yield 7) ⟨[]⟩ ⟨[]⟩] none,AObj.rw [ptr0 1] none,AObj.loop LoopState.ready none grVd1 ⟨[6]⟩ y1_c4 y1_c5,AObj.gone,AObj.rw (List.map (Value.int IntKind.i64) m) (some 1)]
noncomputable def grVd4 (b:Int) (n:Nat) (c:Nat) (f:Nat) (l:List Int) (m:List Int) (m2:List Int) (no_1:Bool) (o18:AObj) (st_1:Nat→Int):List AObj := [AObj.ro (List.map (Value.int IntKind.i64) l),AObj.rw (vi b::Value.slice (some (ad0 0)) n c::vi (f:Int)::B10 (tmd n) []) none,AObj.rw [ptr0 1] none,AObj.rw [Value.func (Fn.func (109:FuncId)) ⟨[ptr0 1]⟩ ⟨[]⟩] none,AObj.rw (Value.slice none 0 0::I10 empI []) none,AObj.rw (slotV no_1 11 n::I10 st_1 []) none,AObj.rw [Value.bool no_1] none,AObj.loop LoopState.ready none grVd0 ⟨[9]⟩ y1_c0 y1_c1,AObj.rw [Value.func (Fn.yield 7) ⟨[]⟩ ⟨[]⟩] none,AObj.rw [ptr0 1] none,AObj.loop LoopState.ready none grVd1 ⟨[6]⟩ y1_c4 y1_c5,AObj.gone,AObj.rw (List.map (Value.int IntKind.i64) m) (some 1),o18,AObj.rw (List.map (Value.int IntKind.i64) m2) (some 1)]
noncomputable def grVd5 (m:List Int) := (andP (some (0+1≤1∧true=true)) (m.length+1≤1099511627776∧(2 * (m.length+1)+256) * 8≤281474976710656∧1=1∧m.length<m.length+1∧0+m.length * 1≤(List.map (Value.int IntKind.i64) m).length))
noncomputable def grVd6  := (Value.func (Fn.func (109 : FuncId)) { toList := [ptr0 1] } { toList := [] })
noncomputable def grVd7  : List Value := [Value.func (Fn.func (109 : FuncId)) { toList := [ptr0 1] } { toList := [] }]
noncomputable def grVd8  : List Value := [Value.func (Fn.yield (7 : Nat)) { toList := [] } { toList := [] }]
noncomputable def grVd9 (b:Int) (n:Nat) (c:Nat) (f:Nat) := (vi b::Value.slice (some (ad0 0)) n c::vi (f:Int)::B10 (tmd n) [])
noncomputable def grVd10  := (Value.int IntKind.i64)
noncomputable def grVd11  := (Value.slice none (0 : Nat) (0 : Nat) :: I10 empI [])
noncomputable def grVd12  (f1:Nat) (m2:List Int) (t1:Nat):List Value := [ptr0 1,Value.slice (some ⟨14,0,some 0⟩) m2.length 0,vi (f1:Int),vi (t1:Int),Value.func (Fn.yield 10) ⟨[]⟩ ⟨[]⟩]
noncomputable def grVd13 (m:List Int) := (List.map grVd10 m)
noncomputable def grVd14 (g:Nat) := (IntKind.i64.wrap ((g:Int)-(1:Int)))
noncomputable def grVd :=
fun (b:Int) (n c f:Nat) (l m:List Int) (no:Bool) (st:Nat→Int) (κ g t:Nat)↦(((m.length:Int)==(n:Int))=true→Ob ([Value.slice (some ⟨12,0,some 0⟩) m.length 0]=[Value.slice (some ⟨12,0,some 0⟩) n 0]∧(grVd3 b n c f l m no st)=(grVd3 b n c f l m no st)∧Whole n m)∧True∧Ob (YRd b n c f l m grVd6 AObj.gone LoopState.ready (fdRd b n l no st (rds n κ g t m)) (Value.bool true) [AObj.ro (List.map grVd10 l),AObj.rw (grVd9 b n c f) none,AObj.rw [ptr0 1] none,AObj.rw grVd7 none,AObj.rw grVd11 none,AObj.rw (slotV (nxSd b n l m no st).no 13 n::I10 ((nxSd b n l m no st).st) []) none,AObj.rw [Value.bool (nxSd b n l m no st).no] none,AObj.loop LoopState.ready none grVd0 ⟨[9]⟩ y1_c0 y1_c1,AObj.rw grVd8 none,AObj.rw [ptr0 1] none,AObj.loop LoopState.ready none grVd1 ⟨[6]⟩ y1_c4 y1_c5,AObj.gone,AObj.rw (grVd13 m) (some 1),AObj.gone]))∧(((m.length:Int)==(n:Int))=false→Ob (m.length≤(grVd13 m).length∧(m.length:Int)=(m.length:Int)∧(m.length:Int)=(m.length:Int))∧(decide ((0:Int)<(g:Int))=true→Ob (grVd5 m)∧∃ (m2:List Int),∃ (f1:Nat),∃ (t1:Nat),∃ (no_1:Bool),∃ (st_1:Nat→Int),∃ (o18:AObj),Ob ([ptr0 1,Value.slice (some ⟨14,0,some 0⟩) (m.length+1) 0,vi (grVd14 g),vi (t:Int),Value.func (Fn.yield 10) ⟨[]⟩ ⟨[]⟩]=(grVd12 f1 m2 t1)∧[AObj.ro (List.map grVd10 l),AObj.rw (grVd9 b n c f) none,AObj.rw [ptr0 1] none,AObj.rw grVd7 none,AObj.rw grVd11 none,AObj.rw (slotV no 11 n::I10 st []) none,AObj.rw [Value.bool no] none,AObj.loop LoopState.ready none grVd0 ⟨[9]⟩ y1_c0 y1_c1,AObj.rw grVd8 none,AObj.rw [ptr0 1] none,AObj.loop LoopState.ready none grVd1 ⟨[6]⟩ y1_c4 y1_c5,AObj.gone,AObj.rw (grVd13 m) (some 1),AObj.rw [vi (grVd14 g)] none,AObj.rw (List.take (m.length * 1) (List.drop 0 (grVd13 m))++[vi (grVd14 g)]) (some 1)]=(grVd4 b n c f l m m2 no_1 o18 st_1)∧Begun n f1 t1 m2∧f1+(n-t1)+1=κ∧(no_1=true→st_1=empI))∧(false=true→True∧Ob (YRd b n c f l m grVd6 AObj.gone LoopState.ready (fdRd b n l no st (rds n κ g t m)) (Value.bool false) (grVd2 b n c f l m κ f1 m2 no_1 o18 st_1 t1)))∧(false=false→(((t:Int)==(n:Int))=false→Ob (grVd5 m)∧∃ (m2_1:List Int),∃ (f1_1:Nat),∃ (t1_1:Nat),∃ (no_2:Bool),∃ (st_2:Nat→Int),∃ (o18_1:AObj),∃ (o19:AObj),∃ (o21:AObj),Ob ([ptr0 1,Value.slice (some ⟨17,0,some 0⟩) (m.length+1) 0,vi (g:Int),vi (IntKind.i64.wrap ((t:Int)+(1:Int))),Value.func (Fn.yield 10) ⟨[]⟩ ⟨[]⟩]=[ptr0 1,Value.slice (some ⟨17,0,some 0⟩) m2_1.length 0,vi (f1_1:Int),vi (t1_1:Int),Value.func (Fn.yield 10) ⟨[]⟩ ⟨[]⟩]∧[AObj.ro (List.map grVd10 l),AObj.rw (grVd9 b n c f) none,AObj.rw [ptr0 1] none,AObj.rw grVd7 none,AObj.rw grVd11 none,AObj.rw (slotV (fdRd b n l no_1 st_1 (rds n (κ-1) f1 t1 m2)).no 15 n::I10 ((fdRd b n l no_1 st_1 (rds n (κ-1) f1 t1 m2)).st) []) none,AObj.rw [Value.bool (fdRd b n l no_1 st_1 (rds n (κ-1) f1 t1 m2)).no] none,AObj.loop LoopState.ready none grVd0 ⟨[9]⟩ y1_c0 y1_c1,AObj.rw grVd8 none,AObj.rw [ptr0 1] none,AObj.loop LoopState.ready none grVd1 ⟨[6]⟩ y1_c4 y1_c5,AObj.gone,AObj.rw (grVd13 m) (some 1),o18,AObj.rw (List.map grVd10 m2) (some 1),AObj.gone,AObj.rw [vi (t:Int)] none,AObj.rw (List.take (m.length * 1) (List.drop 0 (grVd13 m))++[vi (t:Int)]) (some 1)]=[AObj.ro (List.map grVd10 l),AObj.rw (grVd9 b n c f) none,AObj.rw [ptr0 1] none,AObj.rw grVd7 none,AObj.rw grVd11 none,AObj.rw (slotV no_2 15 n::I10 st_2 []) none,AObj.rw [Value.bool no_2] none,AObj.loop LoopState.ready none grVd0 ⟨[9]⟩ y1_c0 y1_c1,AObj.rw grVd8 none,AObj.rw [ptr0 1] none,AObj.loop LoopState.ready none grVd1 ⟨[6]⟩ y1_c4 y1_c5,AObj.gone,AObj.rw (grVd13 m) (some 1),o18_1,o19,AObj.gone,o21,AObj.rw (List.map grVd10 m2_1) (some 1)]∧Begun n f1_1 t1_1 m2_1∧f1_1+(n-t1_1)+1=κ∧(no_2=true→st_2=empI))∧True∧Ob (YRd b n c f l m grVd6 AObj.gone LoopState.ready (fdRd b n l no st (rds n κ g t m)) (Value.bool true) [AObj.ro (List.map grVd10 l),AObj.rw (grVd9 b n c f) none,AObj.rw [ptr0 1] none,AObj.rw grVd7 none,AObj.rw grVd11 none,AObj.rw (slotV (fdRd b n l no_2 st_2 (rds n (κ-1) f1_1 t1_1 m2_1)).no 18 n::I10 ((fdRd b n l no_2 st_2 (rds n (κ-1) f1_1 t1_1 m2_1)).st) []) none,AObj.rw [Value.bool (fdRd b n l no_2 st_2 (rds n (κ-1) f1_1 t1_1 m2_1)).no] none,AObj.loop LoopState.ready none grVd0 ⟨[9]⟩ y1_c0 y1_c1,AObj.rw grVd8 none,AObj.rw [ptr0 1] none,AObj.loop LoopState.ready none grVd1 ⟨[6]⟩ y1_c4 y1_c5,AObj.gone,AObj.rw (grVd13 m) (some 1),o18_1,o19,AObj.gone,o21,AObj.rw (List.map grVd10 m2_1) (some 1),AObj.gone]))∧(((t:Int)==(n:Int))=true→True∧Ob (YRd b n c f l m grVd6 AObj.gone LoopState.ready (fdRd b n l no st (rds n κ g t m)) (Value.bool true) (grVd2 b n c f l m κ f1 m2 no_1 o18 st_1 t1)))))∧(decide ((0:Int)<(g:Int))=false→(((t:Int)==(n:Int))=false→Ob (grVd5 m)∧∃ (m2:List Int),∃ (f1:Nat),∃ (t1:Nat),∃ (no_1:Bool),∃ (st_1:Nat→Int),∃ (o18:AObj),Ob ([ptr0 1,Value.slice (some ⟨14,0,some 0⟩) (m.length+1) 0,vi (g:Int),vi (IntKind.i64.wrap ((t:Int)+(1:Int))),Value.func (Fn.yield 10) ⟨[]⟩ ⟨[]⟩]=(grVd12 f1 m2 t1)∧[AObj.ro (List.map grVd10 l),AObj.rw (grVd9 b n c f) none,AObj.rw [ptr0 1] none,AObj.rw grVd7 none,AObj.rw grVd11 none,AObj.rw (slotV no 11 n::I10 st []) none,AObj.rw [Value.bool no] none,AObj.loop LoopState.ready none grVd0 ⟨[9]⟩ y1_c0 y1_c1,AObj.rw grVd8 none,AObj.rw [ptr0 1] none,AObj.loop LoopState.ready none grVd1 ⟨[6]⟩ y1_c4 y1_c5,AObj.gone,AObj.rw (grVd13 m) (some 1),AObj.rw [vi (t:Int)] none,AObj.rw (List.take (m.length * 1) (List.drop 0 (grVd13 m))++[vi (t:Int)]) (some 1)]=(grVd4 b n c f l m m2 no_1 o18 st_1)∧Begun n f1 t1 m2∧f1+(n-t1)+1=κ∧(no_1=true→st_1=empI))∧True∧Ob (YRd b n c f l m grVd6 AObj.gone LoopState.ready (fdRd b n l no st (rds n κ g t m)) (Value.bool true) (grVd2 b n c f l m κ f1 m2 no_1 o18 st_1 t1)))∧(((t:Int)==(n:Int))=true→True∧Ob (YRd b n c f l m grVd6 AObj.gone LoopState.ready (fdRd b n l no st (rds n κ g t m)) (Value.bool true) (grVd3 b n c f l m no st)))))
theorem grVd_eq : grVd = fun (b : Int) (n c f : Nat) (l m : List Int) (no : Bool) (st : Nat→Int) (κ g t : Nat) => vc Try.prog (grEd b n c f l m no st κ) 13 66 true (fun _ => none) grBd [] (argFr 0 [ptr0 1,newS 12 m.length,vi g,vi t,yv 10]) (EGLd b n c f l m no 11 st) (retK Try.prog Try.f134 (YRd b n c f l m laF .gone .ready (fdRd b n l no st (rds n κ g t m)))) := by kernel_rfl
theorem fdR_oned {b : Int} {n : Nat} {l m : List Int} {no : Bool} {st : Nat→Int} : fdRd b n l no st [m] = nxSd b n l m no st := rfl
theorem fdR_appendd {b : Int} {n : Nat} {l : List Int} {no : Bool} {st : Nat→Int} {r r' : List (List Int)} : fdRd b n l no st (r ++ r') = fdRd b n l (fdRd b n l no st r).no (fdRd b n l no st r).st r' := foldR_append
theorem fdR_empd {b : Int} {n : Nat} {l : List Int} {no : Bool} {st : Nat→Int} {r : List (List Int)} (h : no = true→st = empI) : (fdRd b n l no st r).no = true→(fdRd b n l no st r).st = empI := foldR_emp r ⟨no,st⟩ h
theorem grV_okd (b : Int) (n c f : Nat) (l m : List Int) (no : Bool) (st : Nat→Int) (κ g t : Nat) (hn : n≤10) (hB : Begun n g t m) (hk : g + (n - t) = κ) (hs : no = true→st = empI) : grVd b n c f l m no st κ g t := by
 unfold grVd grVd14 grVd13 grVd12 grVd11 grVd10 grVd9 grVd8 grVd7 grVd6 grVd5 grVd4 grVd3 grVd2 grVd1 grVd0
 simp only [SS,reduceCtorEq,Arg.list,Arg.num,Arg.flag,intOf,andP,Nat.reduceLeDiff,Nat.reduceAdd,Nat.reduceMul,Nat.reduceLT,yv,newS]
 have h1 := hB.len
 have h2 := hB.le
 have w2 : IntKind.i64.wrap ((t : Int) + 1) = ((t + 1 : Nat) : Int) := by rw [wrap_in (by omega) (by omega)]; omega
 refine ⟨fun h => ?_,fun h => ⟨fun hg => ?_,fun hg => ?_⟩⟩
 · obtain rfl : g = 0 := by omega
   obtain rfl : t = n := by omega
   refine ⟨⟨by omega,hB⟩,?_⟩
   rw [show κ = 0 by omega,rds,fdR_oned]
   exact ⟨rfl,13,by kernel_rfl,by simp⟩
 · have hg' : 0 < g := by omega
   have hk' : κ = (κ - 1) + 1 := by omega
   have w1 : IntKind.i64.wrap ((g : Int) - 1) = ((g - 1 : Nat) : Int) := by rw [wrap_in (by omega) (by omega)]; omega
   rw [w1]
   refine ⟨by omega,m ++ [((g - 1 : Nat) : Int)],g - 1,t,no,st,_,⟨⟨by simp,rfl,rfl⟩,⟨⟨rfl,rfl⟩,rfl,rfl,rfl⟩,hB.left hg',by omega,hs⟩,fun ht => ?_,fun ht => ?_⟩
   · rw [w2]
     have ht' : t < n := by omega
     refine ⟨by omega,m ++ [(t : Int)],g,t + 1,_,_,_,_,_,⟨⟨by simp,rfl,rfl⟩,⟨⟨rfl,rfl⟩,rfl,rfl,rfl,rfl,rfl⟩,hB.right ht',by omega,fdR_empd hs⟩,?_⟩
     rw [show rds n κ g t m = rds n (κ - 1) (g - 1) t (m ++ [((g - 1 : Nat) : Int)]) ++ rds n (κ - 1) g (t + 1) (m ++ [(t : Int)]) by conv => lhs; rw [hk',rds,if_pos hg',if_pos ht'],fdR_appendd]
     exact ⟨rfl,18,by kernel_rfl,by simp⟩
   · have ht' : ¬ t < n := by omega
     rw [show rds n κ g t m = rds n (κ - 1) (g - 1) t (m ++ [((g - 1 : Nat) : Int)]) by conv => lhs; rw [hk',rds,if_pos hg',if_neg ht',List.append_nil]]
     exact ⟨rfl,15,by kernel_rfl,by simp⟩
 · have hg' : ¬ 0 < g := by omega
   have ht' : t < n := by omega
   have hk' : κ = (κ - 1) + 1 := by omega
   rw [w2]
   refine ⟨fun ht => ⟨by omega,m ++ [(t : Int)],g,t + 1,no,st,_,⟨⟨by simp,rfl,rfl⟩,⟨⟨rfl,rfl⟩,rfl,rfl,rfl⟩,hB.right ht',by omega,hs⟩,?_⟩,fun ht => by omega⟩
   rw [show rds n κ g t m = rds n (κ - 1) g (t + 1) (m ++ [(t : Int)]) by conv => lhs; rw [hk',rds,if_neg hg',if_pos ht',List.nil_append]]
   exact ⟨rfl,15,by kernel_rfl,by simp⟩
noncomputable def EGrd (b : Int) (n c f : Nat) (nv : Value) (X : AObj) (z : LoopState) : Heap := [.rw (walkC b n c f (tmd n)) none,.rw [ptr0 1] none,.rw [nv] none,.rw (nilS :: I10 empI []) none,L0d nv,.rw [yv 7] none,.rw [ptr0 1] none,L2d z]
theorem EG_alld {b : Int} {n c f k : Nat} {l m : List Int} {nv : Value} {X : AObj} {z : LoopState} {no : Bool} {st : Nat→Int} {p : AObj→Bool} (h : (EGrd b n c f nv X z).all p = true) (h0 : p (ros l) = true) (h1 : p (.rw (slotV no k n :: I10 st []) none) = true) (h2 : p (.rw [.bool no] none) = true) (h3 : p .gone = true) (h4 : p (rws m) = true) :
   ∀ o ∈ EGd b n c f l m nv X z no k st,p o = true := by
 refine List.all_eq_true.1 ?_
 unfold EGrd at h
 unfold EGd EHd
 simp only [List.all_append,List.all_cons,List.all_nil,Bool.and_true,Bool.and_eq_true] at h ⊢
 obtain ⟨a1,a2,a3,a4,a5,a6,a7,a8⟩ := h
 exact ⟨⟨h0,a1,a2,a3,a4,h1,h2,a5,a6,a7,a8⟩,h3,h4⟩
theorem EG_scNd {b : Int} {n c f k N : Nat} {l m : List Int} {nv : Value} {X : AObj} {z : LoopState} {no : Bool} {st : Nat→Int} (hk : k < N) (h : (EGrd b n c f nv X z).all (AObj.sc N) = true) : ∀ o ∈ EGd b n c f l m nv X z no k st,o.sc N = true :=
 EG_alld h ros_sc (slot_sc hk) rfl rfl rws_sc
theorem EG_mapd {σ : Nat→Nat} {b : Int} {n c f k : Nat} {l m : List Int} {nv : Value} {X : AObj} {z : LoopState} {no : Bool} {st : Nat→Int} (h : (EGrd b n c f nv X z).map (omap σ) = EGrd b n c f nv X z) :
   (EGd b n c f l m nv X z no k st).map (omap σ) = EGd b n c f l m nv X z no (σ k) st := by
 unfold EGrd at h
 unfold EGd EHd
 simp only [List.map_append,List.map_cons,List.map_nil,List.cons.injEq,and_true] at h ⊢
 obtain ⟨a1,a2,a3,a4,a5,a6,a7,a8⟩ := h
 simp only [ros_omap,rws_omap,slot_map,a1,a2,a3,a4,a5,a6,a7,a8]
 rfl
theorem EG_nmd {b : Int} {n c f k : Nat} {l m : List Int} {nv : Value} {X : AObj} {z : LoopState} {no : Bool} {st : Nat→Int} {e : Nat} (h : (EGrd b n c f nv X z).all (fun o => o.nm tt') = true) : ∀ o ∈ EGd b n c f l m nv X z no k st,o.nm (fun d => decide (d < e) || decide (e≤d)) = true := by
 rw [any_nm rfl]
 exact EG_alld h ros_nm (by cases no <;> rfl) rfl rfl rws_nm
def GrowAtd (b : Int) (n c f : Nat) (l m : List Int) (no : Bool) (st : Nat→Int) (S : LS) (a t : Int) : Prop :=
 Call Try.prog 134 [ptr0 1,newS 12 m.length,vi a,vi t,yv 10] (EGLd b n c f l m no 11 st) fun v H' => v = .bool true∧H' = EGLd b n c f l m S.no 13 S.st ++ [.gone]
theorem EG_objd {b : Int} {n c f k : Nat} {l m : List Int} {no : Bool} {st : Nat→Int} {L : List Nat} {H : Heap} {σ : Nat→Nat} (hσ : σ = fun c => L.getD c 0) (h : (EGrd b n c f laF .gone .ready).map (omap σ) = EGrd b n c f laF .gone .ready)
   (hH : ∀ (c' : Nat) (o : AObj),c' < 11→(EGLd b n c f l m no (σ k) st)[c']? = some o→H[L.getD c' 0]? = some o) (h17 : H[L.getD 12 0]? = some (rws m)) :
   ∀ (c' : Nat) (o : AObj),(EGLd b n c f l m no k st)[c']? = some o→o = .gone∨H[L.getD c' 0]? = some (omap (fun c => L.getD c 0) o) := fun c' o hc => by
 subst hσ
 rcases Nat.lt_or_ge c' 11 with h1 | h1
 · right
   refine hH c' _ h1 ?_
   have := EG_mapd (σ := fun c => L.getD c 0) (b := b) (n := n) (c := c) (f := f) (k := k) (l := l) (m := m) (no := no) (st := st) h
   unfold EGLd at hc ⊢
   rw [← this,List.getElem?_map,hc]; rfl
 · have h2 : c' < 13 := (List.getElem?_eq_some_iff.1 hc).1
   rcases Nat.lt_or_ge c' 12 with h3 | h3
   · obtain rfl : c' = 11 := by omega
     left; cases hc; rfl
   · obtain rfl : c' = 12 := by omega
     right
     have e : o = rws m := by cases hc; rfl
     rw [h17,e,rws_omap]
theorem gr_site1d {b : Int} {n c f : Nat} {l m m2 : List Int} {no : Bool} {st : Nat→Int} {S : LS} {a t : Int} {o18 : AObj} (h : GrowAtd b n c f l m2 no st S a t) :
   Call Try.prog 134 [ptr0 1,newS 14 m2.length,vi a,vi t,yv 10] (EGLd b n c f l m no 11 st ++ [o18,rws m2]) fun v H' => v = .bool true∧H' = EGLd b n c f l m S.no 15 S.st ++ [o18,rws m2,.gone] := by
 have hmap : (EGrd b n c f laF .gone .ready).map (omap (nameL [0,1,2,3,4,5,6,7,8,9,10,11,14] 13 15)) = EGrd b n c f laF .gone .ready := by kernel_rfl
 have hF := EG_mapd (l := l) (m := m2) (k := 13) (no := S.no) (st := S.st) hmap
 have := (Call.frameG (H := EGLd b n c f l m no 11 st ++ [o18,rws m2]) (Et := EGLd b n c f l m2 no 11 st) (Ft := EGLd b n c f l m2 S.no 13 S.st) (N := [.gone]) (L := [0,1,2,3,4,5,6,7,8,9,10,11,14]) (vs := [ptr0 1,newS 14 m2.length,vi a,vi t,yv 10]) rfl rfl (by decide) (getD_lt (by kernel_rfl))
   (EG_objd (σ := fun c => [0,1,2,3,4,5,6,7,8,9,10,11,14].getD c 0) rfl (by kernel_rfl) (fun c' o h1 h2 => by
     rcases c' with _ | _ | _ | _ | _ | _ | _ | _ | _ | _ | _ | _ | _ | _ | _ | _ | c' <;> first | exact h2 | omega) rfl)
   (EG_scNd (N := 13) (show 11 < 13 by omega) (by kernel_rfl)) (by kernel_rfl) (by kernel_rfl) h
   (fun o ho => by
     rcases List.mem_append.1 ho with h1 | h1
     · exact EG_nmd (by kernel_rfl) o h1
     · rw [List.mem_singleton.1 h1]; rfl)
   (fun o ho => by rw [List.mem_singleton.1 ho]; rfl) (by kernel_rfl)
   (fun o ho => by
     rcases List.mem_append.1 ho with h1 | h1
     · have h2 := List.mem_map_of_mem (f := omap (nameL [0,1,2,3,4,5,6,7,8,9,10,11,14] 13 15)) h1
       unfold EGLd at h2
       rw [hF] at h2
       exact EG_scNd (N := 16) (show 15 < 16 by omega) (by kernel_rfl) _ h2
     · rw [List.mem_singleton.1 h1]; rfl) (by kernel_rfl)).1
 refine this.mono fun v H' hh => ⟨hh.1,?_⟩
 rw [hh.2]
 show setG _ _ _ (List.map (omap (nameL [0,1,2,3,4,5,6,7,8,9,10,11,14] 13 15)) (EGd b n c f l m2 laF .gone .ready S.no 13 S.st)) ++ _ = _
 rw [hF]
 kernel_rfl
theorem gr_site2d {b : Int} {n c f : Nat} {l m m2 : List Int} {no : Bool} {st : Nat→Int} {S : LS} {a t : Int} {o18 o19 o21 : AObj} (h : GrowAtd b n c f l m2 no st S a t) :
   Call Try.prog 134 [ptr0 1,newS 17 m2.length,vi a,vi t,yv 10] (EGLd b n c f l m no 15 st ++ [o18,o19,.gone,o21,rws m2]) fun v H' => v = .bool true∧H' = EGLd b n c f l m S.no 18 S.st ++ [o18,o19,.gone,o21,rws m2,.gone] := by
 have hmap : (EGrd b n c f laF .gone .ready).map (omap (nameL [0,1,2,3,4,5,6,7,8,9,10,15,17] 13 18)) = EGrd b n c f laF .gone .ready := by kernel_rfl
 have hF := EG_mapd (l := l) (m := m2) (k := 13) (no := S.no) (st := S.st) hmap
 have := (Call.frameG (H := EGLd b n c f l m no 15 st ++ [o18,o19,.gone,o21,rws m2]) (Et := EGLd b n c f l m2 no 11 st) (Ft := EGLd b n c f l m2 S.no 13 S.st) (N := [.gone]) (L := [0,1,2,3,4,5,6,7,8,9,10,15,17]) (vs := [ptr0 1,newS 17 m2.length,vi a,vi t,yv 10]) rfl rfl (by decide) (getD_lt (by kernel_rfl))
   (EG_objd (σ := fun c => [0,1,2,3,4,5,6,7,8,9,10,15,17].getD c 0) rfl (by kernel_rfl) (fun c' o h1 h2 => by
     rcases c' with _ | _ | _ | _ | _ | _ | _ | _ | _ | _ | _ | _ | _ | _ | _ | _ | c' <;> first | exact h2 | omega) rfl)
   (EG_scNd (N := 13) (show 11 < 13 by omega) (by kernel_rfl)) (by kernel_rfl) (by kernel_rfl) h
   (fun o ho => by
     rcases List.mem_append.1 ho with h1 | h1
     · exact EG_nmd (by kernel_rfl) o h1
     · rw [List.mem_singleton.1 h1]; rfl)
   (fun o ho => by rw [List.mem_singleton.1 ho]; rfl) (by kernel_rfl)
   (fun o ho => by
     rcases List.mem_append.1 ho with h1 | h1
     · have h2 := List.mem_map_of_mem (f := omap (nameL [0,1,2,3,4,5,6,7,8,9,10,15,17] 13 18)) h1
       unfold EGLd at h2
       rw [hF] at h2
       exact EG_scNd (N := 19) (show 18 < 19 by omega) (by kernel_rfl) _ h2
     · rw [List.mem_singleton.1 h1]; rfl) (by kernel_rfl)).1
 refine this.mono fun v H' hh => ⟨hh.1,?_⟩
 rw [hh.2]
 show setG _ _ _ (List.map (omap (nameL [0,1,2,3,4,5,6,7,8,9,10,15,17] 13 18)) (EGd b n c f l m2 laF .gone .ready S.no 13 S.st)) ++ _ = _
 rw [hF]
 kernel_rfl
theorem grCc_okd (b : Int) (n c f : Nat) (l m : List Int) (κ : Nat) (h : ∀ (m2 : List Int) (f1 t1 : Nat) (no : Bool) (st : Nat→Int),Begun n f1 t1 m2→f1 + (n - t1) + 1 = κ→(no = true→st = empI)→GrowAtd b n c f l m2 no st (fdRd b n l no st (rds n (κ - 1) f1 t1 m2)) f1 t1) : CcOk Try.prog (grCcd b n c f l m κ) := by
 intro fn args H T hT Q hQ
 unfold grCcd at hT
 split at hT <;> try (cases hT; done)
 rename_i hf
 obtain rfl := Nat.eq_of_beq_eq_true hf
 split at hT
 · cases hT
   obtain ⟨m2,f1,t1,no,st,o18,hO,hq⟩ := hQ
   obtain ⟨rfl,rfl,h1,h2,h3⟩ := hO.out
   exact (gr_site1d (h m2 f1 t1 no st h1 h2 h3)).mono fun v H' ⟨e1,e2⟩ => by subst e1; subst e2; exact hq
 · split at hT <;> cases hT
   obtain ⟨m2,f1,t1,no,st,o18,o19,o21,hO,hq⟩ := hQ
   obtain ⟨rfl,rfl,h1,h2,h3⟩ := hO.out
   exact (gr_site2d (h m2 f1 t1 no st h1 h2 h3)).mono fun v H' ⟨e1,e2⟩ => by subst e1; subst e2; exact hq
theorem grYc_okd (b : Int) (n c f : Nat) (l m : List Int) (no : Bool) (st : Nat→Int) (hl : l.length = n * 2) (hn : n≤10) (hn1 : 1≤n) (hr : rngP b n l) (hs : no = true→st = empI) : YcOk Try.prog (grYcd b n c f l m no st) := by
 intro b1 args H T hT Q hQ
 unfold grYcd at hT
 split at hT <;> cases hT
 rename_i hb
 obtain rfl := Nat.eq_of_beq_eq_true hb
 obtain ⟨hO,hq⟩ := hQ
 obtain ⟨rfl,rfl,hw⟩ := hO.out
 exact (y2_yieldd b n c f l m no st hl hn hn1 hr (whole_len hw) (whole_mem hw) hs).mono fun v H' ⟨e1,e2⟩ => by subst e1; subst e2; exact hq
theorem grow_god (b : Int) (n c f : Nat) (l : List Int) (hl : l.length = n * 2) (hn : n≤10) (hn1 : 1≤n) (hr : rngP b n l) (κ g t : Nat) (m : List Int) (no : Bool) (st : Nat→Int) (hB : Begun n g t m) (hk : g + (n - t) = κ) (hs : no = true→st = empI) (h : ∀ (m2 : List Int) (f1 t1 : Nat) (no : Bool) (st : Nat→Int),Begun n f1 t1 m2→f1 + (n - t1) + 1 = κ→(no = true→st = empI)→GrowAtd b n c f l m2 no st (fdRd b n l no st (rds n (κ - 1) f1 t1 m2)) f1 t1) : GrowAtd b n c f l m no st (fdRd b n l no st (rds n κ g t m)) g t:= by
 have hv := grV_okd b n c f l m no st κ g t hn hB hk hs
 rw [grVd_eq] at hv
 have hE : VOk Try.prog (grEd b n c f l m no st κ) := ⟨CtOk.none,grCc_okd b n c f l m κ h,grYc_okd b n c f l m no st hl hn hn1 hr hs,orcOr_ok orcLim_ok prE1_ok.orc⟩
 refine Call.anew (Call.mono (Call.ofVc (H := EGLd b n c f l m no 11 st) (args := [ptr0 1,newS 12 m.length,vi g,vi t,yv 10]) hE mixed (c := grBd) (inv := fun _ => none) (R := YRd b n c f l m laF .gone .ready (fdRd b n l no st (rds n κ g t m))) Try.func134 (by kernel_rfl) (cast (by kernel_rfl) hv)) fun v H' hy => ?_)
 exact YR_anewd hy (fun _ => rfl) (fun _ => by kernel_rfl) (fun _ => ⟨by kernel_rfl,by kernel_rfl⟩) rfl (by kernel_rfl) ⟨by kernel_rfl,by kernel_rfl⟩
theorem grow_okd (b : Int) (n c f : Nat) (l : List Int) (hl : l.length = n * 2) (hn : n≤10) (hn1 : 1≤n) (hr : rngP b n l) : ∀ (κ g t : Nat) (m : List Int) (no : Bool) (st : Nat→Int),Begun n g t m→g + (n - t) = κ→(no = true→st = empI) →
   GrowAtd b n c f l m no st (fdRd b n l no st (rds n κ g t m)) g t := by
 intro κ
 induction κ with
 | zero =>
   intro g t m no st hB hk hs
   exact grow_god b n c f l hl hn hn1 hr 0 g t m no st hB hk hs (fun m2 f1 t1 no st _ h _ => by omega)
 | succ κ ih =>
   intro g t m no st hB hk hs
   exact grow_god b n c f l hl hn hn1 hr (κ + 1) g t m no st hB hk hs (fun m2 f1 t1 no st h1 h2 h3 => by
     rw [Nat.add_sub_cancel]
     exact ih f1 t1 m2 no st h1 (by omega) h3)
end Go.Pier.Rd
namespace Go.Pier.Rd
open Go Go.Pier Go.Proofs
noncomputable def EHLd (b : Int) (n c f : Nat) (l : List Int) (no : Bool) (k : Nat) (st : Nat→Int) : Heap := EHd b n c f l laF .gone .ready no k st
noncomputable def g0Ccd (b:Int) (n c f:Nat) (l:List Int) (κ:Nat):Cc := fun fn args H => match Nat.beq fn 134 with
 | true => match Nat.beq H.length 13 with
   | true => some fun Q => ∃ (m2:List Int) (f1 t1:Nat) (no:Bool) (st:Nat→Int) (o16:AObj),Ob (args=[ptr0 1,newS 12 m2.length,vi f1,vi t1,yv 10]∧H=EHLd b n c f l no 11 st++[o16,rws m2]∧Begun n f1 t1 m2∧f1+(n-t1)+1=κ∧(no=true→st=empI)) ∧
       Q (.bool true) (EHLd b n c f l (fdRd b n l no st (rds n (κ-1) f1 t1 m2)).no 13 (fdRd b n l no st (rds n (κ-1) f1 t1 m2)).st++[o16,rws m2,.gone])
   | false => match Nat.beq H.length 16 with
     | true => some fun Q => ∃ (m2:List Int) (f1 t1:Nat) (no:Bool) (st:Nat→Int) (o16 o17 o19:AObj),Ob (args=[ptr0 1,newS 15 m2.length,vi f1,vi t1,yv 10]∧H=EHLd b n c f l no 13 st++[o16,o17,.gone,o19,rws m2]∧Begun n f1 t1 m2∧f1+(n-t1)+1=κ∧(no=true→st=empI)) ∧
         Q (.bool true) (EHLd b n c f l (fdRd b n l no st (rds n (κ-1) f1 t1 m2)).no 16 (fdRd b n l no st (rds n (κ-1) f1 t1 m2)).st++[o16,o17,.gone,o19,rws m2,.gone])
     | false => none
 | false => none
noncomputable def g0Ed (b : Int) (n c f : Nat) (l : List Int) (κ : Nat) : VEnv := { orc := orcOr (orcLim Try.prog) prO,cc := g0Ccd b n c f l κ }
def YR0d (b : Int) (n c f : Nat) (l : List Int) (s : LS) (v : Value) (H' : Heap) : Prop :=
 v = .bool true∧∃ k,H' = EHLd b n c f l s.no k s.st ++ H'.drop 11∧k < H'.length
noncomputable def g0Vd0  : Array Value := { toList := [Value.func (Fn.func (123 : FuncId)) { toList := [] } { toList := [ptr0 2] },Value.func (Fn.func (109 : FuncId)) { toList := [ptr0 1] } { toList := [] },junk,ptr0 3,ptr0 4,ptr0 5,ptr0 6,junk,Value.func (Fn.func (123 : FuncId)) { toList := [] } { toList := [ptr0 2] },junk,junk,junk,junk,junk,junk,junk,junk,junk,junk,junk,junk,junk] }
noncomputable def g0Vd1  : Array Value := { toList := [Value.func (Fn.yield (7 : Nat)) { toList := [] } { toList := [] },ptr0 2,ptr0 8,junk,ptr0 1,Value.func (Fn.func (133 : FuncId)) { toList := [] } { toList := [ptr0 9] },junk,junk,junk,junk,junk,junk,junk] }
noncomputable def g0Vd2 (b:Int) (n:Nat) (c:Nat) (f:Nat) (l:List Int) (κ:Nat) (f1:Nat) (m2:List Int) (no_1:Bool) (o16:AObj) (st_1:Nat→Int) (t1:Nat):List AObj := [AObj.ro (List.map (Value.int IntKind.i64) l),AObj.rw (vi b::Value.slice (some (ad0 0)) n c::vi (f:Int)::B10 (tmd n) []) none,AObj.rw [ptr0 1] none,AObj.rw [Value.func (Fn.func (109:FuncId)) ⟨[ptr0 1]⟩ ⟨[]⟩] none,AObj.rw (Value.slice none 0 0::I10 empI []) none,AObj.rw (slotV (fdRd b n l no_1 st_1 (rds n (κ-1) f1 t1 m2)).no 13 n::I10 ((fdRd b n l no_1 st_1 (rds n (κ-1) f1 t1 m2)).st) []) none,AObj.rw [Value.bool (fdRd b n l no_1 st_1 (rds n (κ-1) f1 t1 m2)).no] none,AObj.loop LoopState.ready none g0Vd0 ⟨[9]⟩ y1_c0 y1_c1,AObj.rw [Value.func (Fn.yield 7) ⟨[]⟩ ⟨[]⟩] none,AObj.rw [ptr0 1] none,AObj.loop LoopState.ready none g0Vd1 ⟨[6]⟩ y1_c4 y1_c5,o16,AObj.rw (List.map (Value.int IntKind.i64) m2) (some 1),AObj.gone]
noncomputable def g0Vd3 (b:Int) (n:Nat) (c:Nat) (f:Nat) (l:List Int) (m2:List Int) (no_1:Bool) (o16:AObj) (st_1:Nat→Int):List AObj := [AObj.ro (List.map (Value.int IntKind.i64) l),AObj.rw (vi b::Value.slice (some (ad0 0)) n c::vi (f:Int)::B10 (tmd n) []) none,AObj.rw [ptr0 1] none,AObj.rw [Value.func (Fn.func (109:FuncId)) ⟨[ptr0 1]⟩ ⟨[]⟩] none,AObj.rw (Value.slice none 0 0::I10 empI []) none,AObj.rw (slotV no_1 11 n::I10 st_1 []) none,AObj.rw [Value.bool no_1] none,AObj.loop LoopState.ready none g0Vd0 ⟨[9]⟩ y1_c0 y1_c1,AObj.rw [Value.func (Fn.yield 7) ⟨[]⟩ ⟨[]⟩] none,AObj.rw [ptr0 1] none,AObj.loop LoopState.ready none g0Vd1 ⟨[6]⟩ y1_c4 y1_c5,o16,AObj.rw (List.map (Value.int IntKind.i64) m2) (some 1)]
noncomputable def g0Vd4  := (andP (some ((0 : Nat) + (1 : Nat)≤(1 : Nat)∧true = true)) ((1 : Nat)≤(1099511627776 : Nat)∧(2064 : Nat)≤(281474976710656 : Nat)∧(1 : Nat) = (1 : Nat)∧(0 : Nat) = (0 : Nat)∧(0 : Nat) < (1 : Nat)))
noncomputable def g0Vd5  : List Value := [Value.func (Fn.func (109 : FuncId)) { toList := [ptr0 1] } { toList := [] }]
noncomputable def g0Vd6  : List Value := [Value.func (Fn.yield (7 : Nat)) { toList := [] } { toList := [] }]
noncomputable def g0Vd7 (b:Int) (n:Nat) (c:Nat) (f:Nat) := (vi b::Value.slice (some (ad0 0)) n c::vi (f:Int)::B10 (tmd n) [])
noncomputable def g0Vd8  := (Value.slice none (0 : Nat) (0 : Nat) :: I10 empI [])
noncomputable def g0Vd9  (f1:Nat) (m2:List Int) (t1:Nat):List Value := [ptr0 1,Value.slice (some ⟨12,0,some 0⟩) m2.length 0,vi (f1:Int),vi (t1:Int),Value.func (Fn.yield 10) ⟨[]⟩ ⟨[]⟩]
noncomputable def g0Vd10 (l:List Int) := (List.map (Value.int IntKind.i64) l)
noncomputable def g0Vd11 (g:Nat) := (IntKind.i64.wrap ((g:Int)-(1:Int)))
noncomputable def g0Vd :=
fun (b:Int) (n c f:Nat) (l:List Int) (no:Bool) (st:Nat→Int) (κ g:Nat)↦(((↑(0:Nat):Int)==(n:Int))=true→False)∧(((↑(0:Nat):Int)==(n:Int))=false→(decide ((0:Int)<(g:Int))=true→Ob g0Vd4∧∃ (m2:List Int),∃ (f1:Nat),∃ (t1:Nat),∃ (no_1:Bool),∃ (st_1:Nat→Int),∃ (o16:AObj),Ob ([ptr0 1,Value.slice (some ⟨12,0,some 0⟩) 1 0,vi (g0Vd11 g),vi (g:Int),Value.func (Fn.yield 10) ⟨[]⟩ ⟨[]⟩]=(g0Vd9 f1 m2 t1)∧[AObj.ro (g0Vd10 l),AObj.rw (g0Vd7 b n c f) none,AObj.rw [ptr0 1] none,AObj.rw g0Vd5 none,AObj.rw g0Vd8 none,AObj.rw (slotV no 11 n::I10 st []) none,AObj.rw [Value.bool no] none,AObj.loop LoopState.ready none g0Vd0 ⟨[9]⟩ y1_c0 y1_c1,AObj.rw g0Vd6 none,AObj.rw [ptr0 1] none,AObj.loop LoopState.ready none g0Vd1 ⟨[6]⟩ y1_c4 y1_c5,AObj.rw [vi (g0Vd11 g)] none,AObj.rw [vi (g0Vd11 g)] (some 1)]=(g0Vd3 b n c f l m2 no_1 o16 st_1)∧Begun n f1 t1 m2∧f1+(n-t1)+1=κ∧(no_1=true→st_1=empI))∧(false=true→True∧Ob (YR0d b n c f l (fdRd b n l no st (rds n κ g g [])) (Value.bool false) (g0Vd2 b n c f l κ f1 m2 no_1 o16 st_1 t1)))∧(false=false→(((g:Int)==(n:Int))=false→Ob g0Vd4∧∃ (m2_1:List Int),∃ (f1_1:Nat),∃ (t1_1:Nat),∃ (no_2:Bool),∃ (st_2:Nat→Int),∃ (o16_1:AObj),∃ (o17:AObj),∃ (o19:AObj),Ob ([ptr0 1,Value.slice (some ⟨15,0,some 0⟩) 1 0,vi (g:Int),vi (IntKind.i64.wrap ((g:Int)+(1:Int))),Value.func (Fn.yield 10) ⟨[]⟩ ⟨[]⟩]=[ptr0 1,Value.slice (some ⟨15,0,some 0⟩) m2_1.length 0,vi (f1_1:Int),vi (t1_1:Int),Value.func (Fn.yield 10) ⟨[]⟩ ⟨[]⟩]∧[AObj.ro (g0Vd10 l),AObj.rw (g0Vd7 b n c f) none,AObj.rw [ptr0 1] none,AObj.rw g0Vd5 none,AObj.rw g0Vd8 none,AObj.rw (slotV (fdRd b n l no_1 st_1 (rds n (κ-1) f1 t1 m2)).no 13 n::I10 ((fdRd b n l no_1 st_1 (rds n (κ-1) f1 t1 m2)).st) []) none,AObj.rw [Value.bool (fdRd b n l no_1 st_1 (rds n (κ-1) f1 t1 m2)).no] none,AObj.loop LoopState.ready none g0Vd0 ⟨[9]⟩ y1_c0 y1_c1,AObj.rw g0Vd6 none,AObj.rw [ptr0 1] none,AObj.loop LoopState.ready none g0Vd1 ⟨[6]⟩ y1_c4 y1_c5,o16,AObj.rw (List.map (Value.int IntKind.i64) m2) (some 1),AObj.gone,AObj.rw [vi (g:Int)] none,AObj.rw [vi (g:Int)] (some 1)]=[AObj.ro (g0Vd10 l),AObj.rw (g0Vd7 b n c f) none,AObj.rw [ptr0 1] none,AObj.rw g0Vd5 none,AObj.rw g0Vd8 none,AObj.rw (slotV no_2 13 n::I10 st_2 []) none,AObj.rw [Value.bool no_2] none,AObj.loop LoopState.ready none g0Vd0 ⟨[9]⟩ y1_c0 y1_c1,AObj.rw g0Vd6 none,AObj.rw [ptr0 1] none,AObj.loop LoopState.ready none g0Vd1 ⟨[6]⟩ y1_c4 y1_c5,o16_1,o17,AObj.gone,o19,AObj.rw (List.map (Value.int IntKind.i64) m2_1) (some 1)]∧Begun n f1_1 t1_1 m2_1∧f1_1+(n-t1_1)+1=κ∧(no_2=true→st_2=empI))∧True∧Ob (YR0d b n c f l (fdRd b n l no st (rds n κ g g [])) (Value.bool true) [AObj.ro (g0Vd10 l),AObj.rw (g0Vd7 b n c f) none,AObj.rw [ptr0 1] none,AObj.rw g0Vd5 none,AObj.rw g0Vd8 none,AObj.rw (slotV (fdRd b n l no_2 st_2 (rds n (κ-1) f1_1 t1_1 m2_1)).no 16 n::I10 ((fdRd b n l no_2 st_2 (rds n (κ-1) f1_1 t1_1 m2_1)).st) []) none,AObj.rw [Value.bool (fdRd b n l no_2 st_2 (rds n (κ-1) f1_1 t1_1 m2_1)).no] none,AObj.loop LoopState.ready none g0Vd0 ⟨[9]⟩ y1_c0 y1_c1,AObj.rw g0Vd6 none,AObj.rw [ptr0 1] none,AObj.loop LoopState.ready none g0Vd1 ⟨[6]⟩ y1_c4 y1_c5,o16_1,o17,AObj.gone,o19,AObj.rw (List.map (Value.int IntKind.i64) m2_1) (some 1),AObj.gone]))∧(((g:Int)==(n:Int))=true→True∧Ob (YR0d b n c f l (fdRd b n l no st (rds n κ g g [])) (Value.bool true) (g0Vd2 b n c f l κ f1 m2 no_1 o16 st_1 t1)))))∧(decide ((0:Int)<(g:Int))=false→(((g:Int)==(n:Int))=false→Ob g0Vd4∧∃ (m2:List Int),∃ (f1:Nat),∃ (t1:Nat),∃ (no_1:Bool),∃ (st_1:Nat→Int),∃ (o16:AObj),Ob ([ptr0 1,Value.slice (some ⟨12,0,some 0⟩) 1 0,vi (g:Int),vi (IntKind.i64.wrap ((g:Int)+(1:Int))),Value.func (Fn.yield 10) ⟨[]⟩ ⟨[]⟩]=(g0Vd9 f1 m2 t1)∧[AObj.ro (g0Vd10 l),AObj.rw (g0Vd7 b n c f) none,AObj.rw [ptr0 1] none,AObj.rw g0Vd5 none,AObj.rw g0Vd8 none,AObj.rw (slotV no 11 n::I10 st []) none,AObj.rw [Value.bool no] none,AObj.loop LoopState.ready none g0Vd0 ⟨[9]⟩ y1_c0 y1_c1,AObj.rw g0Vd6 none,AObj.rw [ptr0 1] none,AObj.loop LoopState.ready none g0Vd1 ⟨[6]⟩ y1_c4 y1_c5,AObj.rw [vi (g:Int)] none,AObj.rw [vi (g:Int)] (some 1)]=(g0Vd3 b n c f l m2 no_1 o16 st_1)∧Begun n f1 t1 m2∧f1+(n-t1)+1=κ∧(no_1=true→st_1=empI))∧True∧Ob (YR0d b n c f l (fdRd b n l no st (rds n κ g g [])) (Value.bool true) (g0Vd2 b n c f l κ f1 m2 no_1 o16 st_1 t1)))∧(((g:Int)==(n:Int))=true→True∧Ob (YR0d b n c f l (fdRd b n l no st (rds n κ g g [])) (Value.bool true) [AObj.ro (g0Vd10 l),AObj.rw (g0Vd7 b n c f) none,AObj.rw [ptr0 1] none,AObj.rw g0Vd5 none,AObj.rw g0Vd8 none,AObj.rw (slotV no 11 n::I10 st []) none,AObj.rw [Value.bool no] none,AObj.loop LoopState.ready none g0Vd0 ⟨[9]⟩ y1_c0 y1_c1,AObj.rw g0Vd6 none,AObj.rw [ptr0 1] none,AObj.loop LoopState.ready none g0Vd1 ⟨[6]⟩ y1_c4 y1_c5]))))
theorem g0Vd_eq : g0Vd = fun (b : Int) (n c f : Nat) (l : List Int) (no : Bool) (st : Nat→Int) (κ g : Nat) => vc Try.prog (g0Ed b n c f l κ) 11 66 true (fun _ => none) grBd [] (argFr 0 [ptr0 1,nilS,vi g,vi g,yv 10]) (EHLd b n c f l no 11 st) (retK Try.prog Try.f134 (YR0d b n c f l (fdRd b n l no st (rds n κ g g [])))) := by kernel_rfl
theorem g0V_okd (b : Int) (n c f : Nat) (l : List Int) (no : Bool) (st : Nat→Int) (κ g : Nat) (hn : n≤10) (hn1 : 1≤n) (hg : g≤n) (hk : g + (n - g) = κ) (hs : no = true→st = empI) : g0Vd b n c f l no st κ g := by
 unfold g0Vd g0Vd11 g0Vd10 g0Vd9 g0Vd8 g0Vd7 g0Vd6 g0Vd5 g0Vd4 g0Vd3 g0Vd2 g0Vd1 g0Vd0
 simp only [SS,reduceCtorEq,Arg.list,Arg.num,Arg.flag,intOf,andP,Nat.reduceLeDiff,Nat.reduceAdd,Nat.reduceMul,Nat.reduceLT,yv,newS]
 have hB := begun_nil hg
 have hk' : κ = (κ - 1) + 1 := by omega
 have w2 : IntKind.i64.wrap ((g : Int) + 1) = ((g + 1 : Nat) : Int) := by rw [wrap_in (by omega) (by omega)]; omega
 refine ⟨fun h => by omega,fun h => ⟨fun hg => ?_,fun hg => ?_⟩⟩
 · have hg' : 0 < g := by omega
   have w1 : IntKind.i64.wrap ((g : Int) - 1) = ((g - 1 : Nat) : Int) := by rw [wrap_in (by omega) (by omega)]; omega
   rw [w1]
   refine ⟨[((g - 1 : Nat) : Int)],g - 1,g,no,st,_,⟨⟨rfl,rfl,rfl⟩,⟨⟨rfl,rfl⟩,rfl,rfl,rfl⟩,hB.left hg',by omega,hs⟩,fun ht => ?_,fun ht => ?_⟩
   · rw [w2]
     have ht' : g < n := by omega
     refine ⟨[(g : Int)],g,g + 1,_,_,_,_,_,⟨⟨rfl,rfl,rfl⟩,⟨⟨rfl,rfl⟩,rfl,rfl,rfl,rfl,rfl⟩,hB.right ht',by omega,fdR_empd hs⟩,?_⟩
     rw [show rds n κ g g [] = rds n (κ - 1) (g - 1) g [((g - 1 : Nat) : Int)] ++ rds n (κ - 1) g (g + 1) [(g : Int)] by conv => lhs; rw [hk',rds,if_pos hg',if_pos ht',List.nil_append,List.nil_append],fdR_appendd]
     exact ⟨rfl,16,by kernel_rfl,by simp⟩
   · have ht' : ¬ g < n := by omega
     rw [show rds n κ g g [] = rds n (κ - 1) (g - 1) g [((g - 1 : Nat) : Int)] by conv => lhs; rw [hk',rds,if_pos hg',if_neg ht',List.append_nil,List.nil_append]]
     exact ⟨rfl,13,by kernel_rfl,by simp⟩
 · have hg' : ¬ 0 < g := by omega
   have ht' : g < n := by omega
   rw [w2]
   refine ⟨fun ht => ⟨[(g : Int)],g,g + 1,no,st,_,⟨⟨rfl,rfl,rfl⟩,⟨⟨rfl,rfl⟩,rfl,rfl,rfl⟩,hB.right ht',by omega,hs⟩,?_⟩,fun ht => by omega⟩
   rw [show rds n κ g g [] = rds n (κ - 1) g (g + 1) [(g : Int)] by conv => lhs; rw [hk',rds,if_neg hg',if_pos ht',List.nil_append,List.nil_append]]
   exact ⟨rfl,13,by kernel_rfl,by simp⟩
theorem g0_site1d {b : Int} {n c f : Nat} {l m2 : List Int} {no : Bool} {st : Nat→Int} {S : LS} {a t : Int} {o16 : AObj} (h : GrowAtd b n c f l m2 no st S a t) :
   Call Try.prog 134 [ptr0 1,newS 12 m2.length,vi a,vi t,yv 10] (EHLd b n c f l no 11 st ++ [o16,rws m2]) fun v H' => v = .bool true∧H' = EHLd b n c f l S.no 13 S.st ++ [o16,rws m2,.gone] := by
 have hmap : (EGrd b n c f laF .gone .ready).map (omap (nameL [0,1,2,3,4,5,6,7,8,9,10,11,12] 13 13)) = EGrd b n c f laF .gone .ready := by kernel_rfl
 have hF := EG_mapd (l := l) (m := m2) (k := 13) (no := S.no) (st := S.st) hmap
 have := (Call.frameG (H := EHLd b n c f l no 11 st ++ [o16,rws m2]) (Et := EGLd b n c f l m2 no 11 st) (Ft := EGLd b n c f l m2 S.no 13 S.st) (N := [.gone]) (L := [0,1,2,3,4,5,6,7,8,9,10,11,12]) (vs := [ptr0 1,newS 12 m2.length,vi a,vi t,yv 10]) rfl rfl (by decide) (getD_lt (by kernel_rfl))
   (EG_objd (σ := fun c => [0,1,2,3,4,5,6,7,8,9,10,11,12].getD c 0) rfl (by kernel_rfl) (fun c' o h1 h2 => by
     rcases c' with _ | _ | _ | _ | _ | _ | _ | _ | _ | _ | _ | _ | _ | _ | _ | _ | c' <;> first | exact h2 | omega) rfl)
   (EG_scNd (N := 13) (show 11 < 13 by omega) (by kernel_rfl)) (by kernel_rfl) (by kernel_rfl) h
   (fun o ho => by
     rcases List.mem_append.1 ho with h1 | h1
     · exact EG_nmd (by kernel_rfl) o h1
     · rw [List.mem_singleton.1 h1]; rfl)
   (fun o ho => by rw [List.mem_singleton.1 ho]; rfl) (by kernel_rfl)
   (fun o ho => by
     rcases List.mem_append.1 ho with h1 | h1
     · have h2 := List.mem_map_of_mem (f := omap (nameL [0,1,2,3,4,5,6,7,8,9,10,11,12] 13 13)) h1
       unfold EGLd at h2
       rw [hF] at h2
       exact EG_scNd (N := 14) (show 13 < 14 by omega) (by kernel_rfl) _ h2
     · rw [List.mem_singleton.1 h1]; rfl) (by kernel_rfl)).1
 refine this.mono fun v H' hh => ⟨hh.1,?_⟩
 rw [hh.2]
 show setG _ _ _ (List.map (omap (nameL [0,1,2,3,4,5,6,7,8,9,10,11,12] 13 13)) (EGd b n c f l m2 laF .gone .ready S.no 13 S.st)) ++ _ = _
 rw [hF]
 kernel_rfl
theorem g0_site2d {b : Int} {n c f : Nat} {l m2 : List Int} {no : Bool} {st : Nat→Int} {S : LS} {a t : Int} {o16 o17 o19 : AObj} (h : GrowAtd b n c f l m2 no st S a t) :
   Call Try.prog 134 [ptr0 1,newS 15 m2.length,vi a,vi t,yv 10] (EHLd b n c f l no 13 st ++ [o16,o17,.gone,o19,rws m2]) fun v H' => v = .bool true∧H' = EHLd b n c f l S.no 16 S.st ++ [o16,o17,.gone,o19,rws m2,.gone] := by
 have hmap : (EGrd b n c f laF .gone .ready).map (omap (nameL [0,1,2,3,4,5,6,7,8,9,10,13,15] 13 16)) = EGrd b n c f laF .gone .ready := by kernel_rfl
 have hF := EG_mapd (l := l) (m := m2) (k := 13) (no := S.no) (st := S.st) hmap
 have := (Call.frameG (H := EHLd b n c f l no 13 st ++ [o16,o17,.gone,o19,rws m2]) (Et := EGLd b n c f l m2 no 11 st) (Ft := EGLd b n c f l m2 S.no 13 S.st) (N := [.gone]) (L := [0,1,2,3,4,5,6,7,8,9,10,13,15]) (vs := [ptr0 1,newS 15 m2.length,vi a,vi t,yv 10]) rfl rfl (by decide) (getD_lt (by kernel_rfl))
   (EG_objd (σ := fun c => [0,1,2,3,4,5,6,7,8,9,10,13,15].getD c 0) rfl (by kernel_rfl) (fun c' o h1 h2 => by
     rcases c' with _ | _ | _ | _ | _ | _ | _ | _ | _ | _ | _ | _ | _ | _ | _ | _ | c' <;> first | exact h2 | omega) rfl)
   (EG_scNd (N := 13) (show 11 < 13 by omega) (by kernel_rfl)) (by kernel_rfl) (by kernel_rfl) h
   (fun o ho => by
     rcases List.mem_append.1 ho with h1 | h1
     · exact EG_nmd (by kernel_rfl) o h1
     · rw [List.mem_singleton.1 h1]; rfl)
   (fun o ho => by rw [List.mem_singleton.1 ho]; rfl) (by kernel_rfl)
   (fun o ho => by
     rcases List.mem_append.1 ho with h1 | h1
     · have h2 := List.mem_map_of_mem (f := omap (nameL [0,1,2,3,4,5,6,7,8,9,10,13,15] 13 16)) h1
       unfold EGLd at h2
       rw [hF] at h2
       exact EG_scNd (N := 17) (show 16 < 17 by omega) (by kernel_rfl) _ h2
     · rw [List.mem_singleton.1 h1]; rfl) (by kernel_rfl)).1
 refine this.mono fun v H' hh => ⟨hh.1,?_⟩
 rw [hh.2]
 show setG _ _ _ (List.map (omap (nameL [0,1,2,3,4,5,6,7,8,9,10,13,15] 13 16)) (EGd b n c f l m2 laF .gone .ready S.no 13 S.st)) ++ _ = _
 rw [hF]
 kernel_rfl
theorem g0Cc_okd (b : Int) (n c f : Nat) (l : List Int) (κ : Nat) (hl : l.length = n * 2) (hn : n≤10) (hn1 : 1≤n) (hr : rngP b n l) : CcOk Try.prog (g0Ccd b n c f l κ) := by
 have h : ∀ (m2 : List Int) (f1 t1 : Nat) (no : Bool) (st : Nat→Int),Begun n f1 t1 m2→f1 + (n - t1) + 1 = κ→(no = true→st = empI)→GrowAtd b n c f l m2 no st (fdRd b n l no st (rds n (κ - 1) f1 t1 m2)) f1 t1 := fun m2 f1 t1 no st h1 h2 h3 => grow_okd b n c f l hl hn hn1 hr (κ - 1) f1 t1 m2 no st h1 (by omega) h3
 intro fn args H T hT Q hQ
 unfold g0Ccd at hT
 split at hT <;> try (cases hT; done)
 rename_i hf
 obtain rfl := Nat.eq_of_beq_eq_true hf
 split at hT
 · cases hT
   obtain ⟨m2,f1,t1,no,st,o16,hO,hq⟩ := hQ
   obtain ⟨rfl,rfl,h1,h2,h3⟩ := hO.out
   exact (g0_site1d (h m2 f1 t1 no st h1 h2 h3)).mono fun v H' ⟨e1,e2⟩ => by subst e1; subst e2; exact hq
 · split at hT <;> cases hT
   obtain ⟨m2,f1,t1,no,st,o16,o17,o19,hO,hq⟩ := hQ
   obtain ⟨rfl,rfl,h1,h2,h3⟩ := hO.out
   exact (g0_site2d (h m2 f1 t1 no st h1 h2 h3)).mono fun v H' ⟨e1,e2⟩ => by subst e1; subst e2; exact hq
def σhd (k b : Nat) : Nat := if b = 11 then k else b
theorem EHL_mapd {σ : Nat→Nat} {b : Int} {n c f k : Nat} {l : List Int} {no : Bool} {st : Nat→Int} (h : (EGrd b n c f laF .gone .ready).map (omap σ) = EGrd b n c f laF .gone .ready) :
   (EHLd b n c f l no k st).map (omap σ) = EHLd b n c f l no (σ k) st := by
 have := EG_mapd (σ := σ) (b := b) (n := n) (c := c) (f := f) (k := k) (l := l) (m := []) (no := no) (st := st) h
 have h2 := congrArg (List.take 11) this
 exact h2
theorem EHL_scd {b : Int} {n c f k N : Nat} {l : List Int} {no : Bool} {st : Nat→Int} (hk : k < N) (h : (EGrd b n c f laF .gone .ready).all (AObj.sc N) = true) : ∀ o ∈ EHLd b n c f l no k st,o.sc N = true := fun o ho =>
 EG_scNd (l := l) (m := []) (no := no) (st := st) hk h o (List.mem_append_left _ ho)
theorem EHL_lend {b : Int} {n c f k : Nat} {l : List Int} {no : Bool} {st : Nat→Int} : (EHLd b n c f l no k st).length = 11 := rfl
theorem YR0_anewd {b : Int} {n c f : Nat} {l : List Int} {s : LS} {v : Value} {H' : Heap} (h : YR0d b n c f l s v H') :
   ∃ σ v2 H2,Anew 11 σ H' H2∧v = nmap σ v2∧sc H2.length v2 = true∧(v2 = .bool true∧H2 = EHLd b n c f l s.no 11 s.st ++ [.gone]) := by
 obtain ⟨rfl,k,he,hk⟩ := h
 have hm := EHL_mapd (σ := σhd k) (b := b) (n := n) (c := c) (f := f) (k := 11) (l := l) (no := s.no) (st := s.st) (by kernel_rfl)
 have hl : (EHLd b n c f l s.no 11 s.st ++ [AObj.gone]).length = 12 := rfl
 have g16 : (EHLd b n c f l s.no 11 s.st ++ [AObj.gone])[11]? = some .gone := rfl
 refine ⟨σhd k,.bool true,_,⟨?_,fun b' hb => ?_,fun b' o hb => ?_,fun b1 b2 o h1 h2 h3 h4 h5 h6 => ?_,fun b' o hb => ?_⟩,rfl,rfl,rfl,rfl⟩
 · rw [hl]; omega
 · unfold σhd; rw [if_neg (by omega)]
 · rcases Nat.lt_or_ge b' 11 with h1 | h1
   · right
     rw [List.getElem?_append_left (by rw [EHL_lend]; exact h1)] at hb
     rw [he,show σhd k b' = b' by unfold σhd; rw [if_neg (by omega)],List.getElem?_append_left (by rw [EHL_lend]; exact h1),show k = σhd k 11 from rfl,← hm,List.getElem?_map,hb]
     rfl
   · left
     have h2 := (List.getElem?_eq_some_iff.1 hb).1
     rw [hl] at h2
     obtain rfl : b' = 11 := by omega
     rw [g16] at hb
     exact (Option.some.inj hb).symm
 · rw [hl] at h1 h2
   have n1 : b1 ≠ 11 := fun e => by subst e; rw [g16] at h3; cases h3; exact h4 rfl
   have n2 : b2 ≠ 11 := fun e => by
     subst e
     rcases h5 with h5 | h5
     · exact h5 g16
     · omega
   unfold σhd at h6
   rw [if_neg n1,if_neg n2] at h6
   exact h6
 · rw [hl]
   rcases List.mem_append.1 (List.mem_of_getElem? hb) with h1 | h1
   · exact EHL_scd (show 11 < 12 by omega) (by kernel_rfl) o h1
   · rw [List.mem_singleton.1 h1]; rfl
theorem grow0_okd (b : Int) (n c f : Nat) (l : List Int) (hl : l.length = n * 2) (hn : n≤10) (hn1 : 1≤n) (hr : rngP b n l) (no : Bool) (st : Nat→Int) (κ g : Nat) (hg : g≤n) (hk : g + (n - g) = κ) (hs : no = true→st = empI) :
   Call Try.prog 134 [ptr0 1,nilS,vi g,vi g,yv 10] (EHLd b n c f l no 11 st) fun v H' => v = .bool true∧H' = EHLd b n c f l (fdRd b n l no st (rds n κ g g [])).no 11 (fdRd b n l no st (rds n κ g g [])).st ++ [.gone] := by
 have hv := g0V_okd b n c f l no st κ g hn hn1 hg hk hs
 rw [g0Vd_eq] at hv
 have hE : VOk Try.prog (g0Ed b n c f l κ) := ⟨CtOk.none,g0Cc_okd b n c f l κ hl hn hn1 hr,E0_ok.yc,orcOr_ok orcLim_ok prE1_ok.orc⟩
 refine Call.anew (Call.mono (Call.ofVc (H := EHLd b n c f l no 11 st) (args := [ptr0 1,nilS,vi g,vi g,yv 10]) hE mixed (c := grBd) (inv := fun _ => none) (R := YR0d b n c f l (fdRd b n l no st (rds n κ g g []))) Try.func134 (by kernel_rfl) (cast (by kernel_rfl) hv)) fun v H' hy => ?_)
 exact YR0_anewd hy
end Go.Pier.Rd
namespace Go.Pier.Rd
open Go Go.Pier Go.Proofs
noncomputable def dlL (b : Int) (n f : Nat) (l : List Int) : LS := fdRd b n l true empI (rds n n f f [])
noncomputable def g1Ctd (b : Int) (n c f : Nat) (l : List Int) (S : LS) : Ct := fun fn args H => match Nat.beq fn 134 with
 | true => some (some (args = [ptr0 1,nilS,vi f,vi f,yv 10]∧H = EHLd b n c f l true 11 empI),.bool true,EHLd b n c f l S.no 11 S.st ++ [.gone],[5,6])
 | false => none
noncomputable def ls1Ed (b : Int) (n c f : Nat) (l : List Int) (S : LS) : VEnv := { ct := g1Ctd b n c f l S,orc := prO }
noncomputable def ls2Ed (b : Int) (n c f : Nat) (l : List Int) (S : LS) : VEnv := { orc := prO,cc := ccIn Try.prog (ls1Ed b n c f l S) [⟨133,Try.f133,fun _ _ _ => none⟩,⟨124,Try.f124,fun _ _ _ => none⟩] }
noncomputable def ls3Ed (b : Int) (n c f : Nat) (l : List Int) (S : LS) : VEnv := { orc := prO,cc := ccIn Try.prog (ls2Ed b n c f l S) [⟨123,Try.f123,fun _ _ _ => none⟩] }
def B3 (b : Int) (n c f : Nat) (l : List Int) : Heap := [ros l,.rw (walkC b n c f (tmd n)) none,.rw [ptr0 1] none]
def LRd (b : Int) (n c f : Nat) (l : List Int) (s : LS) (v : Value) (H' : Heap) : Prop := ∃ k,v = .agg (slotV s.no k n :: I10 s.st []).toArray∧H' = B3 b n c f l ++ H'.drop 3∧k < H'.length
noncomputable def lsWd0  : Array Value := { toList := [Value.func (Fn.func (123 : FuncId)) { toList := [] } { toList := [ptr0 2] },Value.func (Fn.func (109 : FuncId)) { toList := [ptr0 1] } { toList := [] },junk,ptr0 3,ptr0 4,ptr0 5,ptr0 6,junk,Value.func (Fn.func (123 : FuncId)) { toList := [] } { toList := [ptr0 2] },junk,junk,junk,junk,junk,junk,junk,junk,junk,junk,junk,junk,junk] }
noncomputable def lsWd1 (n:Nat) (st:Nat→Int) := (Value.slice (some ⟨11,0,some 0⟩) n 0::I10 st [])
noncomputable def lsWd2  : List Value := [Value.func (Fn.func (109 : FuncId)) { toList := [ptr0 1] } { toList := [] }]
noncomputable def lsWd3  := (Value.slice none (0 : Nat) (0 : Nat) :: I10 empI [])
noncomputable def lsWd4 (f:Nat):List Value := [ptr0 1,Value.slice none 0 0,vi (f:Int),vi (f:Int),Value.func (Fn.yield 10) ⟨[]⟩ ⟨[]⟩]
noncomputable def lsWd5  : List Value := [Value.func (Fn.yield (7 : Nat)) { toList := [] } { toList := [] }]
noncomputable def lsWd6 (b:Int) (n:Nat) (c:Nat) (f:Nat) := (vi b::Value.slice (some (ad0 0)) n c::vi (f:Int)::B10 (tmd n) [])
noncomputable def lsWd :=
fun (b:Int) (n c f:Nat) (l:List Int) (st:Nat→Int)↦Ob (some (Value.bool false)=some (Value.bool false)∧some 1=some 1)∧Ob (some (vi (f:Int))=some (vi (f:Int)))∧Ob (some (vi (f:Int))=some (vi (f:Int)))∧Ob ((lsWd4 f)=(lsWd4 f)∧[AObj.ro (List.map (Value.int IntKind.i64) l),AObj.rw (lsWd6 b n c f) none,AObj.rw [ptr0 1] none,AObj.rw lsWd2 none,AObj.rw lsWd3 none,AObj.rw lsWd3 none,AObj.rw [Value.bool true] none,AObj.loop LoopState.ready none lsWd0 ⟨[9]⟩ y1_c0 y1_c1,AObj.rw lsWd5 none,AObj.rw [ptr0 1] none,AObj.loop LoopState.ready none ⟨[Value.func (Fn.yield 7) ⟨[]⟩ ⟨[]⟩,ptr0 2,ptr0 8,junk,ptr0 1,Value.func (Fn.func 133) ⟨[]⟩ ⟨[ptr0 9]⟩,junk,junk,junk,junk,junk,junk,junk]⟩ ⟨[6]⟩ y1_c4 y1_c5]=[AObj.ro (List.map (Value.int IntKind.i64) l),AObj.rw (lsWd6 b n c f) none,AObj.rw [ptr0 1] none,AObj.rw lsWd2 none,AObj.rw lsWd3 none,AObj.rw lsWd3 none,AObj.rw [Value.bool true] none,AObj.loop LoopState.ready none lsWd0 ⟨[9]⟩ y1_c0 y1_c1,AObj.rw lsWd5 none,AObj.rw [ptr0 1] none,AObj.loop LoopState.ready none ⟨[Value.func (Fn.yield 7) ⟨[]⟩ ⟨[]⟩,ptr0 2,ptr0 8,junk,ptr0 1,Value.func (Fn.func (133:FuncId)) ⟨[]⟩ ⟨[ptr0 9]⟩,junk,junk,junk,junk,junk,junk,junk]⟩ ⟨[6]⟩ y1_c4 y1_c5])∧Ob (0+11≤11)∧True∧Ob (LRd b n c f l { no := false,st := st } (Value.agg { toList := (lsWd1 n st) }) [AObj.ro (List.map (Value.int IntKind.i64) l),AObj.rw (lsWd6 b n c f) none,AObj.rw [ptr0 1] none,AObj.rw lsWd2 none,AObj.rw (lsWd1 n st) none,AObj.rw (lsWd1 n st) none,AObj.rw [Value.bool false] none,AObj.gone,AObj.rw lsWd5 none,AObj.rw [ptr0 1] none,AObj.gone,AObj.gone])
theorem lsWd_eq : lsWd = fun (b : Int) (n c f : Nat) (l : List Int) (st : Nat→Int) => vc Try.prog (ls3Ed b n c f l ⟨false,st⟩) 3 22 true (fun _ => none) lsB [] (argFr 0 [tripsF,laF]) (B3 b n c f l) (retK Try.prog Try.f102 (LRd b n c f l ⟨false,st⟩)) := by kernel_rfl
theorem lsWd_ok (b : Int) (n c f : Nat) (l : List Int) (st : Nat→Int) : lsWd b n c f l st := by
 unfold lsWd lsWd6 lsWd5 lsWd4 lsWd3 lsWd2 lsWd1 lsWd0
 simp only [SS,reduceCtorEq,Arg.list,Arg.num,Arg.flag,intOf,andP,Nat.reduceLeDiff,Nat.reduceAdd,Nat.reduceMul,Nat.reduceLT,yv]
 exact ⟨11,by kernel_rfl,by kernel_rfl,by simp⟩
theorem g1Ctd_ok (b : Int) (n c f : Nat) (l : List Int) (S : LS) (hl : l.length = n * 2) (hn : n≤10) (hr : rngP b n l) (hn1 : 1≤n) (hf : f≤n) (hS : S = dlL b n f l) : CtOk Try.prog (g1Ctd b n c f l S) := by
 intro fn args H φ v H' lg h hφ
 unfold g1Ctd at h
 split at h <;> cases h
 rename_i hb
 obtain rfl := Nat.eq_of_beq_eq_true hb
 obtain ⟨rfl,rfl⟩ := hφ
 subst hS
 refine ⟨grow0_okd b n c f l hl hn hn1 hr true empI n f hf (by omega) (fun _ => rfl),by rw [List.length_append,EHL_lend,EHL_lend]; omega,fun b1 h4 h5 => ?_⟩
 rw [EHL_lend] at h4
 rw [List.getElem?_append_left (by rw [EHL_lend]; exact h4)]
 have h8 : b1 ≠ 5 := fun e => h5 (by subst e; simp)
 have h9 : b1 ≠ 6 := fun e => h5 (by subst e; simp)
 unfold EHLd EHd
 rcases b1 with _ | _ | _ | _ | _ | _ | _ | _ | _ | _ | _ | b1 <;> first | rfl | omega
theorem ls3Ed_ok (b : Int) (n c f : Nat) (l : List Int) (S : LS) (hl : l.length = n * 2) (hn : n≤10) (hr : rngP b n l) (hn1 : 1≤n) (hf : f≤n) (hS : S = dlL b n f l) : VOk Try.prog (ls3Ed b n c f l S) := by
 have h1 : VOk Try.prog (ls1Ed b n c f l S) := ⟨g1Ctd_ok b n c f l S hl hn hr hn1 hf hS,E0_ok.cc,E0_ok.yc,prE1_ok.orc⟩
 have h2 : VOk Try.prog (ls2Ed b n c f l S) := ⟨CtOk.none,ccIn_ok h1 mixed (inl_two Try.func133 Try.func124),E0_ok.yc,prE1_ok.orc⟩
 exact ⟨CtOk.none,ccIn_ok h2 mixed (inl_one Try.func123),E0_ok.yc,prE1_ok.orc⟩
def σ3 (k b : Nat) : Nat := if b = 3 then k else b
theorem B3_at {σ : Nat→Nat} {b : Int} {n c f : Nat} {l : List Int} (h0 : σ 0 = 0) : (B3 b n c f l).map (omap σ) = [ros l,.rw (walkC b n c f (tmd n)) none,.rw [ptr0 (σ 1)] none] := by
 unfold B3
 simp only [List.map_cons,List.map_nil,ros_omap,walk_omap h0]
 rfl
theorem B3_sc {b : Int} {n c f : Nat} {l : List Int} : ∀ o ∈ B3 b n c f l,o.sc 3 = true := by
 refine List.all_eq_true.1 ?_
 unfold B3
 simp only [List.all_cons,List.all_nil,ros_sc,Bool.and_true,Bool.true_and]
 kernel_rfl
theorem LRd_anew {b : Int} {n c f : Nat} {l : List Int} {s : LS} {v : Value} {H' : Heap} (h : LRd b n c f l s v H') :
   ∃ σ v2 H2,Anew 3 σ H' H2∧v = nmap σ v2∧sc H2.length v2 = true∧(v2 = .agg (slotV s.no 3 n :: I10 s.st []).toArray∧H2 = B3 b n c f l ++ [.gone]) := by
 obtain ⟨k,rfl,he,hk⟩ := h
 have hl : (B3 b n c f l ++ [AObj.gone]).length = 4 := rfl
 have hb3 : (B3 b n c f l).length = 3 := rfl
 have g3 : (B3 b n c f l ++ [AObj.gone])[3]? = some .gone := rfl
 have hm : (B3 b n c f l).map (omap (σ3 k)) = B3 b n c f l := B3_at rfl
 refine ⟨σ3 k,_,_,⟨?_,fun b' hb => ?_,fun b' o hb => ?_,fun b1 b2 o h1 h2 h3 h4 h5 h6 => ?_,fun b' o hb => ?_⟩,?_,agg_slot_sc (show 3 < 4 by omega),rfl,rfl⟩
 · rw [hl]; omega
 · unfold σ3; rw [if_neg (by omega)]
 · rcases Nat.lt_or_ge b' 3 with h1 | h1
   · right
     rw [List.getElem?_append_left (by rw [hb3]; exact h1)] at hb
     rw [he,show σ3 k b' = b' by unfold σ3; rw [if_neg (by omega)],List.getElem?_append_left (by rw [hb3]; exact h1),← hm,List.getElem?_map,hb]
     rfl
   · left
     have h2 := (List.getElem?_eq_some_iff.1 hb).1
     rw [hl] at h2
     obtain rfl : b' = 3 := by omega
     rw [g3] at hb
     exact (Option.some.inj hb).symm
 · rw [hl] at h1 h2
   have n1 : b1 ≠ 3 := fun e => by subst e; rw [g3] at h3; cases h3; exact h4 rfl
   have n2 : b2 ≠ 3 := fun e => by
     subst e
     rcases h5 with h5 | h5
     · exact h5 g3
     · omega
   unfold σ3 at h6
   rw [if_neg n1,if_neg n2] at h6
   exact h6
 · rw [hl]
   rcases List.mem_append.1 (List.mem_of_getElem? hb) with h1 | h1
   · exact AObj.sc_mono (by omega) (B3_sc o h1)
   · rw [List.mem_singleton.1 h1]; rfl
 · rw [agg_slot]; rfl
theorem rds_some {n : Nat} : ∀ (k f t : Nat) (m : List Int),f + (n - t) = k→rds n k f t m ≠ []
 | 0,_,_,m,_ => by simp [rds]
 | k + 1,f,t,m,h => by
   rw [rds]
   intro e
   obtain ⟨e1,e2⟩ := List.append_eq_nil_iff.1 e
   by_cases hf : 0 < f
   · rw [if_pos hf] at e1
     exact rds_some k (f - 1) t _ (by omega) e1
   · rw [if_pos (by omega)] at e2
     exact rds_some k f (t + 1) _ (by omega) e2
theorem stepA_no {N : (Nat→Int)→Int} {n : Nat} {l : List Int} {s : LS} {x : Nat→Int} : (stepL (inA n l) N s x).no = false := by
 unfold stepL inA
 cases hs : s.no with
 | true => rfl
 | false =>
   cases hd : decide (N x < N s.st) with
   | true => rfl
   | false => exact hs
theorem foldA_no {b : Int} {l : List Int} {n : Nat} {N : (Nat→Int)→Int} : ∀ (r : List (List Int)) (s : LS),s.no = false∨r ≠ []→(foldR b l (inA n l) N s r).no = false
 | [],s,h => by
   rcases h with h | h
   · exact h
   · exact absurd rfl h
 | m :: r,s,_ => foldA_no r _ (.inl stepA_no)
theorem dlL_no {b : Int} {n f : Nat} {l : List Int} (hf : f≤n) : (dlL b n f l).no = false := foldA_no _ _ (.inr (rds_some n f f [] (by omega)))
theorem leastd_ok (b : Int) (n c f : Nat) (l : List Int) (hl : l.length = n * 2) (hn : n≤10) (hr : rngP b n l) (hn1 : 1≤n) (hf : f≤n) :
   Call Try.prog 102 [tripsF,laF] (B3 b n c f l) fun v H' => v = .agg (newS 3 n :: I10 (dlL b n f l).st []).toArray∧H' = B3 b n c f l ++ [.gone] := by
 have e := dlL_no (b := b) (n := n) (f := f) (l := l) hf
 generalize hS : dlL b n f l = S at *
 have hE := ls3Ed_ok b n c f l S hl hn hr hn1 hf hS.symm
 obtain ⟨no,st⟩ := S
 obtain rfl : no = false := e
 refine Call.anew (Call.mono (Q := LRd b n c f l ⟨false,st⟩) ?_ fun v H' hy => LRd_anew hy)
 have h := lsWd_ok b n c f l st
 rw [lsWd_eq] at h
 exact Call.ofVc (H := B3 b n c f l) (args := [tripsF,laF]) hE mixed (c := lsB) (inv := fun _ => none) (R := LRd b n c f l ⟨false,st⟩) Try.func102 (by kernel_rfl) (cast (by kernel_rfl) h)
end Go.Pier.Rd
namespace Go.Pier.Rd
open Go Go.Pier Go.Proofs
noncomputable def leastdCc (b:Int) (n c f:Nat) (l:List Int) (st:Nat→Int):Cc := fun fn args H => match Nat.beq fn 102 with
 | true => match args with
   | [.func (.func 123) ⟨[]⟩ ⟨[.pointer (some ⟨x,0,none⟩)]⟩,.func (.func 109) ⟨[.pointer (some ⟨w,0,none⟩)]⟩ ⟨[]⟩] => match nodupB [0,w,x] with
     | true => some fun Q => Ob (H[0]?=some (ros l)∧H[w]?=some (.rw (walkC b n c f (tmd n)) none)∧H[x]?=some (.rw [ptr0 w] none))∧Q (.agg (newS H.length n::I10 st []).toArray) (H++[.gone])
     | false => none
   | _ => none
 | false => none
noncomputable def laCc (b:Int) (n c f:Nat) (l:List Int):Cc := fun fn args H => match Nat.beq fn 109 with
 | true => match args with
   | [.pointer (some ⟨w,0,none⟩),.agg ⟨[.slice (some ⟨k,0,some 0⟩) _ 0,.int .i64 a0,.int .i64 a1,.int .i64 a2,.int .i64 a3,.int .i64 a4,.int .i64 a5,.int .i64 a6,.int .i64 a7,.int .i64 a8,.int .i64 a9]⟩] => match nodupB [0,w,k] with
     | true => some fun Q => Ob (H[0]?=some (ros l)∧H[w]?=some (.rw (walkC b n c f (tmd n)) none)∧l.length=n * 2∧n≤10∧1≤n)∧Q (vi (ltN l (l10 a0 a1 a2 a3 a4 a5 a6 a7 a8 a9) n)) H
     | false => none
   | _ => none
 | false => none
noncomputable def dlE1 (b : Int) (n c : Nat) (l : List Int) (st : Nat→Int) : VEnv := { ct := prT,orc := prO,cc := ccOr (leastdCc b n c (lg b l n) l st) (ccOr (laCc b n c (lg b l n) l) (ccIn Try.prog prE1 [⟨106,Try.f106,fun _ _ _ => none⟩])) }
noncomputable def dlE2 (b : Int) (n c : Nat) (l : List Int) (st : Nat→Int) : VEnv := { ct := prT,orc := prO,cc := ccIn Try.prog (dlE1 b n c l st) [⟨74,Try.f74,fun _ _ _ => none⟩,⟨57,Try.f57,inv57 b n c l⟩] }
noncomputable def dlB : Code := Try.f33.body.getD .skip
noncomputable def dlV0  (x:Nat) := (0+3+(x:Int).toNat * 1)
noncomputable def dlV1 (b:Int) (n:Nat) (c:Nat) (l:List Int) (x:Nat):List Value := [vi b,Value.slice (some (ad0 0)) n c,vi (↑(lg b l x):Int),Value.bool (bif Nat.beq 3 (dlV0 x) then true else tmd x 0),Value.bool (bif Nat.beq 4 (dlV0 x) then true else tmd x 1),Value.bool (bif Nat.beq 5 (dlV0 x) then true else tmd x 2),Value.bool (bif Nat.beq 6 (dlV0 x) then true else tmd x 3),Value.bool (bif Nat.beq 7 (dlV0 x) then true else tmd x 4),Value.bool (bif Nat.beq 8 (dlV0 x) then true else tmd x 5),Value.bool (bif Nat.beq 9 (dlV0 x) then true else tmd x 6),Value.bool (bif Nat.beq 10 (dlV0 x) then true else tmd x 7),Value.bool (bif Nat.beq 11 (dlV0 x) then true else tmd x 8),Value.bool (bif Nat.beq 12 (dlV0 x) then true else tmd x 9)]
noncomputable def dlV2 (l:List Int) := (List.map (Value.int IntKind.i64) l)
noncomputable def dlV3 (b:Int) (n:Nat) (c:Nat):Prop := (AObj.rw [vi b,Value.slice (some (ad0 0)) n c] none=AObj.rw [vi b,Value.slice (some (ad0 0)) n c] none∧true=true)
noncomputable def dlV4  : Prop := (Value.pointer (some { block := (2 : Nat) + (1 : Nat),off := (0 : Nat),spot := none }) = Value.pointer (some { block := (2 : Nat) + (1 : Nat),off := (0 : Nat),spot := none }))
noncomputable def dlV5  (x:Nat) := (0+(x:Int).toNat * 2)
noncomputable def dlV6  := (AObj.rw [Value.pointer (some { block := (2 : Nat) + (1 : Nat),off := (0 : Nat),spot := none })] none)
noncomputable def dlV7 (b:Int) (n:Nat) (c:Nat) (l:List Int) (y:Nat) := (vi b::Value.slice (some (ad0 0)) n c::vi (↑(lg b l y):Int)::B10 (tmd y) [])
noncomputable def dlV8 (b:Int) (n:Nat) (c:Nat) (l:List Int) (x:Nat) := (vi b::Value.slice (some (ad0 0)) n c::vi (↑(lg b l x):Int)::B10 (tmd x) [])
noncomputable def dlV9 (n:Nat) (c:Nat):Prop := (Value.slice (some (ad0 0)) n c=Value.slice (some (ad0 0)) n c)
noncomputable def dlV :=
fun (b:Int) (n c:Nat) (l:List Int) (st:Nat→Int)↦Ob ((true=true∧Flat (dlV2 l))∧okL (Leaf.view (dlV2 l) n false))∧((errP b n (intsOf (dlV2 l)) !=(0:Int))=true→((errP b n (intsOf (dlV2 l)) !=(0:Int))=true→True∧Ob (Value.tuple ⟨[vi (0:Int),vi (errP b n (intsOf (dlV2 l)))]⟩=Value.tuple ⟨[vi (ltN l st n),vi (0:Int)]⟩))∧((errP b n (intsOf (dlV2 l)) !=(0:Int))=false→False))∧((errP b n (intsOf (dlV2 l)) !=(0:Int))=false→(∃ (y:Nat),Ob (y≤n)∧(Ob (AObj.ro (dlV2 l)=AObj.ro (List.map (nmap1 fun (bq:Nat)↦bq) (dlV2 l))∧AObj.sc 4 (AObj.ro (dlV2 l))=true)∧Ob (dlV3 b n c)∧Ob (dlV3 b n c)∧Ob (AObj.rw (vi b::Value.slice (some (ad0 0)) n c::vi (0:Int)::B10 empB []) none=AObj.rw (dlV7 b n c l y) none∧true=true)∧True)∧Ob (ptr0 3=ptr0 3)∧Ob (dlV9 n c)∧Ob ((n:Int)=(n:Int))∧Ob ((0:Int)=(y:Int))∧True)∧∀ (x:Nat),Ob (x≤n)→(decide ((x:Int)<(n:Int))=true→Ob ((0:Int)≤(x:Int)∧(x:Int)<(n:Int)∧true=true)∧Ob (ckAsk [CK.i IntKind.i64,CK.i IntKind.i64] (dlV2 l) (dlV5 x))∧Ob (0+2≤2)∧Ob ((0:Int)≤(x:Int)∧(x:Int)<(↑(10:Nat):Int))∧Ob (BoolAt (dlV8 b n c l x) (dlV0 x)∧some 1=some 1)∧Ob (some (vi (getI (dlV2 l) (dlV5 x)))=some (vi (getI (dlV2 l) (dlV5 x))))∧Ob (some (vi b)=some (vi b))∧(decide (getI (dlV2 l) (dlV5 x)<b)=true→Ob (IntAt IntKind.i64 (dlV1 b n c l x) (0+2)∧some 1=some 1)∧∃ (y:Nat),Ob (y≤n)∧Ob (n-y<n-x)∧(Ob (AObj.ro (dlV2 l)=AObj.ro (List.map (nmap1 fun (bqq:Nat)↦bqq) (dlV2 l))∧AObj.sc 4 (AObj.ro (dlV2 l))=true)∧Ob (dlV3 b n c)∧Ob (dlV3 b n c)∧Ob (AObj.rw [vi (bif false then IntKind.i64.wrap ((x:Int)+(1:Int)) else b),Value.slice (some (ad0 0)) n c,vi (bif true then IntKind.i64.wrap ((x:Int)+(1:Int)) else (↑(lg b l x):Int)),Value.bool (bif Nat.beq 3 (dlV0 x) then true else tmd x 0),Value.bool (bif Nat.beq 4 (dlV0 x) then true else tmd x 1),Value.bool (bif Nat.beq 5 (dlV0 x) then true else tmd x 2),Value.bool (bif Nat.beq 6 (dlV0 x) then true else tmd x 3),Value.bool (bif Nat.beq 7 (dlV0 x) then true else tmd x 4),Value.bool (bif Nat.beq 8 (dlV0 x) then true else tmd x 5),Value.bool (bif Nat.beq 9 (dlV0 x) then true else tmd x 6),Value.bool (bif Nat.beq 10 (dlV0 x) then true else tmd x 7),Value.bool (bif Nat.beq 11 (dlV0 x) then true else tmd x 8),Value.bool (bif Nat.beq 12 (dlV0 x) then true else tmd x 9)] none=AObj.rw (dlV7 b n c l y) none∧true=true)∧True)∧Ob dlV4∧Ob (dlV9 n c)∧Ob ((n:Int)=(n:Int))∧Ob (IntKind.i64.wrap ((x:Int)+(1:Int))=(y:Int))∧True)∧(decide (getI (dlV2 l) (dlV5 x)<b)=false→∃ (y:Nat),Ob (y≤n)∧Ob (n-y<n-x)∧(Ob (AObj.ro (dlV2 l)=AObj.ro (List.map (nmap1 fun (bqqq:Nat)↦bqqq) (dlV2 l))∧AObj.sc 4 (AObj.ro (dlV2 l))=true)∧Ob (dlV3 b n c)∧Ob (dlV3 b n c)∧Ob (AObj.rw (dlV1 b n c l x) none=AObj.rw (dlV7 b n c l y) none∧true=true)∧True)∧Ob dlV4∧Ob (dlV9 n c)∧Ob ((n:Int)=(n:Int))∧Ob (IntKind.i64.wrap ((x:Int)+(1:Int))=(y:Int))∧True))∧(decide ((x:Int)<(n:Int))=false→(false=true→True∧Ob (Value.tuple ⟨[vi (0:Int),vi (0:Int)]⟩=Value.tuple ⟨[vi (ltN l st n),vi (0:Int)]⟩))∧(false=false→Ob (some (AObj.ro (dlV2 l))=some (AObj.ro (dlV2 l))∧some (AObj.rw (dlV8 b n c l x) none)=some (AObj.rw (vi b::Value.slice (some (ad0 0)) n c::vi (↑(lg b l n):Int)::B10 (tmd n) []) none)∧some dlV6=some dlV6)∧Ob (some (AObj.ro (dlV2 l))=some (AObj.ro (dlV2 l))∧some (AObj.rw (dlV8 b n c l x) none)=some (AObj.rw (vi b::Value.slice (some (ad0 0)) n c::vi (↑(lg b l n):Int)::B10 (tmd n) []) none)∧l.length=n * 2∧n≤10∧1≤n)∧True∧Ob (Value.tuple ⟨[vi (ltN l (l10 (st 0) (st 1) (st 2) (st 3) (st 4) (st 5) (st 6) (st 7) (st 8) (st 9)) n),vi (0:Int)]⟩=Value.tuple ⟨[vi (ltN l st n),vi (0:Int)]⟩))))
theorem dlV_eq : dlV = fun (b : Int) (n c : Nat) (l : List Int) (st : Nat→Int) => vc Try.prog (dlE2 b n c l st) 1 16 true (fun _ => none) dlB [] (argFr 0 [pierV b (some ⟨0,0,none⟩) n c]) [ros l] (retK Try.prog Try.f33 (fun v _ => v = .tuple #[vi (ltN l st n),vi 0])) := by kernel_rfl
theorem dlV_ok (b : Int) (n c : Nat) (l : List Int) (st : Nat→Int) (hl : l.length = n * 2) (hP : errP b n l = 0) : dlV b n c l st := by
 have hn : n≤1000000 := by have := (errP_cases hP).1; omega
 have fo : Flat (List.map (Value.int .i64) l)∧okL (.view (List.map (Value.int .i64) l) n false) := ⟨flat_ints,okL_ints hl hn⟩
 unfold dlV dlV9 dlV8 dlV7 dlV6 dlV5 dlV4 dlV3 dlV2 dlV1 dlV0
 simp only [SS,reduceCtorEq,Arg.list,Arg.num,Arg.flag,intOf,andP,Nat.reduceLeDiff,Nat.reduceAdd,Nat.reduceMul,Nat.reduceLT,errT,ckAsk,CK.ask,pl_fold,tw_fold,nb1_1,nb1_2,nb1_3,nb1_4,nb1_5,nb1_6,nb1_7,nb1_8,nb1_9,nb1_10,nb3_3,nb3_4,nb3_5,nb3_6,nb3_7,nb3_8,nb3_9,nb3_10,nb3_11,nb3_12,cond_true,cond_false,tmd_step,getI_2b,intAt_2b]
 refine ⟨fo,fun h1 => absurd hP h1,fun h1 => ?_⟩
 obtain ⟨⟨n1,n2⟩,hr,ho⟩ := errP_cases hP
 refine ⟨⟨0,by omega,⟨rfl,tmd_zero⟩,rfl⟩,fun x hx => ⟨fun h2 => ?_,fun h2 => ?_⟩⟩
 · have hx10 : x < 10 := by omega
   refine ⟨by omega,by omega,by omega,B10_at hx10,fun h3 => ⟨rfl,x + 1,by omega,by omega,⟨?_,rfl⟩,wrap_succ (n := n) (by omega) hn⟩,fun h3 => ⟨x + 1,by omega,by omega,⟨?_,rfl⟩,wrap_succ (n := n) (by omega) hn⟩⟩
   · rw [lg,if_pos h3]; exact wrap_succ (n := n) (by omega) hn
   · rw [lg,if_neg h3]
 have ex : x = n := by omega
 subst ex
 rw [ltN_l10 x n2]
 exact ⟨⟨rfl,rfl⟩,⟨⟨rfl,rfl⟩,hl,n2,n1⟩,rfl⟩
theorem leastd_at {b : Int} {n c f w x : Nat} {l : List Int} {H : Heap} (hl : l.length = n * 2) (hn : n≤10) (hr : rngP b n l) (hn1 : 1≤n) (hf : f≤n) (hnd : nodupB [0,w,x] = true)
   (h0 : H[0]? = some (ros l)) (hw : H[w]? = some (.rw (walkC b n c f (tmd n)) none)) (hx : H[x]? = some (.rw [ptr0 w] none)) :
   Call Try.prog 102 [.func (.func 123) #[] #[ptr0 x],.func (.func 109) #[ptr0 w] #[]] H fun v H' => v = .agg (newS H.length n :: I10 (dlL b n f l).st []).toArray∧H' = H ++ [.gone] := by
 have lt : ∀ {k : Nat} {o : AObj},H[k]? = some o→k < H.length := fun h => (List.getElem?_eq_some_iff.1 h).1
 have hlt : ∀ y ∈ [0,w,x],y < H.length := fun y hy => by
   simp only [List.mem_cons,List.not_mem_nil,or_false] at hy
   rcases hy with rfl | rfl | rfl
   · exact lt h0
   · exact lt hw
   · exact lt hx
 have hm1 : (B3 b n c f l).map (omap fun c => [0,w,x].getD c 0) = _ := B3_at rfl
 have hm2 : (B3 b n c f l).map (omap (nameL [0,w,x] 3 H.length)) = _ := B3_at rfl
 have hmem : ∀ (c' : Nat) (o : AObj),([ros l,.rw (walkC b n c f (tmd n)) none,.rw [ptr0 w] none] : Heap)[c']? = some o→H[[0,w,x].getD c' 0]? = some o := fun c' o hc => by
   rcases c' with _ | _ | _ | c'
   · cases hc; exact h0
   · cases hc; exact hw
   · cases hc; exact hx
   · simp at hc
 have hso : ∀ o ∈ ([ros l,.rw (walkC b n c f (tmd n)) none,.rw [ptr0 w] none] : Heap),o.sc H.length = true := fun o ho => by
   have hw' := lt hw
   have h0' := lt h0
   simp only [List.mem_cons,List.not_mem_nil,or_false] at ho
   rcases ho with rfl | rfl | rfl
   · exact ros_sc
   · show ((vi b :: sl0 n c :: vi f :: B10 (tmd n) []).all _) = true; simp [sl0,B10,sc1,sc0]; omega
   · simp [AObj.sc,sc1,sc0]; omega
 have hag : ∀ σ : Nat→Nat,nmap σ (.agg (newS 3 n :: I10 (dlL b n f l).st []).toArray) = .agg (newS (σ 3) n :: I10 (dlL b n f l).st []).toArray := fun σ => agg_nmap rfl
 have := (Call.frameG (H := H) (Et := B3 b n c f l) (Ft := B3 b n c f l) (N := [.gone]) (L := [0,w,x]) (vs := [.func (.func 123) #[] #[ptr0 x],.func (.func 109) #[ptr0 w] #[]]) rfl rfl (nodupB_ok hnd) hlt
   (fun c' o hc => by
     have h2 : ((B3 b n c f l).map (omap fun c => [0,w,x].getD c 0))[c']? = some (omap (fun c => [0,w,x].getD c 0) o) := by rw [List.getElem?_map,hc]; rfl
     rw [hm1] at h2
     exact .inr (hmem c' _ h2))
   (fun o ho => B3_sc o ho) (by simp [tripsF,laF,nmap,nmap2,nmap1,nmapFn,nmapA,nmap0,am]) (by kernel_rfl) (leastd_ok b n c f l hl hn hr hn1 hf)
   (fun o ho => by
     show o.nm (fun d => decide (d < 3) || decide (3≤d)) = true
     rw [any_nm rfl]
     rcases List.mem_append.1 ho with h2 | h2
     · unfold B3 at h2
       simp only [List.mem_cons,List.not_mem_nil,or_false] at h2
       rcases h2 with rfl | rfl | rfl
       · exact ros_nm
       · rfl
       · rfl
     · rw [List.mem_singleton.1 h2]; rfl)
   (fun o ho => by rw [List.mem_singleton.1 ho]; rfl)
   (by
     show nm (fun d => decide (d < 3) || decide (3≤d)) _ = true
     rw [any_nm rfl]
     exact agg_nm rfl rfl)
   (fun o ho => by
     rcases List.mem_append.1 ho with h2 | h2
     · have h3 := List.mem_map_of_mem (f := omap (nameL [0,w,x] 3 H.length)) h2
       rw [hm2] at h3
       exact AObj.sc_mono (Nat.le_add_right _ _) (hso _ h3)
     · rw [List.mem_singleton.1 h2]; rfl)
   (by
     rw [hag]
     exact agg_sc (show H.length + (3 - 3) < H.length + 1 by omega) rfl)).1
 refine this.mono fun v H' hh => ⟨by rw [hh.1,hag]; rfl,?_⟩
 rw [hh.2]
 congr 1
 refine setG_same _ _ _ _ fun c' b' e o k1 k2 k3 k4 => ?_
 have h2 : (List.map (omap (nameL [0,w,x] 3 H.length)) (B3 b n c f l))[c']? = some o := k4
 rw [hm2] at h2
 have h3 := hmem c' o h2
 rwa [natD_of_get k3] at h3
theorem leastdCc_ok {b : Int} {n c f : Nat} {l : List Int} (hl : l.length = n * 2) (hn : n≤10) (hr : rngP b n l) (hn1 : 1≤n) (hf : f≤n) : CcOk Try.prog (leastdCc b n c f l (dlL b n f l).st) := by
 intro fn args H T hT Q hQ
 unfold leastdCc at hT
 split at hT <;> try (cases hT; done)
 rename_i hfn
 obtain rfl := Nat.eq_of_beq_eq_true hfn
 split at hT <;> try (cases hT; done)
 rename_i x w
 split at hT <;> cases hT
 rename_i hnd
 obtain ⟨hO,hq⟩ := hQ
 obtain ⟨h0,hw,hx⟩ := hO.out
 exact (leastd_at hl hn hr hn1 hf hnd h0 hw hx).mono fun v H' hh => by rw [hh.1,hh.2]; exact hq
theorem late_at {b : Int} {n c f w k y : Nat} {l : List Int} {x : Nat→Int} {H : Heap} (hl : l.length = n * 2) (hn : n≤10) (hn1 : 1≤n) (hnd : nodupB [0,w,k] = true)
   (h0 : H[0]? = some (ros l)) (hw : H[w]? = some (.rw (walkC b n c f (tmd n)) none)) (hk : k < H.length) :
   Call Try.prog 109 [ptr0 w,.agg (newS k y :: I10 x []).toArray] H fun v H' => v = vi (ltN l x n)∧H' = H := by
 have lt : ∀ {k : Nat} {o : AObj},H[k]? = some o→k < H.length := fun h => (List.getElem?_eq_some_iff.1 h).1
 have hw' := lt hw
 have h0' := lt h0
 have wsc : ∀ m,0 < m→AObj.sc m (.rw (walkC b n c f (tmd n)) none) = true := fun m hm => by
   show ((vi b :: sl0 n c :: vi f :: B10 (tmd n) []).all _) = true; simp [sl0,B10,sc1,sc0]; omega
 refine Call.frameP (Et := itE b n c f l [.gone]) (L := [0,w,k]) (args := [ptr0 1,.agg (newS 2 y :: I10 x []).toArray]) rfl (nodupB_ok hnd) (fun z hz => ?_) (fun c' o' hc => ?_) (fun o' ho' => ?_) (fun c' o' hc _ => ?_) (fun o' ho' => ?_) ?_ ?_ (laV_call b n c f y l x hl hn hn1) (fun o' ho' => ?_) rfl rfl
 · simp only [List.mem_cons,List.not_mem_nil,or_false] at hz
   rcases hz with rfl | rfl | rfl <;> assumption
 · match c',hc with
   | 0,hc => cases hc; exact .inr (by rw [ros_omap]; exact h0)
   | 1,hc => cases hc; exact .inr (by rw [walk_omap rfl]; exact hw)
   | 2,hc => cases hc; exact .inl rfl
   | c' + 3,hc => simp [itE] at hc
 · rcases List.mem_cons.1 ho' with rfl | ho'
   · exact ros_sc
   rcases List.mem_cons.1 ho' with rfl | ho'
   · exact wsc 3 (by decide)
   · rw [List.mem_singleton.1 ho']; rfl
 · match c',hc with
   | 0,hc => cases hc; exact ⟨by rw [ros_omap,ros_omap],by rw [ros_omap]; exact ros_sc⟩
   | 1,hc => cases hc; exact ⟨by rw [walk_omap rfl,walk_omap rfl],by rw [walk_omap rfl]; exact wsc _ (by omega)⟩
   | 2,hc => cases hc; exact ⟨rfl,rfl⟩
   | c' + 3,hc => simp [itE] at hc
 · rcases List.mem_cons.1 ho' with rfl | ho'
   · exact ros_sc
   rcases List.mem_cons.1 ho' with rfl | ho'
   · exact wsc _ (by omega)
   · rw [List.mem_singleton.1 ho']; rfl
 · rw [List.map_cons,List.map_cons,List.map_nil,agg_nmap rfl]; rfl
 · show [ptr0 1,Value.agg (newS 2 y :: I10 x []).toArray].all (sc 3) = true
   rw [List.all_cons,List.all_cons,agg_sc (show 2 < 3 by omega) rfl]; rfl
 · rcases List.mem_cons.1 ho' with rfl | ho'
   · exact ros_nm
   rcases List.mem_cons.1 ho' with rfl | ho'
   · rfl
   · rw [List.mem_singleton.1 ho']; rfl
theorem laCc_ok {b : Int} {n c f : Nat} {l : List Int} : CcOk Try.prog (laCc b n c f l) := by
 intro fn args H T hT Q hQ
 unfold laCc at hT
 split at hT <;> try (cases hT; done)
 rename_i hfn
 obtain rfl := Nat.eq_of_beq_eq_true hfn
 split at hT <;> try (cases hT; done)
 rename_i w k y a0 a1 a2 a3 a4 a5 a6 a7 a8 a9
 split at hT <;> cases hT
 rename_i hnd
 obtain ⟨hO,hq⟩ := hQ
 obtain ⟨h0,hw,h1,h2,h3⟩ := hO.out
 refine fun ρ wd R hs => ?_
 have hkH : k < H.length := ag_lt hs (List.mem_cons_of_mem _ List.mem_cons_self)
 exact ((late_at (x := l10 a0 a1 a2 a3 a4 a5 a6 a7 a8 a9) (y := y) h1 h2 h3 hnd h0 hw hkH).mono fun v H' hh => by rw [hh.1,hh.2]; exact hq) ρ wd R hs
theorem dlE2_ok {b : Int} {n c : Nat} {l : List Int} (hl : l.length = n * 2) (hP : errP b n l = 0) : VOk Try.prog (dlE2 b n c l (dlL b n (lg b l n) l).st) := by
 obtain ⟨⟨n1,n2⟩,hr,ho⟩ := errP_cases hP
 have h1 : VOk Try.prog (dlE1 b n c l (dlL b n (lg b l n) l).st) := ⟨prT_ok,ccOr_ok (leastdCc_ok hl n2 hr n1 (lg_spec n).1) (ccOr_ok laCc_ok (ccIn_ok prE1_ok mixed (inl_one Try.func106))),E0_ok.yc,prE1_ok.orc⟩
 exact ⟨prT_ok,ccIn_ok h1 mixed (inl_two Try.func74 Try.func57),E0_ok.yc,prE1_ok.orc⟩
noncomputable def dlyF (b : Int) (n : Nat) (l : List Int) : Int := ltN l (dlL b n (lefts b n l) l).st n
theorem dl_call (b : Int) (n c : Nat) (l : List Int) (hl : l.length = n * 2) (hP : errP b n l = 0) : Call Try.prog 33 [pierV b (some ⟨0,0,none⟩) n c] [ros l] fun v _ => v = .tuple #[vi (dlyF b n l),vi 0] := by
 obtain ⟨⟨n1,n2⟩,hr,ho⟩ := errP_cases hP
 have h := dlV_ok b n c l (dlL b n (lg b l n) l).st hl hP
 rw [dlV_eq] at h
 unfold dlyF
 rw [← lg_lefts ho]
 exact Call.ofVc (H := [ros l]) (args := [pierV b (some ⟨0,0,none⟩) n c]) (dlE2_ok (c := c) hl hP) mixed (c := dlB) (inv := fun _ => none) (R := fun v _ => v = .tuple #[vi (ltN l (dlL b n (lg b l n) l).st n),vi 0]) Try.func33 (by kernel_rfl) (cast (by kernel_rfl) h)
theorem dlG_ok : ∀ args H φ v H' l,pure3 psP (specQ fun b n l => .tuple #[vi (dlyF b n l),vi 0]) args H = some (φ,v,H',l)→Asks φ→Call Try.prog 33 args H (fun v' H2 => v' = v∧H2 = H')∧Kept H H' l :=
 specQ_ok (fun _ _ _ => by simp [sc,sc2,sc1,sc0]) dl_call
end Go.Pier.Rd
namespace Go.Pier.Rd
open Go Go.Pier Go.Proofs
theorem mxN_le {st : Nat→Int} {c : Int} : ∀ x,(∀ i,i≤x→st i≤c)→mxN st x≤c
 | 0,h => h 0 (Nat.le_refl _)
 | x + 1,h => by
   have h1 := mxN_le x fun i hi => h i (by omega)
   have h2 := h (x + 1) (Nat.le_refl _)
   rw [mxN]
   split <;> assumption
theorem le_mxN {st : Nat→Int} : ∀ (x i : Nat),i≤x→st i≤mxN st x
 | 0, i, h => by obtain rfl : i = 0 := by omega
                 exact Int.le_refl _
 | x + 1,i,h => by
   rw [mxN]
   by_cases e : i = x + 1
   · subst e; split <;> omega
   · have := le_mxN (st := st) x i (by omega)
     split <;> omega
theorem rSt_zero {b : Int} {l m : List Int} (x : Nat) : 0≤rSt b l m x := rSt_mono (x := 0) x (Nat.zero_le _)
theorem stp_le {b : Int} {n : Nat} {l m : List Int} (hw : Whole n m) (i : Nat) : stp b l m i≤rSt b l m n := by
 have hl := whole_len hw
 rcases Nat.lt_or_ge i n with h | h
 · obtain ⟨k,h1,h2⟩ := whole_all hw h
   have := stp_at (b := b) (l := l) hw h1
   rw [h2,Int.toNat_natCast] at this
   rw [this]
   exact rSt_mono n (by omega)
 · rw [stp,sf_out (whole_mem hw) h _ (Nat.le_refl _)]
   exact rSt_zero n
theorem NL_is {b : Int} {n : Nat} {l m : List Int} (hw : Whole n m) (hn : 1≤n) (hn10 : n≤10) : NL (stp b l m) = rSt b l m n := by
 have hl := whole_len hw
 refine Int.le_antisymm (mxN_le 9 fun i _ => stp_le hw i) ?_
 have h1 := whole_mem hw (n - 1) (by omega)
 have h2 := stp_at (b := b) (l := l) hw (i := n - 1) (by omega)
 rw [show n - 1 + 1 = n by omega] at h2
 rw [← h2]
 exact le_mxN 9 _ (by omega)
theorem getD_app {m r : List Int} {x : Nat} (h : x < m.length) : (m ++ r).getD x 0 = m.getD x 0 := by
 rw [List.getD_eq_getElem?_getD,List.getD_eq_getElem?_getD,List.getElem?_append_left h]
section
variable {b : Int} {n : Nat} {l : List Int} (ho : ordP b n l)
include ho
end
end Go.Pier.Rd
