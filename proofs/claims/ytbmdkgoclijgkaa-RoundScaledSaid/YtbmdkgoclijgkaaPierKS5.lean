import Derived.Test.YtbmdkgoclijgkaaPierKS4
import Derived.KernelRfl
set_option linter.unusedSimpArgs false
set_option linter.unusedVariables false
set_option maxRecDepth 100000
namespace Go.Pier.Rd
open Go Go.Pier Go.Proofs
noncomputable def shL (b : Int) (n f : Nat) (l : List Int) : LS := fdR b n l true empI (rds n n f f [])
noncomputable def g1Ct (b : Int) (n c f : Nat) (l : List Int) (S : LS) : Ct := fun fn args H => match Nat.beq fn 134 with
 | true => some (some (args = [ptr0 1,nilS,vi f,vi f,yv 15]∧H = EHL b n c f l true 16 empI),.bool true,EHL b n c f l S.no 16 S.st ++ [.gone],[8,9])
 | false => none
noncomputable def ls1E (b : Int) (n c f : Nat) (l : List Int) (S : LS) : VEnv := { ct := g1Ct b n c f l S,orc := prO }
noncomputable def ls2E (b : Int) (n c f : Nat) (l : List Int) (S : LS) : VEnv := { orc := prO,cc := ccIn Try.prog (ls1E b n c f l S) [⟨133,Try.f133,fun _ _ _ => none⟩,⟨124,Try.f124,fun _ _ _ => none⟩] }
noncomputable def ls3E (b : Int) (n c f : Nat) (l : List Int) (S : LS) : VEnv := { orc := prO,cc := ccIn Try.prog (ls2E b n c f l S) [⟨123,Try.f123,fun _ _ _ => none⟩] }
noncomputable def ls4E (b : Int) (n c f : Nat) (l : List Int) (S : LS) : VEnv := { orc := prO,cc := ccIn Try.prog (ls3E b n c f l S) [⟨122,Try.f122,fun _ _ _ => none⟩] }
noncomputable def lsB : Code := Try.f102.body.getD .skip
def B6 (b : Int) (n c f : Nat) (l : List Int) : Heap := [ros l,.rw (walkC b n c f (tmd n)) none,.rw [ptr0 1] none,.rw [tripsF] none,.rw [.func (.func 61) #[ptr0 1] #[]] none,.gone]
def LR (b : Int) (n c f : Nat) (l : List Int) (s : LS) (v : Value) (H' : Heap) : Prop := ∃ k,v = .agg (slotV s.no k n :: I10 s.st []).toArray∧H' = B6 b n c f l ++ H'.drop 6∧k < H'.length
noncomputable def lsV0  : Array Value := { toList := [Value.func (Fn.func (122 : FuncId)) { toList := [] } { toList := [ptr0 3,ptr0 4] },Value.func (Fn.func (70 : FuncId)) { toList := [] } { toList := [] },junk,ptr0 6,ptr0 7,ptr0 8,ptr0 9,junk,Value.func (Fn.func (122 : FuncId)) { toList := [] } { toList := [ptr0 3,ptr0 4] },junk,junk,junk,junk,junk,junk,junk,junk,junk,junk,junk,junk,junk] }
noncomputable def lsV1  := (Value.slice none (0 : Nat) (0 : Nat) :: I10 empI [])
noncomputable def lsV2  : Array Value := { toList := [Value.func (Fn.yield (10 : Nat)) { toList := [] } { toList := [] },ptr0 3,ptr0 4,ptr0 11,junk,Value.func (Fn.func (123 : FuncId)) { toList := [] } { toList := [ptr0 2] },junk,junk,junk,junk,junk,junk,junk,junk,junk,junk] }
noncomputable def lsV3  : List Value := [Value.func (Fn.func (123 : FuncId)) { toList := [] } { toList := [ptr0 2] }]
noncomputable def lsV4  : List Value := [Value.func (Fn.func (61 : FuncId)) { toList := [ptr0 1] } { toList := [] }]
noncomputable def lsV5 (f:Nat):List Value := [ptr0 1,Value.slice none 0 0,vi (f:Int),vi (f:Int),Value.func (Fn.yield 15) ⟨[]⟩ ⟨[]⟩]
noncomputable def lsV6  : List Value := [Value.func (Fn.func (70 : FuncId)) { toList := [] } { toList := [] }]
noncomputable def lsV7  : List Value := [Value.func (Fn.yield (10 : Nat)) { toList := [] } { toList := [] }]
noncomputable def lsV8  : List Value := [Value.func (Fn.yield (12 : Nat)) { toList := [] } { toList := [] }]
noncomputable def lsV9 (b:Int) (n:Nat) (c:Nat) (f:Nat) := (vi b::Value.slice (some (ad0 0)) n c::vi (f:Int)::B10 (tmd n) [])
noncomputable def lsV :=
fun (b:Int) (n c f:Nat) (l:List Int)↦Ob (some (Value.bool false)=some (Value.bool false)∧some 1=some 1)∧Ob (some (vi (f:Int))=some (vi (f:Int)))∧Ob (some (vi (f:Int))=some (vi (f:Int)))∧Ob ((lsV5 f)=(lsV5 f)∧[AObj.ro (List.map (Value.int IntKind.i64) l),AObj.rw (lsV9 b n c f) none,AObj.rw [ptr0 1] none,AObj.rw lsV3 none,AObj.rw lsV4 none,AObj.gone,AObj.rw lsV6 none,AObj.rw lsV1 none,AObj.rw lsV1 none,AObj.rw [Value.bool true] none,AObj.loop LoopState.ready none lsV0 ⟨[9]⟩ y1_c0 y1_c1,AObj.rw lsV7 none,AObj.loop LoopState.ready none lsV2 ⟨[6]⟩ y1_c2 y1_c3,AObj.rw lsV8 none,AObj.rw [ptr0 1] none,AObj.loop LoopState.ready none ⟨[Value.func (Fn.yield 12) ⟨[]⟩ ⟨[]⟩,ptr0 2,ptr0 13,junk,ptr0 1,Value.func (Fn.func 133) ⟨[]⟩ ⟨[ptr0 14]⟩,junk,junk,junk,junk,junk,junk,junk]⟩ ⟨[6]⟩ y1_c4 y1_c5]=[AObj.ro (List.map (Value.int IntKind.i64) l),AObj.rw (lsV9 b n c f) none,AObj.rw [ptr0 1] none,AObj.rw lsV3 none,AObj.rw lsV4 none,AObj.gone,AObj.rw lsV6 none,AObj.rw lsV1 none,AObj.rw lsV1 none,AObj.rw [Value.bool true] none,AObj.loop LoopState.ready none lsV0 ⟨[9]⟩ y1_c0 y1_c1,AObj.rw lsV7 none,AObj.loop LoopState.ready none lsV2 ⟨[6]⟩ y1_c2 y1_c3,AObj.rw lsV8 none,AObj.rw [ptr0 1] none,AObj.loop LoopState.ready none ⟨[Value.func (Fn.yield 12) ⟨[]⟩ ⟨[]⟩,ptr0 2,ptr0 13,junk,ptr0 1,Value.func (Fn.func (133:FuncId)) ⟨[]⟩ ⟨[ptr0 14]⟩,junk,junk,junk,junk,junk,junk,junk]⟩ ⟨[6]⟩ y1_c4 y1_c5])∧Ob (0+11≤11)∧True∧Ob (LR b n c f l { no := true,st := empI } (Value.agg { toList := lsV1 }) [AObj.ro (List.map (Value.int IntKind.i64) l),AObj.rw (lsV9 b n c f) none,AObj.rw [ptr0 1] none,AObj.rw lsV3 none,AObj.rw lsV4 none,AObj.gone,AObj.rw lsV6 none,AObj.rw lsV1 none,AObj.rw lsV1 none,AObj.rw [Value.bool true] none,AObj.gone,AObj.rw lsV7 none,AObj.gone,AObj.rw lsV8 none,AObj.rw [ptr0 1] none,AObj.gone,AObj.gone])
theorem lsV_eq : lsV = fun (b : Int) (n c f : Nat) (l : List Int) => vc Try.prog (ls4E b n c f l ⟨true,empI⟩) 6 22 true (fun _ => none) lsB [] (argFr 0 [allF,lnF]) (B6 b n c f l) (retK Try.prog Try.f102 (LR b n c f l ⟨true,empI⟩)) := by kernel_rfl
noncomputable def lsW0  : Array Value := { toList := [Value.func (Fn.func (122 : FuncId)) { toList := [] } { toList := [ptr0 3,ptr0 4] },Value.func (Fn.func (70 : FuncId)) { toList := [] } { toList := [] },junk,ptr0 6,ptr0 7,ptr0 8,ptr0 9,junk,Value.func (Fn.func (122 : FuncId)) { toList := [] } { toList := [ptr0 3,ptr0 4] },junk,junk,junk,junk,junk,junk,junk,junk,junk,junk,junk,junk,junk] }
noncomputable def lsW1  : Array Value := { toList := [Value.func (Fn.yield (10 : Nat)) { toList := [] } { toList := [] },ptr0 3,ptr0 4,ptr0 11,junk,Value.func (Fn.func (123 : FuncId)) { toList := [] } { toList := [ptr0 2] },junk,junk,junk,junk,junk,junk,junk,junk,junk,junk] }
noncomputable def lsW2 (n:Nat) (st:Nat→Int) := (Value.slice (some ⟨16,0,some 0⟩) n 0::I10 st [])
noncomputable def lsW3  : List Value := [Value.func (Fn.func (123 : FuncId)) { toList := [] } { toList := [ptr0 2] }]
noncomputable def lsW4  : List Value := [Value.func (Fn.func (61 : FuncId)) { toList := [ptr0 1] } { toList := [] }]
noncomputable def lsW5  := (Value.slice none (0 : Nat) (0 : Nat) :: I10 empI [])
noncomputable def lsW6 (f:Nat):List Value := [ptr0 1,Value.slice none 0 0,vi (f:Int),vi (f:Int),Value.func (Fn.yield 15) ⟨[]⟩ ⟨[]⟩]
noncomputable def lsW7  : List Value := [Value.func (Fn.func (70 : FuncId)) { toList := [] } { toList := [] }]
noncomputable def lsW8  : List Value := [Value.func (Fn.yield (10 : Nat)) { toList := [] } { toList := [] }]
noncomputable def lsW9  : List Value := [Value.func (Fn.yield (12 : Nat)) { toList := [] } { toList := [] }]
noncomputable def lsW10 (b:Int) (n:Nat) (c:Nat) (f:Nat) := (vi b::Value.slice (some (ad0 0)) n c::vi (f:Int)::B10 (tmd n) [])
noncomputable def lsW :=
fun (b:Int) (n c f:Nat) (l:List Int) (st:Nat→Int)↦Ob (some (Value.bool false)=some (Value.bool false)∧some 1=some 1)∧Ob (some (vi (f:Int))=some (vi (f:Int)))∧Ob (some (vi (f:Int))=some (vi (f:Int)))∧Ob ((lsW6 f)=(lsW6 f)∧[AObj.ro (List.map (Value.int IntKind.i64) l),AObj.rw (lsW10 b n c f) none,AObj.rw [ptr0 1] none,AObj.rw lsW3 none,AObj.rw lsW4 none,AObj.gone,AObj.rw lsW7 none,AObj.rw lsW5 none,AObj.rw lsW5 none,AObj.rw [Value.bool true] none,AObj.loop LoopState.ready none lsW0 ⟨[9]⟩ y1_c0 y1_c1,AObj.rw lsW8 none,AObj.loop LoopState.ready none lsW1 ⟨[6]⟩ y1_c2 y1_c3,AObj.rw lsW9 none,AObj.rw [ptr0 1] none,AObj.loop LoopState.ready none ⟨[Value.func (Fn.yield 12) ⟨[]⟩ ⟨[]⟩,ptr0 2,ptr0 13,junk,ptr0 1,Value.func (Fn.func 133) ⟨[]⟩ ⟨[ptr0 14]⟩,junk,junk,junk,junk,junk,junk,junk]⟩ ⟨[6]⟩ y1_c4 y1_c5]=[AObj.ro (List.map (Value.int IntKind.i64) l),AObj.rw (lsW10 b n c f) none,AObj.rw [ptr0 1] none,AObj.rw lsW3 none,AObj.rw lsW4 none,AObj.gone,AObj.rw lsW7 none,AObj.rw lsW5 none,AObj.rw lsW5 none,AObj.rw [Value.bool true] none,AObj.loop LoopState.ready none lsW0 ⟨[9]⟩ y1_c0 y1_c1,AObj.rw lsW8 none,AObj.loop LoopState.ready none lsW1 ⟨[6]⟩ y1_c2 y1_c3,AObj.rw lsW9 none,AObj.rw [ptr0 1] none,AObj.loop LoopState.ready none ⟨[Value.func (Fn.yield 12) ⟨[]⟩ ⟨[]⟩,ptr0 2,ptr0 13,junk,ptr0 1,Value.func (Fn.func (133:FuncId)) ⟨[]⟩ ⟨[ptr0 14]⟩,junk,junk,junk,junk,junk,junk,junk]⟩ ⟨[6]⟩ y1_c4 y1_c5])∧Ob (0+11≤11)∧True∧Ob (LR b n c f l { no := false,st := st } (Value.agg { toList := (lsW2 n st) }) [AObj.ro (List.map (Value.int IntKind.i64) l),AObj.rw (lsW10 b n c f) none,AObj.rw [ptr0 1] none,AObj.rw lsW3 none,AObj.rw lsW4 none,AObj.gone,AObj.rw lsW7 none,AObj.rw (lsW2 n st) none,AObj.rw (lsW2 n st) none,AObj.rw [Value.bool false] none,AObj.gone,AObj.rw lsW8 none,AObj.gone,AObj.rw lsW9 none,AObj.rw [ptr0 1] none,AObj.gone,AObj.gone])
theorem lsW_eq : lsW = fun (b : Int) (n c f : Nat) (l : List Int) (st : Nat→Int) => vc Try.prog (ls4E b n c f l ⟨false,st⟩) 6 22 true (fun _ => none) lsB [] (argFr 0 [allF,lnF]) (B6 b n c f l) (retK Try.prog Try.f102 (LR b n c f l ⟨false,st⟩)) := by kernel_rfl
theorem lsV_ok (b : Int) (n c f : Nat) (l : List Int) : lsV b n c f l := by
 unfold lsV lsV9 lsV8 lsV7 lsV6 lsV5 lsV4 lsV3 lsV2 lsV1 lsV0
 simp only [SS,reduceCtorEq,Arg.list,Arg.num,Arg.flag,intOf,andP,Nat.reduceLeDiff,Nat.reduceAdd,Nat.reduceMul,Nat.reduceLT,yv]
 exact ⟨16,by kernel_rfl,by kernel_rfl,by simp⟩
theorem lsW_ok (b : Int) (n c f : Nat) (l : List Int) (st : Nat→Int) : lsW b n c f l st := by
 unfold lsW lsW10 lsW9 lsW8 lsW7 lsW6 lsW5 lsW4 lsW3 lsW2 lsW1 lsW0
 simp only [SS,reduceCtorEq,Arg.list,Arg.num,Arg.flag,intOf,andP,Nat.reduceLeDiff,Nat.reduceAdd,Nat.reduceMul,Nat.reduceLT,yv]
 exact ⟨16,by kernel_rfl,by kernel_rfl,by simp⟩
theorem g1Ct_ok (b : Int) (n c f : Nat) (l : List Int) (S : LS) (hl : l.length = n * 2) (hn : n≤10) (hr : rngP b n l) (hn1 : 1≤n) (hf : f≤n) (hS : S = shL b n f l) : CtOk Try.prog (g1Ct b n c f l S) := by
 intro fn args H φ v H' lg h hφ
 unfold g1Ct at h
 split at h <;> cases h
 rename_i hb
 obtain rfl := Nat.eq_of_beq_eq_true hb
 obtain ⟨rfl,rfl⟩ := hφ
 subst hS
 refine ⟨grow0_ok b n c f l hl hn hr true empI n f hn1 hf (by omega) (fun _ => rfl),by rw [List.length_append,EHL_len,EHL_len]; omega,fun b1 h4 h5 => ?_⟩
 rw [EHL_len] at h4
 rw [List.getElem?_append_left (by rw [EHL_len]; exact h4)]
 have h8 : b1 ≠ 8 := fun e => h5 (by subst e; simp)
 have h9 : b1 ≠ 9 := fun e => h5 (by subst e; simp)
 unfold EHL EH
 rcases b1 with _ | _ | _ | _ | _ | _ | _ | _ | _ | _ | _ | _ | _ | _ | _ | _ | b1 <;> first | rfl | omega
theorem inl_two {f g : Nat} {fn gn : Func} {inv inv' : List Value→Heap→Nat→Option LInv} (h : Try.prog.funcs[f]? = some fn) (k : Try.prog.funcs[g]? = some gn) : ∀ e ∈ ([⟨f,fn,inv⟩,⟨g,gn,inv'⟩] : List InlE),Try.prog.funcs[e.f]? = some e.fn := fun e he => by
 rcases List.mem_cons.1 he with rfl | he
 · exact h
 · rw [List.mem_singleton.1 he]; exact k
theorem ls4E_ok (b : Int) (n c f : Nat) (l : List Int) (S : LS) (hl : l.length = n * 2) (hn : n≤10) (hr : rngP b n l) (hn1 : 1≤n) (hf : f≤n) (hS : S = shL b n f l) : VOk Try.prog (ls4E b n c f l S) := by
 have h1 : VOk Try.prog (ls1E b n c f l S) := ⟨g1Ct_ok b n c f l S hl hn hr hn1 hf hS,E0_ok.cc,E0_ok.yc,prE1_ok.orc⟩
 have h2 : VOk Try.prog (ls2E b n c f l S) := ⟨CtOk.none,ccIn_ok h1 mixed (inl_two Try.func133 Try.func124),E0_ok.yc,prE1_ok.orc⟩
 have h3 : VOk Try.prog (ls3E b n c f l S) := ⟨CtOk.none,ccIn_ok h2 mixed (inl_one Try.func123),E0_ok.yc,prE1_ok.orc⟩
 exact ⟨CtOk.none,ccIn_ok h3 mixed (inl_one Try.func122),E0_ok.yc,prE1_ok.orc⟩
def σ6 (k b : Nat) : Nat := if b = 6 then k else b
theorem agg_slot {σ : Nat→Nat} {k n : Nat} {no : Bool} {st : Nat→Int} : nmap σ (.agg (slotV no k n :: I10 st []).toArray) = .agg (slotV no (σ k) n :: I10 st []).toArray := by
 show Value.agg ((slotV no k n :: I10 st []).toArray.map (nmap1 σ)) = _
 rw [List.map_toArray,List.map_cons,nmap1_all rfl]
 cases no <;> rfl
theorem agg_slot_sc {m k n : Nat} {no : Bool} {st : Nat→Int} (hk : k < m) : sc m (.agg (slotV no k n :: I10 st []).toArray) = true := by
 cases no with
 | false => exact agg_sc hk rfl
 | true =>
   show (nilS :: I10 st []).toArray.all (sc1 m) = true
   rw [← Array.all_toList]; rfl
theorem B6_map {σ : Nat→Nat} {b : Int} {n c f : Nat} {l : List Int} (h0 : σ 0 = 0) (h1 : σ 1 = 1) (h2 : σ 2 = 2) : (B6 b n c f l).map (omap σ) = B6 b n c f l := by
 unfold B6
 simp only [List.map_cons,List.map_nil,ros_omap,walk_omap h0]
 have e2 : omap σ (AObj.rw [ptr0 1] none) = .rw [ptr0 1] none := by
   show AObj.rw [.pointer (some ⟨σ 1,0,none⟩)] none = _
   rw [h1]
 have e3 : omap σ (AObj.rw [tripsF] none) = .rw [tripsF] none := by simp [omap,tripsF,nmap1,nmapFn,nmap0,am,h2]
 have e4 : omap σ (AObj.rw [Value.func (.func 61) #[ptr0 1] #[]] none) = .rw [Value.func (.func 61) #[ptr0 1] #[]] none := by simp [omap,nmap1,nmapFn,nmapA,nmap0,am,h1]
 rw [e2,e3,e4]; rfl
theorem B6_sc {b : Int} {n c f : Nat} {l : List Int} : ∀ o ∈ B6 b n c f l,o.sc 6 = true := by
 refine List.all_eq_true.1 ?_
 unfold B6
 simp only [List.all_cons,List.all_nil,ros_sc,Bool.and_true,Bool.true_and]
 kernel_rfl
theorem LR_anew {b : Int} {n c f : Nat} {l : List Int} {s : LS} {v : Value} {H' : Heap} (h : LR b n c f l s v H') :
   ∃ σ v2 H2,Anew 6 σ H' H2∧v = nmap σ v2∧sc H2.length v2 = true∧(v2 = .agg (slotV s.no 6 n :: I10 s.st []).toArray∧H2 = B6 b n c f l ++ [.gone]) := by
 obtain ⟨k,rfl,he,hk⟩ := h
 have hl : (B6 b n c f l ++ [AObj.gone]).length = 7 := rfl
 have hb6 : (B6 b n c f l).length = 6 := rfl
 have g6 : (B6 b n c f l ++ [AObj.gone])[6]? = some .gone := rfl
 have hm := B6_map (σ := σ6 k) (b := b) (n := n) (c := c) (f := f) (l := l) rfl rfl rfl
 refine ⟨σ6 k,_,_,⟨?_,fun b' hb => ?_,fun b' o hb => ?_,fun b1 b2 o h1 h2 h3 h4 h5 h6 => ?_,fun b' o hb => ?_⟩,?_,agg_slot_sc (show 6 < 7 by omega),rfl,rfl⟩
 · rw [hl]; omega
 · unfold σ6; rw [if_neg (by omega)]
 · rcases Nat.lt_or_ge b' 6 with h1 | h1
   · right
     rw [List.getElem?_append_left (by rw [hb6]; exact h1)] at hb
     rw [he,show σ6 k b' = b' by unfold σ6; rw [if_neg (by omega)],List.getElem?_append_left (by rw [hb6]; exact h1),← hm,List.getElem?_map,hb]
     rfl
   · left
     have h2 := (List.getElem?_eq_some_iff.1 hb).1
     rw [hl] at h2
     obtain rfl : b' = 6 := by omega
     rw [g6] at hb
     exact (Option.some.inj hb).symm
 · rw [hl] at h1 h2
   have n1 : b1 ≠ 6 := fun e => by subst e; rw [g6] at h3; cases h3; exact h4 rfl
   have n2 : b2 ≠ 6 := fun e => by
     subst e
     rcases h5 with h5 | h5
     · exact h5 g6
     · omega
   unfold σ6 at h6
   rw [if_neg n1,if_neg n2] at h6
   exact h6
 · rw [hl]
   rcases List.mem_append.1 (List.mem_of_getElem? hb) with h1 | h1
   · exact AObj.sc_mono (by omega) (B6_sc o h1)
   · rw [List.mem_singleton.1 h1]; rfl
 · rw [agg_slot]; rfl
theorem shL_emp {b : Int} {n f : Nat} {l : List Int} : (shL b n f l).no = true→(shL b n f l).st = empI := fdR_emp fun _ => rfl
theorem least_ok (b : Int) (n c f : Nat) (l : List Int) (hl : l.length = n * 2) (hn : n≤10) (hr : rngP b n l) (hn1 : 1≤n) (hf : f≤n) :
   Call Try.prog 102 [allF,lnF] (B6 b n c f l) fun v H' => v = .agg (slotV (shL b n f l).no 6 n :: I10 (shL b n f l).st []).toArray∧H' = B6 b n c f l ++ [.gone] := by
 have e := shL_emp (b := b) (n := n) (f := f) (l := l)
 generalize hS : shL b n f l = S at *
 have hE := ls4E_ok b n c f l S hl hn hr hn1 hf hS.symm
 refine Call.anew (Call.mono (Q := LR b n c f l S) ?_ fun v H' hy => LR_anew hy)
 obtain ⟨no,st⟩ := S
 cases no with
 | true =>
   obtain rfl : st = empI := e rfl
   have h := lsV_ok b n c f l
   rw [lsV_eq] at h
   exact Call.ofVc (H := B6 b n c f l) (args := [allF,lnF]) hE mixed (c := lsB) (inv := fun _ => none) (R := LR b n c f l ⟨true,empI⟩) Try.func102 (by kernel_rfl) (cast (by kernel_rfl) h)
 | false =>
   have h := lsW_ok b n c f l st
   rw [lsW_eq] at h
   exact Call.ofVc (H := B6 b n c f l) (args := [allF,lnF]) hE mixed (c := lsB) (inv := fun _ => none) (R := LR b n c f l ⟨false,st⟩) Try.func102 (by kernel_rfl) (cast (by kernel_rfl) h)
end Go.Pier.Rd
namespace Go.Pier.Rd
open Go Go.Pier Go.Proofs
def LeastOf (b : Int) (l : List Int) (g : (Nat→Int)→Bool) (N : (Nat→Int)→Int) (r : List (List Int)) (s : LS) : Prop :=
 (s.no = true→s.st = empI∧∀ m ∈ r,g (stp b l m) = false)∧(s.no = false→(∃ m ∈ r,g (stp b l m) = true∧s.st = stp b l m)∧∀ m ∈ r,g (stp b l m) = true→N s.st≤N (stp b l m))
theorem foldR_least {b : Int} {l : List Int} {g : (Nat→Int)→Bool} {N : (Nat→Int)→Int} : ∀ (r r0 : List (List Int)) (s : LS),LeastOf b l g N r0 s→LeastOf b l g N (r0 ++ r) (foldR b l g N s r)
 | [],r0,s,h => by rw [List.append_nil]; exact h
 | m :: r,r0,s,h => by
   suffices k : LeastOf b l g N (r0 ++ [m]) (stepL g N s (stp b l m)) by
     have := foldR_least r (r0 ++ [m]) (stepL g N s (stp b l m)) k
     rw [List.append_assoc] at this
     exact this
   obtain ⟨h1,h2⟩ := h
   cases hg : g (stp b l m) with
   | false =>
     rw [stepL_no hg]
     refine ⟨fun e => ⟨(h1 e).1,fun m2 hm => ?_⟩,fun e => ⟨?_,fun m2 hm k => ?_⟩⟩
     · rcases List.mem_append.1 hm with hm | hm
       · exact (h1 e).2 m2 hm
       · rw [List.mem_singleton.1 hm]; exact hg
     · obtain ⟨m2,k1,k2⟩ := (h2 e).1
       exact ⟨m2,List.mem_append_left _ k1,k2⟩
     · rcases List.mem_append.1 hm with hm | hm
       · exact (h2 e).2 m2 hm k
       · rw [List.mem_singleton.1 hm,hg] at k; cases k
   | true =>
     by_cases hc : s.no = true∨N (stp b l m) < N s.st
     · rw [stepL_new hg hc]
       refine ⟨fun e => (by cases e),fun _ => ⟨⟨m,List.mem_append_right _ List.mem_cons_self,hg,rfl⟩,fun m2 hm k => ?_⟩⟩
       rcases List.mem_append.1 hm with hm | hm
       · cases hno : s.no with
         | true => rw [(h1 hno).2 m2 hm] at k; cases k
         | false =>
           have := (h2 hno).2 m2 hm k
           rcases hc with hc | hc
           · rw [hno] at hc; cases hc
           · exact Int.le_trans (Int.le_of_lt hc) this
       · rw [List.mem_singleton.1 hm]; exact Int.le_refl _
     · have hno : s.no = false := by
         cases e : s.no with
         | true => exact absurd (.inl e) hc
         | false => rfl
       rw [stepL_old hno (fun k => hc (.inr k))]
       refine ⟨fun e => (by rw [hno] at e; cases e),fun e => ⟨?_,fun m2 hm k => ?_⟩⟩
       · obtain ⟨m2,k1,k2⟩ := (h2 e).1
         exact ⟨m2,List.mem_append_left _ k1,k2⟩
       · rcases List.mem_append.1 hm with hm | hm
         · exact (h2 e).2 m2 hm k
         · rw [List.mem_singleton.1 hm]
           exact Int.not_lt.1 fun k => hc (.inr k)
theorem foldR_from {b : Int} {l : List Int} {g : (Nat→Int)→Bool} {N : (Nat→Int)→Int} (r : List (List Int)) : LeastOf b l g N r (foldR b l g N ⟨true,empI⟩ r) :=
 foldR_least r [] ⟨true,empI⟩ ⟨fun _ => ⟨rfl,fun m hm => (by cases hm)⟩,fun e => (by cases e)⟩
theorem dist_pos {a b : Int} (h : a ≠ b) : 0 < dist a b := by rw [dist_eq]; omega
theorem dist_nn {a b : Int} : 0≤dist a b := by rw [dist_eq]; omega
theorem rSt_mono {b : Int} {l m : List Int} {x : Nat} : ∀ y,x≤y→rSt b l m x≤rSt b l m y
 | 0, h => by obtain rfl : x = 0 := by omega
              exact Int.le_refl _
 | y + 1,h => by
   rcases Nat.lt_or_ge x (y + 1) with h1 | h1
   · have := rSt_mono (b := b) (l := l) (m := m) (x := x) y (by omega)
     have h2 : rSt b l m (y + 1) = rSt b l m y + dist (rAt b l m y) (pl l (m.getD y 0).toNat) := rfl
     have h3 : 0≤dist (rAt b l m y) (pl l (m.getD y 0).toNat) := dist_nn
     omega
   · obtain rfl : x = y + 1 := by omega
     exact Int.le_refl _
theorem getD_nd {m : List Int} (h : m.Nodup) {i j : Nat} (hi : i < m.length) (hj : j < m.length) (e : m.getD i 0 = m.getD j 0) : i = j := by
 rw [List.getD_eq_getElem?_getD,List.getD_eq_getElem?_getD,List.getElem?_eq_getElem hi,List.getElem?_eq_getElem hj] at e
 exact (List.getElem_inj h).1 e
theorem sf_at {b : Int} {n : Nat} {l m : List Int} (hw : Whole n m) {i : Nat} (hi : i < m.length) : ∀ x,i < x→x≤m.length→sf b l m x (m.getD i 0).toNat = rSt b l m (i + 1)
 | 0,h,_ => by omega
 | x + 1,h,hx => by
   rw [sf]
   by_cases e : x = i
   · subst e; rw [show Nat.beq (m.getD x 0).toNat (m.getD x 0).toNat = true from Nat.beq_refl _]; rfl
   · have h1 := whole_mem hw i hi
     have h2 := whole_mem hw x (by omega)
     have h3 : m.getD i 0 ≠ m.getD x 0 := fun k => e (getD_nd hw.nd hi (by omega) k).symm
     have : Nat.beq (m.getD i 0).toNat (m.getD x 0).toNat = false := by
       cases hb : Nat.beq (m.getD i 0).toNat (m.getD x 0).toNat with
       | false => rfl
       | true => have := Nat.eq_of_beq_eq_true hb; omega
     rw [this]
     exact sf_at hw hi x (by omega) (by omega)
theorem stp_at {b : Int} {n : Nat} {l m : List Int} (hw : Whole n m) {i : Nat} (hi : i < m.length) : stp b l m (m.getD i 0).toNat = rSt b l m (i + 1) := sf_at hw hi m.length hi (Nat.le_refl _)
theorem whole_all {n : Nat} {m : List Int} (hw : Whole n m) {a : Nat} (ha : a < n) : ∃ i,i < m.length∧m.getD i 0 = (a : Int) := by
 have : (a : Int) ∈ m := hw.all a (Nat.zero_le _) ha
 obtain ⟨i,hi⟩ := List.mem_iff_getElem?.1 this
 exact ⟨i,(List.getElem?_eq_some_iff.1 hi).1,by rw [List.getD_eq_getElem?_getD,hi]; rfl⟩
theorem sf_out {b : Int} {n : Nat} {l m : List Int} (hm : ∀ j,j < m.length→0≤m.getD j 0∧m.getD j 0 < n) {a : Nat} (ha : n≤a) : ∀ x,x≤m.length→sf b l m x a = 0
 | 0,_ => rfl
 | x + 1,hx => by
   rw [sf]
   have h2 := hm x (by omega)
   have : Nat.beq a (m.getD x 0).toNat = false := by
     cases hb : Nat.beq a (m.getD x 0).toNat with
     | false => rfl
     | true => have := Nat.eq_of_beq_eq_true hb; omega
   rw [this]
   exact sf_out hm ha x (by omega)
theorem stp_first {b : Int} {n : Nat} {l m : List Int} (hw : Whole n m) (hn : 1≤n) (ho : ordP b n l) : ∃ i,i < n∧stp b l m i ≠ 0 := by
 have hl := whole_len hw
 have h0 := whole_mem hw 0 (by omega)
 refine ⟨(m.getD 0 0).toNat,by omega,?_⟩
 rw [stp_at hw (by omega)]
 show rSt b l m 0 + dist (rAt b l m 0) (pl l (m.getD 0 0).toNat) ≠ 0
 have := dist_pos (a := b) (b := pl l (m.getD 0 0).toNat) (fun e => (ho (m.getD 0 0).toNat (by omega)).1 e.symm)
 show 0 + dist b _ ≠ 0
 omega
theorem rds_mem_whole {n f : Nat} (hf : f≤n) : ∀ r ∈ rds n n f f [],Whole n r := rds_whole n f f [] (by omega) (begun_nil hf)
theorem shL_least {b : Int} {n f : Nat} {l : List Int} : LeastOf b l (inTB n l) NL (rds n n f f []) (shL b n f l) := foldR_from _
theorem shL_ne {b : Int} {n f : Nat} {l : List Int} (hn : 1≤n) (hf : f≤n) (hn10 : n≤10) (ho : ordP b n l) (h : (shL b n f l).no = false) : eq10 (shL b n f l).st empI = false := by
 obtain ⟨⟨m,h1,h2,h3⟩,_⟩ := shL_least.2 h
 obtain ⟨i,hi,hne⟩ := stp_first (rds_mem_whole hf m h1) hn ho
 exact eq10_false (i := i) (by omega) (by rw [h3]; exact hne)
end Go.Pier.Rd
namespace Go.Pier.Rd
open Go Go.Pier Go.Proofs
noncomputable def nnB : Code := Try.f103.body.getD .skip
noncomputable def nnE : VEnv := { orc := orcOr orcA10 prO }
noncomputable def nnV :=
fun (n:Nat) (st:Nat→Int)↦Ob True∧True∧Ob (eq10 (l10 (st 0) (st 1) (st 2) (st 3) (st 4) (st 5) (st 6) (st 7) (st 8) (st 9)) (l10 (0:Int) (0:Int) (0:Int) (0:Int) (0:Int) (0:Int) (0:Int) (0:Int) (0:Int) (0:Int))=eq10 st empI)∧True
theorem nnV_eq : nnV = fun (n : Nat) (st : Nat→Int) => vc Try.prog nnE 1 7 true (fun _ => none) nnB [] (argFr 0 [.agg (newS 0 n :: I10 st []).toArray]) [.gone] (retR Try.prog Try.f103 1 (fun b => b) (.bool (eq10 st empI)) [.gone]) := by kernel_rfl
noncomputable def nnN :=
fun (st:Nat→Int)↦Ob True∧True∧Ob (eq10 (l10 (st 0) (st 1) (st 2) (st 3) (st 4) (st 5) (st 6) (st 7) (st 8) (st 9)) (l10 (0:Int) (0:Int) (0:Int) (0:Int) (0:Int) (0:Int) (0:Int) (0:Int) (0:Int) (0:Int))=eq10 st empI)∧True
theorem nnN_eq : nnN = fun (st : Nat→Int) => vc Try.prog nnE 0 7 true (fun _ => none) nnB [] (argFr 0 [.agg (nilS :: I10 st []).toArray]) [] (retR Try.prog Try.f103 0 (fun b => b) (.bool (eq10 st empI)) []) := by kernel_rfl
def nnCt : List Value→Heap→Option (Option Prop × Value × Heap × List Nat) := fun args H => match args with
 | [.agg ⟨[sl,.int .i64 a0,.int .i64 a1,.int .i64 a2,.int .i64 a3,.int .i64 a4,.int .i64 a5,.int .i64 a6,.int .i64 a7,.int .i64 a8,.int .i64 a9]⟩] => match sl with
   | .slice none 0 0 => some (none,.bool (eq10 (l10 a0 a1 a2 a3 a4 a5 a6 a7 a8 a9) empI),H,[])
   | .slice (some ⟨_,0,some 0⟩) _ 0 => some (none,.bool (eq10 (l10 a0 a1 a2 a3 a4 a5 a6 a7 a8 a9) empI),H,[])
   | _ => none
 | _ => none
noncomputable def leastCc (b:Int) (n c f:Nat) (l:List Int) (S:LS):Cc := fun fn args H => match Nat.beq fn 102 with
 | true => match args with
   | [.func (.func 122) ⟨[]⟩ ⟨[.pointer (some ⟨a,0,none⟩),.pointer (some ⟨i,0,none⟩)]⟩,.func (.func 70) ⟨[]⟩ ⟨[]⟩] => match H[a]? with
     | some (.rw [.func (.func 123) ⟨[]⟩ ⟨[.pointer (some ⟨x,0,none⟩)]⟩] none) => match H[x]? with
       | some (.rw [.pointer (some ⟨w,0,none⟩)] none) => match nodupB [0,w,x,a,i,1] with
         | true => some fun Q => Ob (H[0]?=some (ros l)∧H[w]?=some (.rw (walkC b n c f (tmd n)) none)∧H[i]?=some (.rw [.func (.func 61) #[ptr0 w] #[]] none)∧1<H.length) ∧
             (S.no=true→Q (.agg (nilS::I10 empI []).toArray) (H++[.gone]))∧(S.no=false→Q (.agg (newS H.length n::I10 S.st []).toArray) (H++[.gone]))
         | false => none
       | _ => none
     | _ => none
   | _ => none
 | false => none
noncomputable def shE0 : VEnv := { prE1 with cc := ccIn Try.prog prE1 [⟨105,Try.f105,fun _ _ _ => none⟩,⟨106,Try.f106,fun _ _ _ => none⟩] }
noncomputable def shT : Ct := (prT.add 70 lenCt).add 103 nnCt
noncomputable def shE1 (b : Int) (n c : Nat) (l : List Int) (S : LS) : VEnv := { ct := shT,orc := prO,cc := ccOr (leastCc b n c (lg b l n) l S) (ccIn Try.prog shE0 [⟨72,Try.f72,fun _ _ _ => none⟩,⟨57,Try.f57,inv57 b n c l⟩]) }
noncomputable def shE2 (b : Int) (n c : Nat) (l : List Int) (S : LS) : VEnv := { ct := shT,orc := prO,cc := ccIn Try.prog (shE1 b n c l S) [⟨69,Try.f69,fun _ _ _ => none⟩] }
noncomputable def shB : Code := Try.f24.body.getD .skip
def shV (S : LS) : Value := .tuple #[vi (bif S.no then 0 else mxN S.st 9),vi (bif S.no then 12 else 0)]
noncomputable def shV0_s0  (x:Nat) := (0+3+(x:Int).toNat * 1)
noncomputable def shV0_s1 (b:Int) (n:Nat) (c:Nat):Prop := (AObj.rw [vi b,Value.slice (some (ad0 0)) n c] none=AObj.rw [vi b,Value.slice (some (ad0 0)) n c] none∧true=true)
noncomputable def shV0_s2 (b:Int) (n:Nat) (c:Nat) (l:List Int) (x:Nat):List Value := [vi b,Value.slice (some (ad0 0)) n c,vi (↑(lg b l x):Int),Value.bool (bif Nat.beq 3 (shV0_s0 x) then true else tmd x 0),Value.bool (bif Nat.beq 4 (shV0_s0 x) then true else tmd x 1),Value.bool (bif Nat.beq 5 (shV0_s0 x) then true else tmd x 2),Value.bool (bif Nat.beq 6 (shV0_s0 x) then true else tmd x 3),Value.bool (bif Nat.beq 7 (shV0_s0 x) then true else tmd x 4),Value.bool (bif Nat.beq 8 (shV0_s0 x) then true else tmd x 5),Value.bool (bif Nat.beq 9 (shV0_s0 x) then true else tmd x 6),Value.bool (bif Nat.beq 10 (shV0_s0 x) then true else tmd x 7),Value.bool (bif Nat.beq 11 (shV0_s0 x) then true else tmd x 8),Value.bool (bif Nat.beq 12 (shV0_s0 x) then true else tmd x 9)]
noncomputable def shV0_s3 (l:List Int) := (List.map (Value.int IntKind.i64) l)
noncomputable def shV0_s4 (S:LS):Array Value := ⟨[vi (bif S.no then (0:Int) else mxN S.st 9),vi (bif S.no then (12:Int) else (0:Int))]⟩
noncomputable def shV0_s5  := (mxL [(0 : Int),(0 : Int),(0 : Int),(0 : Int),(0 : Int),(0 : Int),(0 : Int),(0 : Int),(0 : Int),(0 : Int)])
noncomputable def shV0_s6  : Prop := (AObj.rw (Value.slice none (0 : Nat) (0 : Nat) :: I10 empI []) none = AObj.rw (Value.slice none (0 : Nat) (0 : Nat) :: I10 empI []) none∧true = true)
noncomputable def shV0_s7  : Prop := (Value.pointer (some { block := (4 : Nat) + (1 : Nat),off := (0 : Nat),spot := none }) = Value.pointer (some { block := (4 : Nat) + (1 : Nat),off := (0 : Nat),spot := none }))
noncomputable def shV0_s8 (S:LS) := (l10 (S.st 0) (S.st 1) (S.st 2) (S.st 3) (S.st 4) (S.st 5) (S.st 6) (S.st 7) (S.st 8) (S.st 9))
noncomputable def shV0_s9  (x:Nat) := (0+(x:Int).toNat * 2)
noncomputable def shV0_s10  : Array Value := { toList := [Value.pointer (some { block := (4 : Nat) + (1 : Nat),off := (0 : Nat),spot := none })] }
noncomputable def shV0_s11 (b:Int) (n:Nat) (c:Nat) (l:List Int) (y:Nat) := (vi b::Value.slice (some (ad0 0)) n c::vi (↑(lg b l y):Int)::B10 (tmd y) [])
noncomputable def shV0_s12 (n:Nat) (c:Nat):Prop := (Value.slice (some (ad0 0)) n c=Value.slice (some (ad0 0)) n c)
noncomputable def shV0_s13 (S:LS):Prop := (Value.tuple ⟨[vi shV0_s5,vi (12:Int)]⟩=Value.tuple (shV0_s4 S))
noncomputable def shV0_s14 (b:Int) (n:Nat) (l:List Int):Bool := (errP b n (intsOf (shV0_s3 l)) !=(0:Int))
noncomputable def shV0 :=
fun (b:Int) (n c:Nat) (l:List Int) (S:LS)↦Ob ((true=true∧Flat (shV0_s3 l))∧okL (Leaf.view (shV0_s3 l) n false))∧((shV0_s14 b n l)=true→((shV0_s14 b n l)=true→Ob (0+11≤11)∧Ob (0+11≤11)∧True∧Ob (Value.tuple ⟨[vi shV0_s5,vi (errP b n (intsOf (shV0_s3 l)))]⟩=Value.tuple (shV0_s4 S)))∧((shV0_s14 b n l)=false→False))∧((shV0_s14 b n l)=false→(∃ (y:Nat),Ob (y≤n)∧(Ob (AObj.ro (shV0_s3 l)=AObj.ro (List.map (nmap1 fun (bq:Nat)↦bq) (shV0_s3 l))∧AObj.sc 6 (AObj.ro (shV0_s3 l))=true)∧Ob (shV0_s1 b n c)∧Ob (shV0_s1 b n c)∧Ob shV0_s6∧Ob (shV0_s1 b n c)∧Ob (AObj.rw (vi b::Value.slice (some (ad0 0)) n c::vi (0:Int)::B10 empB []) none=AObj.rw (shV0_s11 b n c l y) none∧true=true)∧True)∧Ob (ptr0 5=ptr0 5)∧Ob (shV0_s12 n c)∧Ob ((n:Int)=(n:Int))∧Ob ((0:Int)=(y:Int))∧True)∧∀ (x:Nat),Ob (x≤n)→(decide ((x:Int)<(n:Int))=true→Ob ((0:Int)≤(x:Int)∧(x:Int)<(n:Int)∧true=true)∧Ob (ckAsk [CK.i IntKind.i64,CK.i IntKind.i64] (shV0_s3 l) (shV0_s9 x))∧Ob (0+2≤2)∧Ob ((0:Int)≤(x:Int)∧(x:Int)<(↑(10:Nat):Int))∧Ob (BoolAt (vi b::Value.slice (some (ad0 0)) n c::vi (↑(lg b l x):Int)::B10 (tmd x) []) (shV0_s0 x)∧some 1=some 1)∧Ob (some (vi (getI (shV0_s3 l) (shV0_s9 x)))=some (vi (getI (shV0_s3 l) (shV0_s9 x))))∧Ob (some (vi b)=some (vi b))∧(decide (getI (shV0_s3 l) (shV0_s9 x)<b)=true→Ob (IntAt IntKind.i64 (shV0_s2 b n c l x) (0+2)∧some 1=some 1)∧∃ (y:Nat),Ob (y≤n)∧Ob (n-y<n-x)∧(Ob (AObj.ro (shV0_s3 l)=AObj.ro (List.map (nmap1 fun (bqq:Nat)↦bqq) (shV0_s3 l))∧AObj.sc 6 (AObj.ro (shV0_s3 l))=true)∧Ob (shV0_s1 b n c)∧Ob (shV0_s1 b n c)∧Ob shV0_s6∧Ob (shV0_s1 b n c)∧Ob (AObj.rw [vi (bif false then IntKind.i64.wrap ((x:Int)+(1:Int)) else b),Value.slice (some (ad0 0)) n c,vi (bif true then IntKind.i64.wrap ((x:Int)+(1:Int)) else (↑(lg b l x):Int)),Value.bool (bif Nat.beq 3 (shV0_s0 x) then true else tmd x 0),Value.bool (bif Nat.beq 4 (shV0_s0 x) then true else tmd x 1),Value.bool (bif Nat.beq 5 (shV0_s0 x) then true else tmd x 2),Value.bool (bif Nat.beq 6 (shV0_s0 x) then true else tmd x 3),Value.bool (bif Nat.beq 7 (shV0_s0 x) then true else tmd x 4),Value.bool (bif Nat.beq 8 (shV0_s0 x) then true else tmd x 5),Value.bool (bif Nat.beq 9 (shV0_s0 x) then true else tmd x 6),Value.bool (bif Nat.beq 10 (shV0_s0 x) then true else tmd x 7),Value.bool (bif Nat.beq 11 (shV0_s0 x) then true else tmd x 8),Value.bool (bif Nat.beq 12 (shV0_s0 x) then true else tmd x 9)] none=AObj.rw (shV0_s11 b n c l y) none∧true=true)∧True)∧Ob shV0_s7∧Ob (shV0_s12 n c)∧Ob ((n:Int)=(n:Int))∧Ob (IntKind.i64.wrap ((x:Int)+(1:Int))=(y:Int))∧True)∧(decide (getI (shV0_s3 l) (shV0_s9 x)<b)=false→∃ (y:Nat),Ob (y≤n)∧Ob (n-y<n-x)∧(Ob (AObj.ro (shV0_s3 l)=AObj.ro (List.map (nmap1 fun (bqqq:Nat)↦bqqq) (shV0_s3 l))∧AObj.sc 6 (AObj.ro (shV0_s3 l))=true)∧Ob (shV0_s1 b n c)∧Ob (shV0_s1 b n c)∧Ob shV0_s6∧Ob (shV0_s1 b n c)∧Ob (AObj.rw (shV0_s2 b n c l x) none=AObj.rw (shV0_s11 b n c l y) none∧true=true)∧True)∧Ob shV0_s7∧Ob (shV0_s12 n c)∧Ob ((n:Int)=(n:Int))∧Ob (IntKind.i64.wrap ((x:Int)+(1:Int))=(y:Int))∧True))∧(decide ((x:Int)<(n:Int))=false→(false=true→Ob (0+11≤11)∧Ob (0+11≤11)∧True∧Ob (Value.tuple ⟨[vi shV0_s5,vi (0:Int)]⟩=Value.tuple (shV0_s4 S)))∧(false=false→Ob (some (AObj.ro (shV0_s3 l))=some (AObj.ro (shV0_s3 l))∧some (AObj.rw (vi b::Value.slice (some (ad0 0)) n c::vi (↑(lg b l x):Int)::B10 (tmd x) []) none)=some (AObj.rw (vi b::Value.slice (some (ad0 0)) n c::vi (↑(lg b l n):Int)::B10 (tmd n) []) none)∧some (AObj.rw [Value.func (Fn.func 61) shV0_s10 ⟨[]⟩] none)=some (AObj.rw [Value.func (Fn.func (61:FuncId)) shV0_s10 ⟨[]⟩] none)∧1<9)∧(S.no=true→Ob (0+11≤11)∧(true=true→Ob (0+11≤11)∧Ob (0+11≤11)∧True∧Ob (shV0_s13 S))∧(true=false→Ob (0+11≤11)∧Ob (0+11≤11)∧True∧Ob (Value.tuple ⟨[vi (mxL [empI 0,empI 1,empI 2,empI 3,empI 4,empI 5,empI 6,empI 7,empI 8,empI 9]),vi (0:Int)]⟩=Value.tuple (shV0_s4 S))))∧(S.no=false→Ob (0+11≤11)∧(eq10 (shV0_s8 S) empI=true→Ob (0+11≤11)∧Ob (0+11≤11)∧True∧Ob (shV0_s13 S))∧(eq10 (shV0_s8 S) empI=false→Ob (0+11≤11)∧Ob (0+11≤11)∧True∧Ob (Value.tuple ⟨[vi (mxL [S.st 0,S.st 1,S.st 2,S.st 3,S.st 4,S.st 5,S.st 6,S.st 7,S.st 8,S.st 9]),vi (0:Int)]⟩=Value.tuple (shV0_s4 S)))))))
theorem shV0_eq : shV0 = fun (b : Int) (n c : Nat) (l : List Int) (S : LS) => vc Try.prog (shE2 b n c l S) 1 14 true (fun _ => none) shB [] (argFr 0 [pierV b (some ⟨0,0,none⟩) n c]) [ros l] (retK Try.prog Try.f24 (fun v _ => v = shV S)) := by kernel_rfl
theorem l10_same {x : Nat→Int} {i : Nat} (h : i < 10) : l10 (x 0) (x 1) (x 2) (x 3) (x 4) (x 5) (x 6) (x 7) (x 8) (x 9) i = x i := by
 rcases i with _ | _ | _ | _ | _ | _ | _ | _ | _ | _ | i <;> first | rfl | omega
theorem l10_zero {i : Nat} : l10 0 0 0 0 0 0 0 0 0 0 i = 0 := by
 rcases i with _ | _ | _ | _ | _ | _ | _ | _ | _ | _ | i <;> rfl
theorem eq10_l10 {st : Nat→Int} {y : Nat→Int} (hy : ∀ i,y i = 0) : eq10 (l10 (st 0) (st 1) (st 2) (st 3) (st 4) (st 5) (st 6) (st 7) (st 8) (st 9)) y = eq10 st empI := by
 cases h : eq10 st empI with
 | true =>
   refine eq10_true fun i hi => ?_
   have := List.all_eq_true.1 h i (by simp [List.mem_range']; omega)
   rw [l10_same hi,hy]
   exact eq_of_beq this
 | false =>
   obtain ⟨i,hi,h1⟩ := List.all_eq_false.1 h
   simp [List.mem_range'] at hi
   exact eq10_false (i := i) (by omega) (by rw [l10_same (by omega),hy]; intro e; exact h1 (by rw [e]; rfl))
theorem nnV_ok (n : Nat) (st : Nat→Int) : nnV n st := by
 unfold nnV
 simp only [SS,reduceCtorEq,Arg.list,Arg.num,Arg.flag,intOf,andP,Nat.reduceLeDiff,Nat.reduceAdd,Nat.reduceMul,Nat.reduceLT]
 exact eq10_l10 fun _ => l10_zero
theorem nnN_ok (st : Nat→Int) : nnN st := by
 unfold nnN
 simp only [SS,reduceCtorEq,Arg.list,Arg.num,Arg.flag,intOf,andP,Nat.reduceLeDiff,Nat.reduceAdd,Nat.reduceMul,Nat.reduceLT]
 exact eq10_l10 fun _ => l10_zero
theorem shV0_ok (b : Int) (n c : Nat) (l : List Int) (S : LS) (hl : l.length = n * 2) (hP : errP b n l = 0) (hne : S.no = false→eq10 S.st empI = false) : shV0 b n c l S := by
 have hn : n≤1000000 := by have := (errP_cases hP).1; omega
 have fo : Flat (List.map (Value.int .i64) l)∧okL (.view (List.map (Value.int .i64) l) n false) := ⟨flat_ints,okL_ints hl hn⟩
 unfold shV0 shV0_s14 shV0_s13 shV0_s12 shV0_s11 shV0_s10 shV0_s9 shV0_s8 shV0_s7 shV0_s6 shV0_s5 shV0_s4 shV0_s3 shV0_s2 shV0_s1 shV0_s0
 simp only [SS,reduceCtorEq,Arg.list,Arg.num,Arg.flag,intOf,andP,Nat.reduceLeDiff,Nat.reduceAdd,Nat.reduceMul,Nat.reduceLT,errT,ckAsk,CK.ask,pl_fold,tw_fold,nb1_1,nb1_2,nb1_3,nb1_4,nb1_5,nb1_6,nb1_7,nb1_8,nb1_9,nb1_10,nb3_3,nb3_4,nb3_5,nb3_6,nb3_7,nb3_8,nb3_9,nb3_10,nb3_11,nb3_12,cond_true,cond_false,tmd_step,getI_2b,intAt_2b,mxL_zero,mxL_fold]
 refine ⟨fo,fun h1 => absurd hP h1,fun h1 => ?_⟩
 obtain ⟨⟨n1,n2⟩,hr,ho⟩ := errP_cases hP
 refine ⟨⟨0,by omega,⟨rfl,tmd_zero⟩,rfl⟩,fun x hx => ⟨fun h2 => ?_,fun h2 => ?_⟩⟩
 · have hx10 : x < 10 := by omega
   refine ⟨by omega,by omega,by omega,B10_at hx10,fun h3 => ⟨rfl,x + 1,by omega,by omega,⟨?_,rfl⟩,wrap_succ (n := n) (by omega) hn⟩,fun h3 => ⟨x + 1,by omega,by omega,⟨?_,rfl⟩,wrap_succ (n := n) (by omega) hn⟩⟩
   · rw [lg,if_pos h3]; exact wrap_succ (n := n) (by omega) hn
   · rw [lg,if_neg h3]
 have ex : x = n := by omega
 subst ex
 refine ⟨⟨rfl,rfl⟩,fun h => ?_,fun h => ⟨fun h3 => ?_,fun h3 => ?_⟩⟩
 · rw [h]; rfl
 · rw [eq10_l10 (y := empI) (fun _ => rfl),hne h] at h3; cases h3
 · rw [h]; rfl
theorem nnE_ok : VOk Try.prog nnE := ⟨CtOk.none,E0_ok.cc,E0_ok.yc,orcOr_ok orcA10_ok prE1_ok.orc⟩
theorem nnV_call (n : Nat) (st : Nat→Int) : Call Try.prog 103 [.agg (newS 0 n :: I10 st []).toArray] [.gone] fun v H' => v = .bool (eq10 st empI)∧H' = [.gone] :=
 Call.ofVcR (H := [.gone]) (args := [.agg (newS 0 n :: I10 st []).toArray]) nnE_ok mixed (c := nnB) Try.func103 (by kernel_rfl) (cast (congrFun (congrFun nnV_eq n) st) (nnV_ok n st))
theorem nnN_call (st : Nat→Int) : Call Try.prog 103 [.agg (nilS :: I10 st []).toArray] [] fun v H' => v = .bool (eq10 st empI)∧H' = [] :=
 Call.ofVcR (H := []) (args := [.agg (nilS :: I10 st []).toArray]) nnE_ok mixed (c := nnB) Try.func103 (by kernel_rfl) (cast (congrFun nnN_eq st) (nnN_ok st))
theorem nn_ok : ∀ args H φ v H' l,nnCt args H = some (φ,v,H',l)→Asks φ→Call Try.prog 103 args H (fun v' H2 => v' = v∧H2 = H')∧Kept H H' l := by
 intro args H φ v H' l h _
 unfold nnCt at h
 split at h <;> try (cases h; done)
 rename_i sl a0 a1 a2 a3 a4 a5 a6 a7 a8 a9
 split at h <;> cases h
 · exact ⟨nil_any (cs := I10 (l10 a0 a1 a2 a3 a4 a5 a6 a7 a8 a9) []) rfl rfl (nnN_call (l10 a0 a1 a2 a3 a4 a5 a6 a7 a8 a9)),Kept.refl _ _⟩
 · exact ⟨slot_any (cs := I10 (l10 a0 a1 a2 a3 a4 a5 a6 a7 a8 a9) []) rfl rfl (nnV_call _ (l10 a0 a1 a2 a3 a4 a5 a6 a7 a8 a9)) _,Kept.refl _ _⟩
theorem B6_at {σ : Nat→Nat} {b : Int} {n c f : Nat} {l : List Int} (h0 : σ 0 = 0) : (B6 b n c f l).map (omap σ) = [ros l,.rw (walkC b n c f (tmd n)) none,.rw [ptr0 (σ 1)] none,.rw [.func (.func 123) #[] #[ptr0 (σ 2)]] none,.rw [.func (.func 61) #[ptr0 (σ 1)] #[]] none,.gone] := by
 unfold B6
 simp only [List.map_cons,List.map_nil,ros_omap,walk_omap h0]
 have e2 : omap σ (AObj.rw [ptr0 1] none) = .rw [ptr0 (σ 1)] none := rfl
 have e3 : omap σ (AObj.rw [tripsF] none) = .rw [.func (.func 123) #[] #[ptr0 (σ 2)]] none := by simp [omap,tripsF,nmap1,nmapFn,nmap0,am]
 have e4 : omap σ (AObj.rw [Value.func (.func 61) #[ptr0 1] #[]] none) = .rw [Value.func (.func 61) #[ptr0 (σ 1)] #[]] none := by simp [omap,nmap1,nmapFn,nmapA,nmap0,am]
 rw [e2,e3,e4]; rfl
theorem B6_nm {b : Int} {n c f : Nat} {l : List Int} : ∀ o ∈ B6 b n c f l,o.nm tt' = true := by
 refine List.all_eq_true.1 ?_
 unfold B6
 simp only [List.all_cons,List.all_nil,ros_nm,Bool.and_true,Bool.true_and]
 kernel_rfl
theorem least_at {b : Int} {n c f w x a i : Nat} {l : List Int} {H : Heap} (hl : l.length = n * 2) (hn : n≤10) (hr : rngP b n l) (hn1 : 1≤n) (hf : f≤n) (hnd : nodupB [0,w,x,a,i,1] = true)
   (h0 : H[0]? = some (ros l)) (hw : H[w]? = some (.rw (walkC b n c f (tmd n)) none)) (hx : H[x]? = some (.rw [ptr0 w] none)) (ha : H[a]? = some (.rw [.func (.func 123) #[] #[ptr0 x]] none)) (hi : H[i]? = some (.rw [.func (.func 61) #[ptr0 w] #[]] none)) (h1 : 1 < H.length) :
   Call Try.prog 102 [.func (.func 122) #[] #[ptr0 a,ptr0 i],lnF] H fun v H' => v = .agg (slotV (shL b n f l).no H.length n :: I10 (shL b n f l).st []).toArray∧H' = H ++ [.gone] := by
 have lt : ∀ {k : Nat} {o : AObj},H[k]? = some o→k < H.length := fun h => (List.getElem?_eq_some_iff.1 h).1
 have hlt : ∀ y ∈ [0,w,x,a,i,1],y < H.length := fun y hy => by
   simp only [List.mem_cons,List.not_mem_nil,or_false] at hy
   rcases hy with rfl | rfl | rfl | rfl | rfl | rfl
   · exact lt h0
   · exact lt hw
   · exact lt hx
   · exact lt ha
   · exact lt hi
   · exact h1
 have hm1 := B6_at (σ := fun c => [0,w,x,a,i,1].getD c 0) (b := b) (n := n) (c := c) (f := f) (l := l) rfl
 have hm2 := B6_at (σ := nameL [0,w,x,a,i,1] 6 H.length) (b := b) (n := n) (c := c) (f := f) (l := l) rfl
 have hmem : ∀ (c' : Nat) (o : AObj),([ros l,.rw (walkC b n c f (tmd n)) none,.rw [ptr0 w] none,.rw [.func (.func 123) #[] #[ptr0 x]] none,.rw [.func (.func 61) #[ptr0 w] #[]] none,.gone] : Heap)[c']? = some o→o = .gone∨H[[0,w,x,a,i,1].getD c' 0]? = some o := fun c' o hc => by
   rcases c' with _ | _ | _ | _ | _ | _ | c'
   · cases hc; exact .inr h0
   · cases hc; exact .inr hw
   · cases hc; exact .inr hx
   · cases hc; exact .inr ha
   · cases hc; exact .inr hi
   · cases hc; exact .inl rfl
   · simp at hc
 have hso : ∀ o ∈ ([ros l,.rw (walkC b n c f (tmd n)) none,.rw [ptr0 w] none,.rw [.func (.func 123) #[] #[ptr0 x]] none,.rw [.func (.func 61) #[ptr0 w] #[]] none,.gone] : Heap),o.sc H.length = true := fun o ho => by
   have hw' := lt hw
   have hx' := lt hx
   have h0' := lt h0
   simp only [List.mem_cons,List.not_mem_nil,or_false] at ho
   rcases ho with rfl | rfl | rfl | rfl | rfl | rfl
   · exact ros_sc
   · show ((vi b :: sl0 n c :: vi f :: B10 (tmd n) []).all _) = true; simp [sl0,B10,sc1,sc0]; omega
   · simp [AObj.sc,sc1,sc0]; omega
   · simp [AObj.sc,sc1,sc0,scA]; omega
   · simp [AObj.sc,sc1,sc0,scA]; omega
   · rfl
 have := (Call.frameG (H := H) (Et := B6 b n c f l) (Ft := B6 b n c f l) (N := [.gone]) (L := [0,w,x,a,i,1]) (vs := [.func (.func 122) #[] #[ptr0 a,ptr0 i],lnF]) rfl rfl (nodupB_ok hnd) hlt
   (fun c' o hc => by
     have h2 : ((B6 b n c f l).map (omap fun c => [0,w,x,a,i,1].getD c 0))[c']? = some (omap (fun c => [0,w,x,a,i,1].getD c 0) o) := by rw [List.getElem?_map,hc]; rfl
     rw [hm1] at h2
     rcases hmem c' _ h2 with h3 | h3
     · left
       cases o <;> first | rfl | (cases h3; done)
     · exact .inr h3)
   (fun o ho => B6_sc o ho) (by simp [allF,lnF,nmap,nmap2,nmap1,nmapFn,nmap0,am]) (by kernel_rfl) (least_ok b n c f l hl hn hr hn1 hf)
   (fun o ho => by
     show o.nm (fun d => decide (d < 6) || decide (6≤d)) = true
     rw [any_nm rfl]
     rcases List.mem_append.1 ho with h2 | h2
     · exact B6_nm o h2
     · rw [List.mem_singleton.1 h2]; rfl)
   (fun o ho => by rw [List.mem_singleton.1 ho]; rfl)
   (by
     show nm (fun d => decide (d < 6) || decide (6≤d)) _ = true
     rw [any_nm rfl]
     cases (shL b n f l).no with
     | true =>
       show (nilS :: I10 _ []).toArray.all (nm1 tt') = true
       rw [← Array.all_toList]; rfl
     | false => exact agg_nm rfl rfl)
   (fun o ho => by
     rcases List.mem_append.1 ho with h2 | h2
     · have h3 := List.mem_map_of_mem (f := omap (nameL [0,w,x,a,i,1] 6 H.length)) h2
       rw [hm2] at h3
       exact AObj.sc_mono (Nat.le_add_right _ _) (hso _ h3)
     · rw [List.mem_singleton.1 h2]; rfl)
   (by
     rw [agg_slot]
     exact agg_slot_sc (show H.length + (6 - 6) < H.length + 1 by omega))).1
 refine this.mono fun v H' hh => ⟨by rw [hh.1,agg_slot]; rfl,?_⟩
 rw [hh.2]
 congr 1
 refine setG_same _ _ _ _ fun c' b' e o k1 k2 k3 k4 => ?_
 have h2 : (List.map (omap (nameL [0,w,x,a,i,1] 6 H.length)) (B6 b n c f l))[c']? = some o := k4
 rw [hm2] at h2
 rcases hmem c' o h2 with h3 | h3
 · subst h3
   rw [List.getElem?_map,k1,Option.map_some,Option.some.injEq] at k4
   cases e <;> first | (cases k2; done) | (cases k4; done)
 · rwa [natD_of_get k3] at h3
theorem leastCc_ok {b : Int} {n c f : Nat} {l : List Int} (hl : l.length = n * 2) (hn : n≤10) (hr : rngP b n l) (hn1 : 1≤n) (hf : f≤n) : CcOk Try.prog (leastCc b n c f l (shL b n f l)) := by
 intro fn args H T hT Q hQ
 unfold leastCc at hT
 split at hT <;> try (cases hT; done)
 rename_i hfn
 obtain rfl := Nat.eq_of_beq_eq_true hfn
 split at hT <;> try (cases hT; done)
 rename_i a i
 split at hT <;> try (cases hT; done)
 rename_i x ha
 split at hT <;> try (cases hT; done)
 rename_i w hx
 split at hT <;> cases hT
 rename_i hnd
 obtain ⟨hO,q1,q2⟩ := hQ
 obtain ⟨h0,hw,hi,h1⟩ := hO.out
 refine (least_at hl hn hr hn1 hf hnd h0 hw hx ha hi h1).mono fun v H' hh => ?_
 rw [hh.1,hh.2]
 have e := shL_emp (b := b) (n := n) (f := f) (l := l)
 cases hno : (shL b n f l).no with
 | true => rw [e hno]; exact q1 hno
 | false => exact q2 hno
theorem shT_ok : CtOk Try.prog shT := (prT_ok.add len_ok).add nn_ok
theorem shE2_ok {b : Int} {n c : Nat} {l : List Int} (hl : l.length = n * 2) (hP : errP b n l = 0) : VOk Try.prog (shE2 b n c l (shL b n (lg b l n) l)) := by
 obtain ⟨⟨n1,n2⟩,hr,ho⟩ := errP_cases hP
 have h0 : VOk Try.prog shE0 := ⟨prE1_ok.ct,ccIn_ok prE1_ok mixed (inl_two Try.func105 Try.func106),E0_ok.yc,prE1_ok.orc⟩
 have h1 : VOk Try.prog (shE1 b n c l (shL b n (lg b l n) l)) := ⟨shT_ok,ccOr_ok (leastCc_ok hl n2 hr n1 (lg_spec n).1) (ccIn_ok h0 mixed (inl_two Try.func72 Try.func57)),E0_ok.yc,prE1_ok.orc⟩
 exact ⟨shT_ok,ccIn_ok h1 mixed (inl_one Try.func69),E0_ok.yc,prE1_ok.orc⟩
theorem sh_call (b : Int) (n c : Nat) (l : List Int) (hl : l.length = n * 2) (hP : errP b n l = 0) : Call Try.prog 24 [pierV b (some ⟨0,0,none⟩) n c] [ros l] fun v _ => v = shV (shL b n (lefts b n l) l) := by
 obtain ⟨⟨n1,n2⟩,hr,ho⟩ := errP_cases hP
 have h := shV0_ok b n c l (shL b n (lg b l n) l) hl hP (shL_ne n1 (lg_spec n).1 n2 ho)
 rw [shV0_eq] at h
 rw [← lg_lefts ho]
 exact Call.ofVc (H := [ros l]) (args := [pierV b (some ⟨0,0,none⟩) n c]) (shE2_ok (c := c) hl hP) mixed (c := shB) (inv := fun _ => none) (R := fun v _ => v = shV (shL b n (lg b l n) l)) Try.func24 (by kernel_rfl) (cast (by kernel_rfl) h)
noncomputable def specQ (F : Int→Nat→List Int→Value) : List Arg3→Option (Prop × Value)
 | [.agg [.plain (.int .i64 b),.view cs n r]] => some (okL (.view cs n r)∧errP b n (intsOf cs) = 0,F b n (intsOf cs))
 | _ => none
theorem specQ_ok {f : FuncId} {F : Int→Nat→List Int→Value} (hv : ∀ b n l,sc 0 (F b n l) = true)
   (hV : ∀ b n c l,l.length = n * 2→errP b n l = 0→Call Try.prog f [pierV b (some ⟨0,0,none⟩) n c] [ros l] fun v _ => v = F b n l) :
   ∀ args H φ v H' l,pure3 psP (specQ F) args H = some (φ,v,H',l)→Asks φ→Call Try.prog f args H (fun v' H2 => v' = v∧H2 = H')∧Kept H H' l :=
 pure3_ok fun r ψ v hk hs hψ => by
   obtain ⟨b,lf,rfl,hl⟩ := kinds_pier hk
   rcases hl with rfl | ⟨s,rfl⟩ | ⟨cs,n,rfl⟩
   · cases hs
   · cases hs
   · cases hs
     refine ⟨hv _ _ _,fun caps _ => ?_⟩
     obtain ⟨⟨h1,h2,h3⟩,h5⟩ := hψ
     have h4 := hV b n (caps 0) (intsOf cs) (by rw [← h2,intsOf,List.length_map]) h5
     have e : canonH3 [.agg [.plain (.int .i64 b),.view cs n false]] = [ros (intsOf cs)] := by
       show [AObj.ro cs] = [.ro ((intsOf cs).map (.int .i64))]
       rw [← h1]
     rw [e]
     exact h4
noncomputable def shF (b : Int) (n : Nat) (l : List Int) : Value := shV (shL b n (lefts b n l) l)
theorem shG_ok : ∀ args H φ v H' l,pure3 psP (specQ shF) args H = some (φ,v,H',l)→Asks φ→Call Try.prog 24 args H (fun v' H2 => v' = v∧H2 = H')∧Kept H H' l :=
 specQ_ok (fun _ _ _ => by simp [shF,shV,sc,sc2,sc1,sc0]) sh_call
end Go.Pier.Rd
namespace Go.Pier.Rd
open Go Go.Pier Go.Proofs
noncomputable def spB : Code := Try.f107.body.getD .skip
noncomputable def sqB : Code := Try.f108.body.getD .skip
def xB (s : Int) : AObj := .rw [vi s] none
def spF (g : Nat) : Value := .func (.func g) #[] #[ptr0 5]
def NS (s : Int) (st : Nat→Int) : Int := st s.toNat
def NT (s : Int) (st : Nat→Int) : Int := IntKind.i64.wrap (0 - st s.toNat)
noncomputable def spV0 (n:Nat) (x:Nat→Int) := (Value.slice (some ⟨1,0,some 0⟩) n 0::I10 x [])
noncomputable def spV :=
fun (n:Nat) (s:Int) (x:Nat→Int)↦Ob (some (vi s)=some (vi s))∧Ob ((0:Int)≤s∧s<(↑(10:Nat):Int))∧Ob (IntAt IntKind.i64 (spV0 n x) (0+1+s.toNat * 1))∧(Ob (AObj.rw [vi s] none=AObj.rw [vi s] none∧true=true)∧True)∧Ob (getI (spV0 n x) (0+1+s.toNat * 1)=NS s x)∧True
theorem spV_eq : spV = fun (n : Nat) (s : Int) (x : Nat→Int) => vc Try.prog prE1 2 8 true (fun _ => none) spB [] (argFr 0 [.agg (newS 1 n :: I10 x []).toArray,ptr0 0]) [xB s,.gone] (retR Try.prog Try.f107 2 (fun b => b) (vi (NS s x)) [xB s,.gone]) := by kernel_rfl
noncomputable def sqV0 (n:Nat) (x:Nat→Int) := (Value.slice (some ⟨1,0,some 0⟩) n 0::I10 x [])
noncomputable def sqV :=
fun (n:Nat) (s:Int) (x:Nat→Int)↦Ob (some (vi s)=some (vi s))∧Ob ((0:Int)≤s∧s<(↑(10:Nat):Int))∧Ob (IntAt IntKind.i64 (sqV0 n x) (0+1+s.toNat * 1))∧(Ob (AObj.rw [vi s] none=AObj.rw [vi s] none∧true=true)∧True)∧Ob (IntKind.i64.wrap ((0:Int)-getI (sqV0 n x) (0+1+s.toNat * 1))=NT s x)∧True
theorem sqV_eq : sqV = fun (n : Nat) (s : Int) (x : Nat→Int) => vc Try.prog prE1 2 9 true (fun _ => none) sqB [] (argFr 0 [.agg (newS 1 n :: I10 x []).toArray,ptr0 0]) [xB s,.gone] (retR Try.prog Try.f108 2 (fun b => b) (vi (NT s x)) [xB s,.gone]) := by kernel_rfl
def spCt (N : Int→(Nat→Int)→Int) (s : Int) : List Value→Heap→Option (Option Prop × Value × Heap × List Nat) := fun args H => match args with
 | [.agg ⟨[.slice (some ⟨k,0,some 0⟩) _ 0,.int .i64 a0,.int .i64 a1,.int .i64 a2,.int .i64 a3,.int .i64 a4,.int .i64 a5,.int .i64 a6,.int .i64 a7,.int .i64 a8,.int .i64 a9]⟩,.pointer (some ⟨5,0,none⟩)] => match Nat.beq k 5 with
   | false => some (some (H[5]? = some (xB s)∧0≤s∧s < 10),vi (N s (l10 a0 a1 a2 a3 a4 a5 a6 a7 a8 a9)),H,[])
   | true => none
 | _ => none
noncomputable def spT (s : Int) : Ct := (Ct.none.add 107 (spCt NS s)).add 108 (spCt NT s)
noncomputable def y0Es (s : Int) : VEnv := { ct := spT s }
noncomputable def y1Es (b : Int) (n c f : Nat) (l : List Int) (s : Int) : VEnv := { ct := Ct.none.add 61 (itCt b n c f l),yc := ycIn Try.prog (y0Es s) (fun _ => none) }
noncomputable def y1As0  : Array Value := { toList := [Value.func (Fn.func (122 : FuncId)) { toList := [] } { toList := [ptr0 3,ptr0 4] },Value.func (Fn.func (107 : Nat)) { toList := [] } { toList := [ptr0 5] },junk,ptr0 6,ptr0 7,ptr0 8,ptr0 9,junk,Value.func (Fn.func (122 : FuncId)) { toList := [] } { toList := [ptr0 3,ptr0 4] },junk,junk,junk,junk,junk,junk,junk,junk,junk,junk,junk,junk,junk] }
noncomputable def y1As1  : Array Value := { toList := [Value.func (Fn.yield (10 : Nat)) { toList := [] } { toList := [] },ptr0 3,ptr0 4,ptr0 11,junk,Value.func (Fn.func (123 : FuncId)) { toList := [] } { toList := [ptr0 2] },junk,junk,junk,junk,junk,junk,junk,junk,junk,junk] }
noncomputable def y1As2  : Array Value := { toList := [Value.func (Fn.yield (12 : Nat)) { toList := [] } { toList := [] },ptr0 2,ptr0 13,junk,ptr0 1,Value.func (Fn.func (133 : FuncId)) { toList := [] } { toList := [ptr0 14] },junk,junk,junk,junk,junk,junk,junk] }
noncomputable def y1As3 (n:Nat) (x:Nat→Int) := (Value.slice (some ⟨17,0,some 0⟩) n 0::I10 x [])
noncomputable def y1As4  := (Value.slice none (0 : Nat) (0 : Nat) :: I10 empI [])
noncomputable def y1As5  : List Value := [Value.func (Fn.func (123 : FuncId)) { toList := [] } { toList := [ptr0 2] }]
noncomputable def y1As6  : List Value := [Value.func (Fn.func (61 : FuncId)) { toList := [ptr0 1] } { toList := [] }]
noncomputable def y1As7  : List Value := [Value.func (Fn.func (107 : Nat)) { toList := [] } { toList := [ptr0 5] }]
noncomputable def y1As8  : List Value := [Value.func (Fn.yield (10 : Nat)) { toList := [] } { toList := [] }]
noncomputable def y1As9  : List Value := [Value.func (Fn.yield (12 : Nat)) { toList := [] } { toList := [] }]
noncomputable def y1As10 (b:Int) (n:Nat) (c:Nat) (f:Nat) := (vi b::Value.slice (some (ad0 0)) n c::vi (f:Int)::B10 (tmd n) [])
noncomputable def y1As11  := (Value.func (Fn.func (107 : Nat)) { toList := [] } { toList := [ptr0 5] })
noncomputable def y1As12 (x:Nat→Int) := (l10 (x 0) (x 1) (x 2) (x 3) (x 4) (x 5) (x 6) (x 7) (x 8) (x 9))
noncomputable def y1As13  := (Value.int IntKind.i64)
noncomputable def y1As :=
fun (b:Int) (n c f:Nat) (l m:List Int) (s:Int) (x:Nat→Int)↦Ob (0+11≤11)∧Ob (AtW b n c f l [AObj.ro (List.map y1As13 l),AObj.rw (y1As10 b n c f) none,AObj.rw [ptr0 1] none,AObj.rw y1As5 none,AObj.rw y1As6 none,AObj.rw [vi s] none,AObj.rw y1As7 none,AObj.rw y1As4 none,AObj.rw y1As4 none,AObj.rw [Value.bool true] none,AObj.loop LoopState.ready none y1As0 ⟨[9]⟩ y1_c0 y1_c1,AObj.rw y1As8 none,AObj.loop LoopState.busy none y1As1 ⟨[6]⟩ y1_c2 y1_c3,AObj.rw y1As9 none,AObj.rw [ptr0 1] none,AObj.loop LoopState.busy none y1As2 ⟨[6]⟩ y1_c4 y1_c5,AObj.gone,AObj.rw (List.map y1As13 m) (some 1),AObj.rw (y1As3 n x) none]∧l.length=n * 2∧n≤10)∧(inTB n l (y1As12 x)=true→Ob (0+11≤11)∧Ob (some (Value.bool true)=some (Value.bool true))∧(true=false→Ob (some (AObj.rw [vi s] none)=some (AObj.rw [vi s] none)∧(0:Int)≤s∧s<(10:Int))∧False)∧(true=true→Ob (11≤11)∧Ob (1≤1)∧(false=true→Ob (YR b n c f l m y1As11 (AObj.rw [vi s] none) LoopState.busy (stepL (inTB n l) (NS s) { no := true,st := empI } x) (Value.bool false) [AObj.ro (List.map y1As13 l),AObj.rw (y1As10 b n c f) none,AObj.rw [ptr0 1] none,AObj.rw y1As5 none,AObj.rw y1As6 none,AObj.rw [vi s] none,AObj.rw y1As7 none,AObj.rw y1As4 none,AObj.rw (y1As3 n x) none,AObj.rw [Value.bool false] none,AObj.loop LoopState.ready none y1As0 ⟨[9]⟩ y1_c0 y1_c1,AObj.rw y1As8 none,AObj.loop LoopState.done (some Code.ret) y1As1 ⟨[6]⟩ y1_c2 y1_c3,AObj.rw y1As9 none,AObj.rw [ptr0 1] none,AObj.loop LoopState.busy none y1As2 ⟨[6]⟩ y1_c4 y1_c5,AObj.gone,AObj.rw (List.map y1As13 m) (some 1),AObj.rw (y1As3 n x) none,AObj.rw (y1As3 n x) none]))∧(false=false→Ob (YR b n c f l m y1As11 (AObj.rw [vi s] none) LoopState.busy (stepL (inTB n l) (NS s) { no := true,st := empI } x) (Value.bool true) [AObj.ro (List.map y1As13 l),AObj.rw (y1As10 b n c f) none,AObj.rw [ptr0 1] none,AObj.rw y1As5 none,AObj.rw y1As6 none,AObj.rw [vi s] none,AObj.rw y1As7 none,AObj.rw y1As4 none,AObj.rw (y1As3 n x) none,AObj.rw [Value.bool false] none,AObj.loop LoopState.ready none y1As0 ⟨[9]⟩ y1_c0 y1_c1,AObj.rw y1As8 none,AObj.loop LoopState.ready none y1As1 ⟨[6]⟩ y1_c2 y1_c3,AObj.rw y1As9 none,AObj.rw [ptr0 1] none,AObj.loop LoopState.busy none y1As2 ⟨[6]⟩ y1_c4 y1_c5,AObj.gone,AObj.rw (List.map y1As13 m) (some 1),AObj.rw (y1As3 n x) none,AObj.rw (y1As3 n x) none]))))∧(inTB n l (y1As12 x)=false→Ob (YR b n c f l m y1As11 (AObj.rw [vi s] none) LoopState.busy (stepL (inTB n l) (NS s) { no := true,st := empI } x) (Value.bool true) [AObj.ro (List.map y1As13 l),AObj.rw (y1As10 b n c f) none,AObj.rw [ptr0 1] none,AObj.rw y1As5 none,AObj.rw y1As6 none,AObj.rw [vi s] none,AObj.rw y1As7 none,AObj.rw y1As4 none,AObj.rw y1As4 none,AObj.rw [Value.bool true] none,AObj.loop LoopState.ready none y1As0 ⟨[9]⟩ y1_c0 y1_c1,AObj.rw y1As8 none,AObj.loop LoopState.ready none y1As1 ⟨[6]⟩ y1_c2 y1_c3,AObj.rw y1As9 none,AObj.rw [ptr0 1] none,AObj.loop LoopState.busy none y1As2 ⟨[6]⟩ y1_c4 y1_c5,AObj.gone,AObj.rw (List.map y1As13 m) (some 1),AObj.rw (y1As3 n x) none]))
theorem y1As_eq : y1As = fun (b : Int) (n c f : Nat) (l m : List Int) (s : Int) (x : Nat→Int) => ycT (ycIn Try.prog (y1Es b n c f l s) (fun _ => none) 12 [.agg (newS 17 n :: I10 x []).toArray] (EG b n c f l m (spF 107) (xB s) .busy true 16 empI)) (fun v H' => Ob (YR b n c f l m (spF 107) (xB s) .busy (stepL (inTB n l) (NS s) ⟨true,empI⟩ x) v H')) := by kernel_rfl
noncomputable def y1Bs0  : Array Value := { toList := [Value.func (Fn.func (122 : FuncId)) { toList := [] } { toList := [ptr0 3,ptr0 4] },Value.func (Fn.func (107 : Nat)) { toList := [] } { toList := [ptr0 5] },junk,ptr0 6,ptr0 7,ptr0 8,ptr0 9,junk,Value.func (Fn.func (122 : FuncId)) { toList := [] } { toList := [ptr0 3,ptr0 4] },junk,junk,junk,junk,junk,junk,junk,junk,junk,junk,junk,junk,junk] }
noncomputable def y1Bs1 (b:Int) (n:Nat) (c:Nat) (f:Nat) (l:List Int) (m:List Int) (s:Int) (x:Nat→Int) (st:Nat→Int) := (YR b n c f l m (Value.func (Fn.func 107) ⟨[]⟩ ⟨[ptr0 5]⟩) (AObj.rw [vi s] none) LoopState.busy (stepL (inTB n l) (NS s) { no := false,st := st } x) (Value.bool false) [AObj.ro (List.map (Value.int IntKind.i64) l),AObj.rw (vi b::Value.slice (some (ad0 0)) n c::vi (f:Int)::B10 (tmd n) []) none,AObj.rw [ptr0 1] none,AObj.rw [Value.func (Fn.func (123:FuncId)) ⟨[]⟩ ⟨[ptr0 2]⟩] none,AObj.rw [Value.func (Fn.func (61:FuncId)) ⟨[ptr0 1]⟩ ⟨[]⟩] none,AObj.rw [vi s] none,AObj.rw [Value.func (Fn.func 107) ⟨[]⟩ ⟨[ptr0 5]⟩] none,AObj.rw (Value.slice none 0 0::I10 empI []) none,AObj.rw (Value.slice (some ⟨17,0,some 0⟩) n 0::I10 x []) none,AObj.rw [Value.bool false] none,AObj.loop LoopState.ready none y1Bs0 ⟨[9]⟩ y1_c0 y1_c1,AObj.rw [Value.func (Fn.yield 10) ⟨[]⟩ ⟨[]⟩] none,AObj.loop LoopState.done (some Code.ret) ⟨[Value.func (Fn.yield 10) ⟨[]⟩ ⟨[]⟩,ptr0 3,ptr0 4,ptr0 11,junk,Value.func (Fn.func (123:FuncId)) ⟨[]⟩ ⟨[ptr0 2]⟩,junk,junk,junk,junk,junk,junk,junk,junk,junk,junk]⟩ ⟨[6]⟩ y1_c2 y1_c3,AObj.rw [Value.func (Fn.yield 12) ⟨[]⟩ ⟨[]⟩] none,AObj.rw [ptr0 1] none,AObj.loop LoopState.busy none ⟨[Value.func (Fn.yield 12) ⟨[]⟩ ⟨[]⟩,ptr0 2,ptr0 13,junk,ptr0 1,Value.func (Fn.func (133:FuncId)) ⟨[]⟩ ⟨[ptr0 14]⟩,junk,junk,junk,junk,junk,junk,junk]⟩ ⟨[6]⟩ y1_c4 y1_c5,AObj.gone,AObj.rw (List.map (Value.int IntKind.i64) m) (some 1),AObj.rw (Value.slice (some ⟨17,0,some 0⟩) n 0::I10 x []) none,AObj.rw (Value.slice (some ⟨17,0,some 0⟩) n 0::I10 x []) none])
noncomputable def y1Bs2 (b:Int) (n:Nat) (c:Nat) (f:Nat) (l:List Int) (m:List Int) (s:Int) (x:Nat→Int) (st:Nat→Int) := (YR b n c f l m (Value.func (Fn.func 107) ⟨[]⟩ ⟨[ptr0 5]⟩) (AObj.rw [vi s] none) LoopState.busy (stepL (inTB n l) (NS s) { no := false,st := st } x) (Value.bool true) [AObj.ro (List.map (Value.int IntKind.i64) l),AObj.rw (vi b::Value.slice (some (ad0 0)) n c::vi (f:Int)::B10 (tmd n) []) none,AObj.rw [ptr0 1] none,AObj.rw [Value.func (Fn.func (123:FuncId)) ⟨[]⟩ ⟨[ptr0 2]⟩] none,AObj.rw [Value.func (Fn.func (61:FuncId)) ⟨[ptr0 1]⟩ ⟨[]⟩] none,AObj.rw [vi s] none,AObj.rw [Value.func (Fn.func 107) ⟨[]⟩ ⟨[ptr0 5]⟩] none,AObj.rw (Value.slice none 0 0::I10 empI []) none,AObj.rw (Value.slice (some ⟨17,0,some 0⟩) n 0::I10 x []) none,AObj.rw [Value.bool false] none,AObj.loop LoopState.ready none y1Bs0 ⟨[9]⟩ y1_c0 y1_c1,AObj.rw [Value.func (Fn.yield 10) ⟨[]⟩ ⟨[]⟩] none,AObj.loop LoopState.ready none ⟨[Value.func (Fn.yield 10) ⟨[]⟩ ⟨[]⟩,ptr0 3,ptr0 4,ptr0 11,junk,Value.func (Fn.func (123:FuncId)) ⟨[]⟩ ⟨[ptr0 2]⟩,junk,junk,junk,junk,junk,junk,junk,junk,junk,junk]⟩ ⟨[6]⟩ y1_c2 y1_c3,AObj.rw [Value.func (Fn.yield 12) ⟨[]⟩ ⟨[]⟩] none,AObj.rw [ptr0 1] none,AObj.loop LoopState.busy none ⟨[Value.func (Fn.yield 12) ⟨[]⟩ ⟨[]⟩,ptr0 2,ptr0 13,junk,ptr0 1,Value.func (Fn.func (133:FuncId)) ⟨[]⟩ ⟨[ptr0 14]⟩,junk,junk,junk,junk,junk,junk,junk]⟩ ⟨[6]⟩ y1_c4 y1_c5,AObj.gone,AObj.rw (List.map (Value.int IntKind.i64) m) (some 1),AObj.rw (Value.slice (some ⟨17,0,some 0⟩) n 0::I10 x []) none,AObj.rw (Value.slice (some ⟨17,0,some 0⟩) n 0::I10 x []) none])
noncomputable def y1Bs3  : Array Value := { toList := [Value.func (Fn.yield (10 : Nat)) { toList := [] } { toList := [] },ptr0 3,ptr0 4,ptr0 11,junk,Value.func (Fn.func (123 : FuncId)) { toList := [] } { toList := [ptr0 2] },junk,junk,junk,junk,junk,junk,junk,junk,junk,junk] }
noncomputable def y1Bs4  : Array Value := { toList := [Value.func (Fn.yield (12 : Nat)) { toList := [] } { toList := [] },ptr0 2,ptr0 13,junk,ptr0 1,Value.func (Fn.func (133 : FuncId)) { toList := [] } { toList := [ptr0 14] },junk,junk,junk,junk,junk,junk,junk] }
noncomputable def y1Bs5 (n:Nat) (x:Nat→Int) := (Value.slice (some ⟨17,0,some 0⟩) n 0::I10 x [])
noncomputable def y1Bs6 (x:Nat→Int) := (l10 (x 0) (x 1) (x 2) (x 3) (x 4) (x 5) (x 6) (x 7) (x 8) (x 9))
noncomputable def y1Bs7 (n:Nat) (st:Nat→Int) := (Value.slice (some ⟨16,0,some 0⟩) n 0::I10 st [])
noncomputable def y1Bs8  : List Value := [Value.func (Fn.func (123 : FuncId)) { toList := [] } { toList := [ptr0 2] }]
noncomputable def y1Bs9  : List Value := [Value.func (Fn.func (61 : FuncId)) { toList := [ptr0 1] } { toList := [] }]
noncomputable def y1Bs10  : List Value := [Value.func (Fn.func (107 : Nat)) { toList := [] } { toList := [ptr0 5] }]
noncomputable def y1Bs11  : List Value := [Value.func (Fn.yield (10 : Nat)) { toList := [] } { toList := [] }]
noncomputable def y1Bs12  : List Value := [Value.func (Fn.yield (12 : Nat)) { toList := [] } { toList := [] }]
noncomputable def y1Bs13 (b:Int) (n:Nat) (c:Nat) (f:Nat) := (vi b::Value.slice (some (ad0 0)) n c::vi (f:Int)::B10 (tmd n) [])
noncomputable def y1Bs14  := (Value.slice none (0 : Nat) (0 : Nat) :: I10 empI [])
noncomputable def y1Bs15  := (Value.func (Fn.func (107 : Nat)) { toList := [] } { toList := [ptr0 5] })
noncomputable def y1Bs16 (st:Nat→Int) := (l10 (st 0) (st 1) (st 2) (st 3) (st 4) (st 5) (st 6) (st 7) (st 8) (st 9))
noncomputable def y1Bs17  := (Value.int IntKind.i64)
noncomputable def y1Bs18 (s:Int) := (AObj.rw [vi s] none)
noncomputable def y1Bs :=
fun (b:Int) (n c f:Nat) (l m:List Int) (s:Int) (x st:Nat→Int)↦Ob (0+11≤11)∧Ob (AtW b n c f l [AObj.ro (List.map y1Bs17 l),AObj.rw (y1Bs13 b n c f) none,AObj.rw [ptr0 1] none,AObj.rw y1Bs8 none,AObj.rw y1Bs9 none,AObj.rw [vi s] none,AObj.rw y1Bs10 none,AObj.rw y1Bs14 none,AObj.rw (y1Bs7 n st) none,AObj.rw [Value.bool false] none,AObj.loop LoopState.ready none y1Bs0 ⟨[9]⟩ y1_c0 y1_c1,AObj.rw y1Bs11 none,AObj.loop LoopState.busy none y1Bs3 ⟨[6]⟩ y1_c2 y1_c3,AObj.rw y1Bs12 none,AObj.rw [ptr0 1] none,AObj.loop LoopState.busy none y1Bs4 ⟨[6]⟩ y1_c4 y1_c5,AObj.gone,AObj.rw (List.map y1Bs17 m) (some 1),AObj.rw (y1Bs5 n x) none]∧l.length=n * 2∧n≤10)∧(inTB n l (y1Bs6 x)=true→Ob (0+11≤11)∧Ob (some (Value.bool false)=some (Value.bool false))∧(false=false→Ob (some (y1Bs18 s)=some (y1Bs18 s)∧(0:Int)≤s∧s<(10:Int))∧Ob (some (y1Bs18 s)=some (y1Bs18 s)∧(0:Int)≤s∧s<(10:Int))∧(decide (NS s (y1Bs6 x)<NS s (y1Bs16 st))=true→Ob (11≤11)∧Ob (1≤1)∧(false=true→Ob (y1Bs1 b n c f l m s x st))∧(false=false→Ob (y1Bs2 b n c f l m s x st)))∧(decide (NS s (y1Bs6 x)<NS s (y1Bs16 st))=false→(false=true→Ob (YR b n c f l m y1Bs15 (y1Bs18 s) LoopState.busy (stepL (inTB n l) (NS s) { no := false,st := st } x) (Value.bool false) [AObj.ro (List.map y1Bs17 l),AObj.rw (y1Bs13 b n c f) none,AObj.rw [ptr0 1] none,AObj.rw y1Bs8 none,AObj.rw y1Bs9 none,AObj.rw [vi s] none,AObj.rw y1Bs10 none,AObj.rw y1Bs14 none,AObj.rw (y1Bs7 n st) none,AObj.rw [Value.bool false] none,AObj.loop LoopState.ready none y1Bs0 ⟨[9]⟩ y1_c0 y1_c1,AObj.rw y1Bs11 none,AObj.loop LoopState.done (some Code.ret) y1Bs3 ⟨[6]⟩ y1_c2 y1_c3,AObj.rw y1Bs12 none,AObj.rw [ptr0 1] none,AObj.loop LoopState.busy none y1Bs4 ⟨[6]⟩ y1_c4 y1_c5,AObj.gone,AObj.rw (List.map y1Bs17 m) (some 1),AObj.rw (y1Bs5 n x) none,AObj.rw (y1Bs5 n x) none]))∧(false=false→Ob (YR b n c f l m y1Bs15 (y1Bs18 s) LoopState.busy (stepL (inTB n l) (NS s) { no := false,st := st } x) (Value.bool true) [AObj.ro (List.map y1Bs17 l),AObj.rw (y1Bs13 b n c f) none,AObj.rw [ptr0 1] none,AObj.rw y1Bs8 none,AObj.rw y1Bs9 none,AObj.rw [vi s] none,AObj.rw y1Bs10 none,AObj.rw y1Bs14 none,AObj.rw (y1Bs7 n st) none,AObj.rw [Value.bool false] none,AObj.loop LoopState.ready none y1Bs0 ⟨[9]⟩ y1_c0 y1_c1,AObj.rw y1Bs11 none,AObj.loop LoopState.ready none y1Bs3 ⟨[6]⟩ y1_c2 y1_c3,AObj.rw y1Bs12 none,AObj.rw [ptr0 1] none,AObj.loop LoopState.busy none y1Bs4 ⟨[6]⟩ y1_c4 y1_c5,AObj.gone,AObj.rw (List.map y1Bs17 m) (some 1),AObj.rw (y1Bs5 n x) none,AObj.rw (y1Bs5 n x) none]))))∧(false=true→Ob (11≤11)∧Ob (1≤1)∧(false=true→Ob (y1Bs1 b n c f l m s x st))∧(false=false→Ob (y1Bs2 b n c f l m s x st))))∧(inTB n l (y1Bs6 x)=false→Ob (YR b n c f l m y1Bs15 (y1Bs18 s) LoopState.busy (stepL (inTB n l) (NS s) { no := false,st := st } x) (Value.bool true) [AObj.ro (List.map y1Bs17 l),AObj.rw (y1Bs13 b n c f) none,AObj.rw [ptr0 1] none,AObj.rw y1Bs8 none,AObj.rw y1Bs9 none,AObj.rw [vi s] none,AObj.rw y1Bs10 none,AObj.rw y1Bs14 none,AObj.rw (y1Bs7 n st) none,AObj.rw [Value.bool false] none,AObj.loop LoopState.ready none y1Bs0 ⟨[9]⟩ y1_c0 y1_c1,AObj.rw y1Bs11 none,AObj.loop LoopState.ready none y1Bs3 ⟨[6]⟩ y1_c2 y1_c3,AObj.rw y1Bs12 none,AObj.rw [ptr0 1] none,AObj.loop LoopState.busy none y1Bs4 ⟨[6]⟩ y1_c4 y1_c5,AObj.gone,AObj.rw (List.map y1Bs17 m) (some 1),AObj.rw (y1Bs5 n x) none]))
theorem y1Bs_eq : y1Bs = fun (b : Int) (n c f : Nat) (l m : List Int) (s : Int) (x st : Nat→Int) => ycT (ycIn Try.prog (y1Es b n c f l s) (fun _ => none) 12 [.agg (newS 17 n :: I10 x []).toArray] (EG b n c f l m (spF 107) (xB s) .busy false 16 st)) (fun v H' => Ob (YR b n c f l m (spF 107) (xB s) .busy (stepL (inTB n l) (NS s) ⟨false,st⟩ x) v H')) := by kernel_rfl
noncomputable def y1At0  : Array Value := { toList := [Value.func (Fn.func (122 : FuncId)) { toList := [] } { toList := [ptr0 3,ptr0 4] },Value.func (Fn.func (108 : Nat)) { toList := [] } { toList := [ptr0 5] },junk,ptr0 6,ptr0 7,ptr0 8,ptr0 9,junk,Value.func (Fn.func (122 : FuncId)) { toList := [] } { toList := [ptr0 3,ptr0 4] },junk,junk,junk,junk,junk,junk,junk,junk,junk,junk,junk,junk,junk] }
noncomputable def y1At1  : Array Value := { toList := [Value.func (Fn.yield (10 : Nat)) { toList := [] } { toList := [] },ptr0 3,ptr0 4,ptr0 11,junk,Value.func (Fn.func (123 : FuncId)) { toList := [] } { toList := [ptr0 2] },junk,junk,junk,junk,junk,junk,junk,junk,junk,junk] }
noncomputable def y1At2  : Array Value := { toList := [Value.func (Fn.yield (12 : Nat)) { toList := [] } { toList := [] },ptr0 2,ptr0 13,junk,ptr0 1,Value.func (Fn.func (133 : FuncId)) { toList := [] } { toList := [ptr0 14] },junk,junk,junk,junk,junk,junk,junk] }
noncomputable def y1At3 (n:Nat) (x:Nat→Int) := (Value.slice (some ⟨17,0,some 0⟩) n 0::I10 x [])
noncomputable def y1At4  := (Value.slice none (0 : Nat) (0 : Nat) :: I10 empI [])
noncomputable def y1At5  : List Value := [Value.func (Fn.func (123 : FuncId)) { toList := [] } { toList := [ptr0 2] }]
noncomputable def y1At6  : List Value := [Value.func (Fn.func (61 : FuncId)) { toList := [ptr0 1] } { toList := [] }]
noncomputable def y1At7  : List Value := [Value.func (Fn.func (108 : Nat)) { toList := [] } { toList := [ptr0 5] }]
noncomputable def y1At8  : List Value := [Value.func (Fn.yield (10 : Nat)) { toList := [] } { toList := [] }]
noncomputable def y1At9  : List Value := [Value.func (Fn.yield (12 : Nat)) { toList := [] } { toList := [] }]
noncomputable def y1At10 (b:Int) (n:Nat) (c:Nat) (f:Nat) := (vi b::Value.slice (some (ad0 0)) n c::vi (f:Int)::B10 (tmd n) [])
noncomputable def y1At11  := (Value.func (Fn.func (108 : Nat)) { toList := [] } { toList := [ptr0 5] })
noncomputable def y1At12 (x:Nat→Int) := (l10 (x 0) (x 1) (x 2) (x 3) (x 4) (x 5) (x 6) (x 7) (x 8) (x 9))
noncomputable def y1At13  := (Value.int IntKind.i64)
noncomputable def y1At :=
fun (b:Int) (n c f:Nat) (l m:List Int) (s:Int) (x:Nat→Int)↦Ob (0+11≤11)∧Ob (AtW b n c f l [AObj.ro (List.map y1At13 l),AObj.rw (y1At10 b n c f) none,AObj.rw [ptr0 1] none,AObj.rw y1At5 none,AObj.rw y1At6 none,AObj.rw [vi s] none,AObj.rw y1At7 none,AObj.rw y1At4 none,AObj.rw y1At4 none,AObj.rw [Value.bool true] none,AObj.loop LoopState.ready none y1At0 ⟨[9]⟩ y1_c0 y1_c1,AObj.rw y1At8 none,AObj.loop LoopState.busy none y1At1 ⟨[6]⟩ y1_c2 y1_c3,AObj.rw y1At9 none,AObj.rw [ptr0 1] none,AObj.loop LoopState.busy none y1At2 ⟨[6]⟩ y1_c4 y1_c5,AObj.gone,AObj.rw (List.map y1At13 m) (some 1),AObj.rw (y1At3 n x) none]∧l.length=n * 2∧n≤10)∧(inTB n l (y1At12 x)=true→Ob (0+11≤11)∧Ob (some (Value.bool true)=some (Value.bool true))∧(true=false→Ob (some (AObj.rw [vi s] none)=some (AObj.rw [vi s] none)∧(0:Int)≤s∧s<(10:Int))∧False)∧(true=true→Ob (11≤11)∧Ob (1≤1)∧(false=true→Ob (YR b n c f l m y1At11 (AObj.rw [vi s] none) LoopState.busy (stepL (inTB n l) (NT s) { no := true,st := empI } x) (Value.bool false) [AObj.ro (List.map y1At13 l),AObj.rw (y1At10 b n c f) none,AObj.rw [ptr0 1] none,AObj.rw y1At5 none,AObj.rw y1At6 none,AObj.rw [vi s] none,AObj.rw y1At7 none,AObj.rw y1At4 none,AObj.rw (y1At3 n x) none,AObj.rw [Value.bool false] none,AObj.loop LoopState.ready none y1At0 ⟨[9]⟩ y1_c0 y1_c1,AObj.rw y1At8 none,AObj.loop LoopState.done (some Code.ret) y1At1 ⟨[6]⟩ y1_c2 y1_c3,AObj.rw y1At9 none,AObj.rw [ptr0 1] none,AObj.loop LoopState.busy none y1At2 ⟨[6]⟩ y1_c4 y1_c5,AObj.gone,AObj.rw (List.map y1At13 m) (some 1),AObj.rw (y1At3 n x) none,AObj.rw (y1At3 n x) none]))∧(false=false→Ob (YR b n c f l m y1At11 (AObj.rw [vi s] none) LoopState.busy (stepL (inTB n l) (NT s) { no := true,st := empI } x) (Value.bool true) [AObj.ro (List.map y1At13 l),AObj.rw (y1At10 b n c f) none,AObj.rw [ptr0 1] none,AObj.rw y1At5 none,AObj.rw y1At6 none,AObj.rw [vi s] none,AObj.rw y1At7 none,AObj.rw y1At4 none,AObj.rw (y1At3 n x) none,AObj.rw [Value.bool false] none,AObj.loop LoopState.ready none y1At0 ⟨[9]⟩ y1_c0 y1_c1,AObj.rw y1At8 none,AObj.loop LoopState.ready none y1At1 ⟨[6]⟩ y1_c2 y1_c3,AObj.rw y1At9 none,AObj.rw [ptr0 1] none,AObj.loop LoopState.busy none y1At2 ⟨[6]⟩ y1_c4 y1_c5,AObj.gone,AObj.rw (List.map y1At13 m) (some 1),AObj.rw (y1At3 n x) none,AObj.rw (y1At3 n x) none]))))∧(inTB n l (y1At12 x)=false→Ob (YR b n c f l m y1At11 (AObj.rw [vi s] none) LoopState.busy (stepL (inTB n l) (NT s) { no := true,st := empI } x) (Value.bool true) [AObj.ro (List.map y1At13 l),AObj.rw (y1At10 b n c f) none,AObj.rw [ptr0 1] none,AObj.rw y1At5 none,AObj.rw y1At6 none,AObj.rw [vi s] none,AObj.rw y1At7 none,AObj.rw y1At4 none,AObj.rw y1At4 none,AObj.rw [Value.bool true] none,AObj.loop LoopState.ready none y1At0 ⟨[9]⟩ y1_c0 y1_c1,AObj.rw y1At8 none,AObj.loop LoopState.ready none y1At1 ⟨[6]⟩ y1_c2 y1_c3,AObj.rw y1At9 none,AObj.rw [ptr0 1] none,AObj.loop LoopState.busy none y1At2 ⟨[6]⟩ y1_c4 y1_c5,AObj.gone,AObj.rw (List.map y1At13 m) (some 1),AObj.rw (y1At3 n x) none]))
theorem y1At_eq : y1At = fun (b : Int) (n c f : Nat) (l m : List Int) (s : Int) (x : Nat→Int) => ycT (ycIn Try.prog (y1Es b n c f l s) (fun _ => none) 12 [.agg (newS 17 n :: I10 x []).toArray] (EG b n c f l m (spF 108) (xB s) .busy true 16 empI)) (fun v H' => Ob (YR b n c f l m (spF 108) (xB s) .busy (stepL (inTB n l) (NT s) ⟨true,empI⟩ x) v H')) := by kernel_rfl
noncomputable def y1Bt0  : Array Value := { toList := [Value.func (Fn.func (122 : FuncId)) { toList := [] } { toList := [ptr0 3,ptr0 4] },Value.func (Fn.func (108 : Nat)) { toList := [] } { toList := [ptr0 5] },junk,ptr0 6,ptr0 7,ptr0 8,ptr0 9,junk,Value.func (Fn.func (122 : FuncId)) { toList := [] } { toList := [ptr0 3,ptr0 4] },junk,junk,junk,junk,junk,junk,junk,junk,junk,junk,junk,junk,junk] }
noncomputable def y1Bt1 (b:Int) (n:Nat) (c:Nat) (f:Nat) (l:List Int) (m:List Int) (s:Int) (x:Nat→Int) (st:Nat→Int) := (YR b n c f l m (Value.func (Fn.func 108) ⟨[]⟩ ⟨[ptr0 5]⟩) (AObj.rw [vi s] none) LoopState.busy (stepL (inTB n l) (NT s) { no := false,st := st } x) (Value.bool false) [AObj.ro (List.map (Value.int IntKind.i64) l),AObj.rw (vi b::Value.slice (some (ad0 0)) n c::vi (f:Int)::B10 (tmd n) []) none,AObj.rw [ptr0 1] none,AObj.rw [Value.func (Fn.func (123:FuncId)) ⟨[]⟩ ⟨[ptr0 2]⟩] none,AObj.rw [Value.func (Fn.func (61:FuncId)) ⟨[ptr0 1]⟩ ⟨[]⟩] none,AObj.rw [vi s] none,AObj.rw [Value.func (Fn.func 108) ⟨[]⟩ ⟨[ptr0 5]⟩] none,AObj.rw (Value.slice none 0 0::I10 empI []) none,AObj.rw (Value.slice (some ⟨17,0,some 0⟩) n 0::I10 x []) none,AObj.rw [Value.bool false] none,AObj.loop LoopState.ready none y1Bt0 ⟨[9]⟩ y1_c0 y1_c1,AObj.rw [Value.func (Fn.yield 10) ⟨[]⟩ ⟨[]⟩] none,AObj.loop LoopState.done (some Code.ret) ⟨[Value.func (Fn.yield 10) ⟨[]⟩ ⟨[]⟩,ptr0 3,ptr0 4,ptr0 11,junk,Value.func (Fn.func (123:FuncId)) ⟨[]⟩ ⟨[ptr0 2]⟩,junk,junk,junk,junk,junk,junk,junk,junk,junk,junk]⟩ ⟨[6]⟩ y1_c2 y1_c3,AObj.rw [Value.func (Fn.yield 12) ⟨[]⟩ ⟨[]⟩] none,AObj.rw [ptr0 1] none,AObj.loop LoopState.busy none ⟨[Value.func (Fn.yield 12) ⟨[]⟩ ⟨[]⟩,ptr0 2,ptr0 13,junk,ptr0 1,Value.func (Fn.func (133:FuncId)) ⟨[]⟩ ⟨[ptr0 14]⟩,junk,junk,junk,junk,junk,junk,junk]⟩ ⟨[6]⟩ y1_c4 y1_c5,AObj.gone,AObj.rw (List.map (Value.int IntKind.i64) m) (some 1),AObj.rw (Value.slice (some ⟨17,0,some 0⟩) n 0::I10 x []) none,AObj.rw (Value.slice (some ⟨17,0,some 0⟩) n 0::I10 x []) none])
noncomputable def y1Bt2 (b:Int) (n:Nat) (c:Nat) (f:Nat) (l:List Int) (m:List Int) (s:Int) (x:Nat→Int) (st:Nat→Int) := (YR b n c f l m (Value.func (Fn.func 108) ⟨[]⟩ ⟨[ptr0 5]⟩) (AObj.rw [vi s] none) LoopState.busy (stepL (inTB n l) (NT s) { no := false,st := st } x) (Value.bool true) [AObj.ro (List.map (Value.int IntKind.i64) l),AObj.rw (vi b::Value.slice (some (ad0 0)) n c::vi (f:Int)::B10 (tmd n) []) none,AObj.rw [ptr0 1] none,AObj.rw [Value.func (Fn.func (123:FuncId)) ⟨[]⟩ ⟨[ptr0 2]⟩] none,AObj.rw [Value.func (Fn.func (61:FuncId)) ⟨[ptr0 1]⟩ ⟨[]⟩] none,AObj.rw [vi s] none,AObj.rw [Value.func (Fn.func 108) ⟨[]⟩ ⟨[ptr0 5]⟩] none,AObj.rw (Value.slice none 0 0::I10 empI []) none,AObj.rw (Value.slice (some ⟨17,0,some 0⟩) n 0::I10 x []) none,AObj.rw [Value.bool false] none,AObj.loop LoopState.ready none y1Bt0 ⟨[9]⟩ y1_c0 y1_c1,AObj.rw [Value.func (Fn.yield 10) ⟨[]⟩ ⟨[]⟩] none,AObj.loop LoopState.ready none ⟨[Value.func (Fn.yield 10) ⟨[]⟩ ⟨[]⟩,ptr0 3,ptr0 4,ptr0 11,junk,Value.func (Fn.func (123:FuncId)) ⟨[]⟩ ⟨[ptr0 2]⟩,junk,junk,junk,junk,junk,junk,junk,junk,junk,junk]⟩ ⟨[6]⟩ y1_c2 y1_c3,AObj.rw [Value.func (Fn.yield 12) ⟨[]⟩ ⟨[]⟩] none,AObj.rw [ptr0 1] none,AObj.loop LoopState.busy none ⟨[Value.func (Fn.yield 12) ⟨[]⟩ ⟨[]⟩,ptr0 2,ptr0 13,junk,ptr0 1,Value.func (Fn.func (133:FuncId)) ⟨[]⟩ ⟨[ptr0 14]⟩,junk,junk,junk,junk,junk,junk,junk]⟩ ⟨[6]⟩ y1_c4 y1_c5,AObj.gone,AObj.rw (List.map (Value.int IntKind.i64) m) (some 1),AObj.rw (Value.slice (some ⟨17,0,some 0⟩) n 0::I10 x []) none,AObj.rw (Value.slice (some ⟨17,0,some 0⟩) n 0::I10 x []) none])
noncomputable def y1Bt3  : Array Value := { toList := [Value.func (Fn.yield (10 : Nat)) { toList := [] } { toList := [] },ptr0 3,ptr0 4,ptr0 11,junk,Value.func (Fn.func (123 : FuncId)) { toList := [] } { toList := [ptr0 2] },junk,junk,junk,junk,junk,junk,junk,junk,junk,junk] }
noncomputable def y1Bt4  : Array Value := { toList := [Value.func (Fn.yield (12 : Nat)) { toList := [] } { toList := [] },ptr0 2,ptr0 13,junk,ptr0 1,Value.func (Fn.func (133 : FuncId)) { toList := [] } { toList := [ptr0 14] },junk,junk,junk,junk,junk,junk,junk] }
noncomputable def y1Bt5 (n:Nat) (x:Nat→Int) := (Value.slice (some ⟨17,0,some 0⟩) n 0::I10 x [])
noncomputable def y1Bt6 (x:Nat→Int) := (l10 (x 0) (x 1) (x 2) (x 3) (x 4) (x 5) (x 6) (x 7) (x 8) (x 9))
noncomputable def y1Bt7 (n:Nat) (st:Nat→Int) := (Value.slice (some ⟨16,0,some 0⟩) n 0::I10 st [])
noncomputable def y1Bt8  : List Value := [Value.func (Fn.func (123 : FuncId)) { toList := [] } { toList := [ptr0 2] }]
noncomputable def y1Bt9  : List Value := [Value.func (Fn.func (61 : FuncId)) { toList := [ptr0 1] } { toList := [] }]
noncomputable def y1Bt10  : List Value := [Value.func (Fn.func (108 : Nat)) { toList := [] } { toList := [ptr0 5] }]
noncomputable def y1Bt11  : List Value := [Value.func (Fn.yield (10 : Nat)) { toList := [] } { toList := [] }]
noncomputable def y1Bt12  : List Value := [Value.func (Fn.yield (12 : Nat)) { toList := [] } { toList := [] }]
noncomputable def y1Bt13 (b:Int) (n:Nat) (c:Nat) (f:Nat) := (vi b::Value.slice (some (ad0 0)) n c::vi (f:Int)::B10 (tmd n) [])
noncomputable def y1Bt14  := (Value.slice none (0 : Nat) (0 : Nat) :: I10 empI [])
noncomputable def y1Bt15  := (Value.func (Fn.func (108 : Nat)) { toList := [] } { toList := [ptr0 5] })
noncomputable def y1Bt16 (st:Nat→Int) := (l10 (st 0) (st 1) (st 2) (st 3) (st 4) (st 5) (st 6) (st 7) (st 8) (st 9))
noncomputable def y1Bt17  := (Value.int IntKind.i64)
noncomputable def y1Bt18 (s:Int) := (AObj.rw [vi s] none)
noncomputable def y1Bt :=
fun (b:Int) (n c f:Nat) (l m:List Int) (s:Int) (x st:Nat→Int)↦Ob (0+11≤11)∧Ob (AtW b n c f l [AObj.ro (List.map y1Bt17 l),AObj.rw (y1Bt13 b n c f) none,AObj.rw [ptr0 1] none,AObj.rw y1Bt8 none,AObj.rw y1Bt9 none,AObj.rw [vi s] none,AObj.rw y1Bt10 none,AObj.rw y1Bt14 none,AObj.rw (y1Bt7 n st) none,AObj.rw [Value.bool false] none,AObj.loop LoopState.ready none y1Bt0 ⟨[9]⟩ y1_c0 y1_c1,AObj.rw y1Bt11 none,AObj.loop LoopState.busy none y1Bt3 ⟨[6]⟩ y1_c2 y1_c3,AObj.rw y1Bt12 none,AObj.rw [ptr0 1] none,AObj.loop LoopState.busy none y1Bt4 ⟨[6]⟩ y1_c4 y1_c5,AObj.gone,AObj.rw (List.map y1Bt17 m) (some 1),AObj.rw (y1Bt5 n x) none]∧l.length=n * 2∧n≤10)∧(inTB n l (y1Bt6 x)=true→Ob (0+11≤11)∧Ob (some (Value.bool false)=some (Value.bool false))∧(false=false→Ob (some (y1Bt18 s)=some (y1Bt18 s)∧(0:Int)≤s∧s<(10:Int))∧Ob (some (y1Bt18 s)=some (y1Bt18 s)∧(0:Int)≤s∧s<(10:Int))∧(decide (NT s (y1Bt6 x)<NT s (y1Bt16 st))=true→Ob (11≤11)∧Ob (1≤1)∧(false=true→Ob (y1Bt1 b n c f l m s x st))∧(false=false→Ob (y1Bt2 b n c f l m s x st)))∧(decide (NT s (y1Bt6 x)<NT s (y1Bt16 st))=false→(false=true→Ob (YR b n c f l m y1Bt15 (y1Bt18 s) LoopState.busy (stepL (inTB n l) (NT s) { no := false,st := st } x) (Value.bool false) [AObj.ro (List.map y1Bt17 l),AObj.rw (y1Bt13 b n c f) none,AObj.rw [ptr0 1] none,AObj.rw y1Bt8 none,AObj.rw y1Bt9 none,AObj.rw [vi s] none,AObj.rw y1Bt10 none,AObj.rw y1Bt14 none,AObj.rw (y1Bt7 n st) none,AObj.rw [Value.bool false] none,AObj.loop LoopState.ready none y1Bt0 ⟨[9]⟩ y1_c0 y1_c1,AObj.rw y1Bt11 none,AObj.loop LoopState.done (some Code.ret) y1Bt3 ⟨[6]⟩ y1_c2 y1_c3,AObj.rw y1Bt12 none,AObj.rw [ptr0 1] none,AObj.loop LoopState.busy none y1Bt4 ⟨[6]⟩ y1_c4 y1_c5,AObj.gone,AObj.rw (List.map y1Bt17 m) (some 1),AObj.rw (y1Bt5 n x) none,AObj.rw (y1Bt5 n x) none]))∧(false=false→Ob (YR b n c f l m y1Bt15 (y1Bt18 s) LoopState.busy (stepL (inTB n l) (NT s) { no := false,st := st } x) (Value.bool true) [AObj.ro (List.map y1Bt17 l),AObj.rw (y1Bt13 b n c f) none,AObj.rw [ptr0 1] none,AObj.rw y1Bt8 none,AObj.rw y1Bt9 none,AObj.rw [vi s] none,AObj.rw y1Bt10 none,AObj.rw y1Bt14 none,AObj.rw (y1Bt7 n st) none,AObj.rw [Value.bool false] none,AObj.loop LoopState.ready none y1Bt0 ⟨[9]⟩ y1_c0 y1_c1,AObj.rw y1Bt11 none,AObj.loop LoopState.ready none y1Bt3 ⟨[6]⟩ y1_c2 y1_c3,AObj.rw y1Bt12 none,AObj.rw [ptr0 1] none,AObj.loop LoopState.busy none y1Bt4 ⟨[6]⟩ y1_c4 y1_c5,AObj.gone,AObj.rw (List.map y1Bt17 m) (some 1),AObj.rw (y1Bt5 n x) none,AObj.rw (y1Bt5 n x) none]))))∧(false=true→Ob (11≤11)∧Ob (1≤1)∧(false=true→Ob (y1Bt1 b n c f l m s x st))∧(false=false→Ob (y1Bt2 b n c f l m s x st))))∧(inTB n l (y1Bt6 x)=false→Ob (YR b n c f l m y1Bt15 (y1Bt18 s) LoopState.busy (stepL (inTB n l) (NT s) { no := false,st := st } x) (Value.bool true) [AObj.ro (List.map y1Bt17 l),AObj.rw (y1Bt13 b n c f) none,AObj.rw [ptr0 1] none,AObj.rw y1Bt8 none,AObj.rw y1Bt9 none,AObj.rw [vi s] none,AObj.rw y1Bt10 none,AObj.rw y1Bt14 none,AObj.rw (y1Bt7 n st) none,AObj.rw [Value.bool false] none,AObj.loop LoopState.ready none y1Bt0 ⟨[9]⟩ y1_c0 y1_c1,AObj.rw y1Bt11 none,AObj.loop LoopState.ready none y1Bt3 ⟨[6]⟩ y1_c2 y1_c3,AObj.rw y1Bt12 none,AObj.rw [ptr0 1] none,AObj.loop LoopState.busy none y1Bt4 ⟨[6]⟩ y1_c4 y1_c5,AObj.gone,AObj.rw (List.map y1Bt17 m) (some 1),AObj.rw (y1Bt5 n x) none]))
theorem y1Bt_eq : y1Bt = fun (b : Int) (n c f : Nat) (l m : List Int) (s : Int) (x st : Nat→Int) => ycT (ycIn Try.prog (y1Es b n c f l s) (fun _ => none) 12 [.agg (newS 17 n :: I10 x []).toArray] (EG b n c f l m (spF 108) (xB s) .busy false 16 st)) (fun v H' => Ob (YR b n c f l m (spF 108) (xB s) .busy (stepL (inTB n l) (NT s) ⟨false,st⟩ x) v H')) := by kernel_rfl
theorem NS_l10 {s : Int} {x : Nat→Int} (hs : 0≤s∧s < 10) : NS s (l10 (x 0) (x 1) (x 2) (x 3) (x 4) (x 5) (x 6) (x 7) (x 8) (x 9)) = NS s x := l10_same (by omega)
theorem NT_l10 {s : Int} {x : Nat→Int} (hs : 0≤s∧s < 10) : NT s (l10 (x 0) (x 1) (x 2) (x 3) (x 4) (x 5) (x 6) (x 7) (x 8) (x 9)) = NT s x := by unfold NT; rw [l10_same (by omega)]
theorem spV_ok (n : Nat) (s : Int) (x : Nat→Int) (hs : 0≤s∧s < 10) : spV n s x := by
 unfold spV spV0
 simp only [SS,reduceCtorEq,Arg.list,Arg.num,Arg.flag,intOf,andP,Nat.reduceLeDiff,Nat.reduceAdd,Nat.reduceMul,Nat.reduceLT]
 obtain ⟨e1,e2⟩ := I10_getI1 (sl := newS 1 n) (st := x) (x := s.toNat) (by omega)
 exact ⟨by omega,e2,e1⟩
theorem sqV_ok (n : Nat) (s : Int) (x : Nat→Int) (hs : 0≤s∧s < 10) : sqV n s x := by
 unfold sqV sqV0
 simp only [SS,reduceCtorEq,Arg.list,Arg.num,Arg.flag,intOf,andP,Nat.reduceLeDiff,Nat.reduceAdd,Nat.reduceMul,Nat.reduceLT]
 obtain ⟨e1,e2⟩ := I10_getI1 (sl := newS 1 n) (st := x) (x := s.toNat) (by omega)
 have e1' : getI (Value.slice (some { block := 1,off := 0,spot := some 0 }) n 0 :: I10 x []) (1 + s.toNat) = x s.toNat := e1
 rw [e1']
 exact ⟨by omega,e2,rfl⟩
theorem sp_frame {fn : FuncId} {n k : Nat} {s v : Int} {x : Nat→Int} {H : Heap} (hx : H[5]? = some (xB s)) (hk : k ≠ 5) (hkH : k < H.length) (h : Call Try.prog fn [.agg (newS 1 n :: I10 x []).toArray,ptr0 0] [xB s,.gone] fun v' H' => v' = vi v∧H' = [xB s,.gone]) :
   Call Try.prog fn [.agg (newS k n :: I10 x []).toArray,ptr0 5] H fun v' H' => v' = vi v∧H' = H := by
 have h5 : 5 < H.length := (List.getElem?_eq_some_iff.1 hx).1
 refine Call.frameP (Et := [xB s,.gone]) (L := [5,k]) (args := [.agg (newS 1 n :: I10 x []).toArray,ptr0 0]) rfl (by simp; omega) (fun z hz => ?_) (fun c' o' hc => ?_) (fun o' ho' => ?_) (fun c' o' hc _ => ?_) (fun o' ho' => ?_) ?_ ?_ h (fun o' ho' => ?_) rfl rfl
 · simp only [List.mem_cons,List.not_mem_nil,or_false] at hz
   rcases hz with rfl | rfl <;> assumption
 · match c',hc with
   | 0,hc => cases hc; exact .inr hx
   | 1,hc => cases hc; exact .inl rfl
   | c' + 2,hc => simp at hc
 · rcases List.mem_cons.1 ho' with rfl | ho'
   · rfl
   · rw [List.mem_singleton.1 ho']; rfl
 · match c',hc with
   | 0,hc => cases hc; exact ⟨rfl,rfl⟩
   | 1,hc => cases hc; exact ⟨rfl,rfl⟩
   | c' + 2,hc => simp at hc
 · rcases List.mem_cons.1 ho' with rfl | ho'
   · rfl
   · rw [List.mem_singleton.1 ho']; rfl
 · rw [List.map_cons,List.map_cons,List.map_nil,agg_nmap rfl]; rfl
 · show [Value.agg (newS 1 n :: I10 x []).toArray,ptr0 0].all (sc 2) = true
   rw [List.all_cons,agg_sc (show 1 < 2 by omega) rfl]; rfl
 · rcases List.mem_cons.1 ho' with rfl | ho'
   · rfl
   · rw [List.mem_singleton.1 ho']; rfl
theorem spCt_ok {fn : FuncId} {N : Int→(Nat→Int)→Int} {s : Int} (hN : ∀ (n : Nat) (x : Nat→Int),0≤s∧s < 10→Call Try.prog fn [.agg (newS 1 n :: I10 x []).toArray,ptr0 0] [xB s,.gone] fun v' H' => v' = vi (N s x)∧H' = [xB s,.gone]) :
   ∀ args H φ v H' lg,spCt N s args H = some (φ,v,H',lg)→Asks φ→Call Try.prog fn args H (fun v' H2 => v' = v∧H2 = H')∧Kept H H' lg := by
 intro args H φ v H' lg h hφ
 unfold spCt at h
 split at h <;> try (cases h; done)
 rename_i k y a0 a1 a2 a3 a4 a5 a6 a7 a8 a9
 split at h <;> cases h
 rename_i hk
 obtain ⟨h1,h2⟩ := hφ
 refine ⟨fun ρ w R hs => ?_,Kept.refl _ _⟩
 have hkH : k < H.length := ag_lt hs List.mem_cons_self
 exact sp_frame h1 (fun e => by subst e; cases hk) hkH (hN y (l10 a0 a1 a2 a3 a4 a5 a6 a7 a8 a9) h2) ρ w R hs
theorem spV_call (n : Nat) (s : Int) (x : Nat→Int) (hs : 0≤s∧s < 10) : Call Try.prog 107 [.agg (newS 1 n :: I10 x []).toArray,ptr0 0] [xB s,.gone] fun v' H' => v' = vi (NS s x)∧H' = [xB s,.gone] := by
 have h := spV_ok n s x hs
 rw [spV_eq] at h
 exact Call.ofVcR (H := [xB s,.gone]) (args := [.agg (newS 1 n :: I10 x []).toArray,ptr0 0]) (σ := fun b => b) (v2 := vi (NS s x)) (H2 := [xB s,.gone]) prE1_ok mixed (c := spB) (inv := fun _ => none) Try.func107 (by kernel_rfl) (cast (by kernel_rfl) h)
theorem sqV_call (n : Nat) (s : Int) (x : Nat→Int) (hs : 0≤s∧s < 10) : Call Try.prog 108 [.agg (newS 1 n :: I10 x []).toArray,ptr0 0] [xB s,.gone] fun v' H' => v' = vi (NT s x)∧H' = [xB s,.gone] := by
 have h := sqV_ok n s x hs
 rw [sqV_eq] at h
 exact Call.ofVcR (H := [xB s,.gone]) (args := [.agg (newS 1 n :: I10 x []).toArray,ptr0 0]) (σ := fun b => b) (v2 := vi (NT s x)) (H2 := [xB s,.gone]) prE1_ok mixed (c := sqB) (inv := fun _ => none) Try.func108 (by kernel_rfl) (cast (by kernel_rfl) h)
theorem spT_ok (s : Int) : CtOk Try.prog (spT s) := (CtOk.none.add (spCt_ok fun n x h => spV_call n s x h)).add (spCt_ok fun n x h => sqV_call n s x h)
theorem y1Es_ok (b : Int) (n c f : Nat) (l : List Int) (s : Int) : VOk Try.prog (y1Es b n c f l s) := ⟨CtOk.none.add (it_ok b n c f l),E0_ok.cc,ycIn_ok (VOk.ofCt (spT_ok s)) mixed,E0_ok.orc⟩
theorem y1As_ok (b : Int) (n c f : Nat) (l m : List Int) (s : Int) (x : Nat→Int) (hl : l.length = n * 2) (hn : n≤10) (hs : 0≤s∧s < 10) : y1As b n c f l m s x := by
 unfold y1As y1As13 y1As12 y1As11 y1As10 y1As9 y1As8 y1As7 y1As6 y1As5 y1As4 y1As3 y1As2 y1As1 y1As0
 simp only [SS,reduceCtorEq,Arg.list,Arg.num,Arg.flag,intOf,andP,Nat.reduceLeDiff,Nat.reduceAdd,Nat.reduceMul,Nat.reduceLT,inTB_l10 hn]
 refine ⟨⟨⟨rfl,rfl⟩,hl,hn⟩,fun h1 => ?_,fun h1 => ?_⟩
 · rw [stepL_new h1 (.inl rfl)]
   exact ⟨rfl,17,by kernel_rfl,by simp⟩
 · rw [stepL_no h1]
   exact ⟨rfl,16,by kernel_rfl,by simp⟩
theorem y1Bs_ok (b : Int) (n c f : Nat) (l m : List Int) (s : Int) (x st : Nat→Int) (hl : l.length = n * 2) (hn : n≤10) (hs : 0≤s∧s < 10) : y1Bs b n c f l m s x st := by
 unfold y1Bs y1Bs18 y1Bs17 y1Bs16 y1Bs15 y1Bs14 y1Bs13 y1Bs12 y1Bs11 y1Bs10 y1Bs9 y1Bs8 y1Bs7 y1Bs6 y1Bs5 y1Bs4 y1Bs3 y1Bs2 y1Bs1 y1Bs0
 simp only [SS,reduceCtorEq,Arg.list,Arg.num,Arg.flag,intOf,andP,Nat.reduceLeDiff,Nat.reduceAdd,Nat.reduceMul,Nat.reduceLT,inTB_l10 hn,NS_l10 hs]
 refine ⟨⟨⟨rfl,rfl⟩,hl,hn⟩,fun h1 => ⟨hs,hs,fun h2 => ?_,fun h2 => ?_⟩,fun h1 => ?_⟩
 · rw [stepL_new h1 (.inr h2)]
   exact ⟨rfl,17,by kernel_rfl,by simp⟩
 · rw [stepL_old (s := ⟨false,st⟩) rfl h2]
   exact ⟨rfl,16,by kernel_rfl,by simp⟩
 · rw [stepL_no h1]
   exact ⟨rfl,16,by kernel_rfl,by simp⟩
theorem y1At_ok (b : Int) (n c f : Nat) (l m : List Int) (s : Int) (x : Nat→Int) (hl : l.length = n * 2) (hn : n≤10) (hs : 0≤s∧s < 10) : y1At b n c f l m s x := by
 unfold y1At y1At13 y1At12 y1At11 y1At10 y1At9 y1At8 y1At7 y1At6 y1At5 y1At4 y1At3 y1At2 y1At1 y1At0
 simp only [SS,reduceCtorEq,Arg.list,Arg.num,Arg.flag,intOf,andP,Nat.reduceLeDiff,Nat.reduceAdd,Nat.reduceMul,Nat.reduceLT,inTB_l10 hn]
 refine ⟨⟨⟨rfl,rfl⟩,hl,hn⟩,fun h1 => ?_,fun h1 => ?_⟩
 · rw [stepL_new h1 (.inl rfl)]
   exact ⟨rfl,17,by kernel_rfl,by simp⟩
 · rw [stepL_no h1]
   exact ⟨rfl,16,by kernel_rfl,by simp⟩
theorem y1Bt_ok (b : Int) (n c f : Nat) (l m : List Int) (s : Int) (x st : Nat→Int) (hl : l.length = n * 2) (hn : n≤10) (hs : 0≤s∧s < 10) : y1Bt b n c f l m s x st := by
 unfold y1Bt y1Bt18 y1Bt17 y1Bt16 y1Bt15 y1Bt14 y1Bt13 y1Bt12 y1Bt11 y1Bt10 y1Bt9 y1Bt8 y1Bt7 y1Bt6 y1Bt5 y1Bt4 y1Bt3 y1Bt2 y1Bt1 y1Bt0
 simp only [SS,reduceCtorEq,Arg.list,Arg.num,Arg.flag,intOf,andP,Nat.reduceLeDiff,Nat.reduceAdd,Nat.reduceMul,Nat.reduceLT,inTB_l10 hn,NT_l10 hs]
 refine ⟨⟨⟨rfl,rfl⟩,hl,hn⟩,fun h1 => ⟨hs,hs,fun h2 => ?_,fun h2 => ?_⟩,fun h1 => ?_⟩
 · rw [stepL_new h1 (.inr h2)]
   exact ⟨rfl,17,by kernel_rfl,by simp⟩
 · rw [stepL_old (s := ⟨false,st⟩) rfl h2]
   exact ⟨rfl,16,by kernel_rfl,by simp⟩
 · rw [stepL_no h1]
   exact ⟨rfl,16,by kernel_rfl,by simp⟩
def SpanOk (g : Nat) (s : Int) (N : (Nat→Int)→Int) : Prop := ∀ (b : Int) (n c f : Nat) (l m : List Int) (x : Nat→Int) (t : LS),l.length = n * 2→n≤10→(t.no = true→t.st = empI) →
 Yield Try.prog 12 [.agg (newS 17 n :: I10 x []).toArray] (EG b n c f l m (spF g) (xB s) .busy t.no 16 t.st) fun v H' => v = .bool true∧H' = EG b n c f l m (spF g) (xB s) .busy (stepL (inTB n l) N t x).no 18 (stepL (inTB n l) N t x).st ++ [.gone]
theorem y1s_yield (s : Int) (hs : 0≤s∧s < 10) : SpanOk 107 s (NS s) := fun b n c f l m x t hl hn ht => by
 refine Yield.anew (Yield.mono (Q := YR b n c f l m (spF 107) (xB s) .busy (stepL (inTB n l) (NS s) t x)) ?_ fun v H' h => YR_anew h (fun _ => rfl) (fun _ => by kernel_rfl) (fun _ => ⟨by kernel_rfl,by kernel_rfl⟩) rfl (by kernel_rfl) ⟨by kernel_rfl,by kernel_rfl⟩)
 obtain ⟨no,st⟩ := t
 cases no with
 | true =>
   obtain rfl : st = empI := ht rfl
   have h := y1As_ok b n c f l m s x hl hn hs
   rw [y1As_eq] at h
   unfold ycT at h
   split at h
   · rename_i T hT
     exact (ycIn_ok (y1Es_ok b n c f l s) mixed _ _ _ _ hT _ h).mono fun v H' k => k.out
   · exact h.elim
 | false =>
   have h := y1Bs_ok b n c f l m s x st hl hn hs
   rw [y1Bs_eq] at h
   unfold ycT at h
   split at h
   · rename_i T hT
     exact (ycIn_ok (y1Es_ok b n c f l s) mixed _ _ _ _ hT _ h).mono fun v H' k => k.out
   · exact h.elim
theorem y1t_yield (s : Int) (hs : 0≤s∧s < 10) : SpanOk 108 s (NT s) := fun b n c f l m x t hl hn ht => by
 refine Yield.anew (Yield.mono (Q := YR b n c f l m (spF 108) (xB s) .busy (stepL (inTB n l) (NT s) t x)) ?_ fun v H' h => YR_anew h (fun _ => rfl) (fun _ => by kernel_rfl) (fun _ => ⟨by kernel_rfl,by kernel_rfl⟩) rfl (by kernel_rfl) ⟨by kernel_rfl,by kernel_rfl⟩)
 obtain ⟨no,st⟩ := t
 cases no with
 | true =>
   obtain rfl : st = empI := ht rfl
   have h := y1At_ok b n c f l m s x hl hn hs
   rw [y1At_eq] at h
   unfold ycT at h
   split at h
   · rename_i T hT
     exact (ycIn_ok (y1Es_ok b n c f l s) mixed _ _ _ _ hT _ h).mono fun v H' k => k.out
   · exact h.elim
 | false =>
   have h := y1Bt_ok b n c f l m s x st hl hn hs
   rw [y1Bt_eq] at h
   unfold ycT at h
   split at h
   · rename_i T hT
     exact (ycIn_ok (y1Es_ok b n c f l s) mixed _ _ _ _ hT _ h).mono fun v H' k => k.out
   · exact h.elim
end Go.Pier.Rd
namespace Go.Pier.Rd
open Go Go.Pier Go.Proofs
noncomputable def nxSs (g : Nat) (s : Int) (N : (Nat→Int)→Int) (b : Int) (n : Nat) (l m : List Int) (no : Bool) (st : Nat→Int) : LS := stepL (inTB n l) N ⟨no,st⟩ (stp b l m)
noncomputable def y1Yts (g : Nat) (s : Int) (N : (Nat→Int)→Int) (b : Int) (n c f : Nat) (l m : List Int) (no : Bool) (st : Nat→Int) : Yt := fun b' args H => match Nat.beq b' 12 with
 | true => some (some (args = [.agg (newS 17 n :: I10 (stp b l m) []).toArray]∧H = EG b n c f l m (spF g) (xB s) .busy no 16 st∧l.length = n * 2∧n≤10∧(no = true→st = empI)),.bool true,EG b n c f l m (spF g) (xB s) .busy (nxSs g s N b n l m no st).no 18 (nxSs g s N b n l m no st).st ++ [.gone],[8,9])
 | false => none
noncomputable def y2Vs :=
fun (g:Nat) (s:Int) (N:(Nat→Int)→Int) (b:Int) (n c f:Nat) (l m:List Int) (no:Bool) (st:Nat→Int)↦Ob (AtW b n c f l [AObj.ro (List.map (Value.int IntKind.i64) l),AObj.rw (vi b::Value.slice (some (ad0 0)) n c::vi (f:Int)::B10 (tmd n) []) none,AObj.rw [ptr0 1] none,AObj.rw [Value.func (Fn.func (123:FuncId)) ⟨[]⟩ ⟨[ptr0 2]⟩] none,AObj.rw [Value.func (Fn.func (61:FuncId)) ⟨[ptr0 1]⟩ ⟨[]⟩] none,AObj.rw [vi s] none,AObj.rw [Value.func (Fn.func g) ⟨[]⟩ ⟨[ptr0 5]⟩] none,AObj.rw (Value.slice none 0 0::I10 empI []) none,AObj.rw (slotV no 16 n::I10 st []) none,AObj.rw [Value.bool no] none,AObj.loop LoopState.ready none ⟨[Value.func (Fn.func (122:FuncId)) ⟨[]⟩ ⟨[ptr0 3,ptr0 4]⟩,Value.func (Fn.func g) ⟨[]⟩ ⟨[ptr0 5]⟩,junk,ptr0 6,ptr0 7,ptr0 8,ptr0 9,junk,Value.func (Fn.func (122:FuncId)) ⟨[]⟩ ⟨[ptr0 3,ptr0 4]⟩,junk,junk,junk,junk,junk,junk,junk,junk,junk,junk,junk,junk,junk]⟩ ⟨[9]⟩ y1_c0 y1_c1,AObj.rw [Value.func (Fn.yield 10) ⟨[]⟩ ⟨[]⟩] none,AObj.loop LoopState.ready none ⟨[Value.func (Fn.yield 10) ⟨[]⟩ ⟨[]⟩,ptr0 3,ptr0 4,ptr0 11,junk,Value.func (Fn.func (123:FuncId)) ⟨[]⟩ ⟨[ptr0 2]⟩,junk,junk,junk,junk,junk,junk,junk,junk,junk,junk]⟩ ⟨[6]⟩ y1_c2 y1_c3,AObj.rw [Value.func (Fn.yield 12) ⟨[]⟩ ⟨[]⟩] none,AObj.rw [ptr0 1] none,AObj.loop LoopState.busy none ⟨[Value.func (Fn.yield 12) ⟨[]⟩ ⟨[]⟩,ptr0 2,ptr0 13,junk,ptr0 1,Value.func (Fn.func (133:FuncId)) ⟨[]⟩ ⟨[ptr0 14]⟩,junk,junk,junk,junk,junk,junk,junk]⟩ ⟨[6]⟩ y1_c4 y1_c5,AObj.gone,AObj.rw (List.map (Value.int IntKind.i64) m) (some 1)]∧some (AObj.rw (List.map (Value.int IntKind.i64) m) (some 1))=some (AObj.rw (List.map (Value.int IntKind.i64) m) (some 1))∧n=m.length∧l.length=n * 2∧n≤10∧rngP b n l∧m.length≤10∧∀ (j:Nat),j<m.length→(0:Int)≤m.getD j (0:Int)∧m.getD j (0:Int)<(n:Int))∧Ob ([Value.agg { toList := (Value.slice (some ⟨17,0,some 0⟩) n 0::I10 (stp b l m) []) }]=[Value.agg { toList := (Value.slice (some ⟨17,0,some 0⟩) n 0::I10 (stp b l m) []) }]∧[AObj.ro (List.map (Value.int IntKind.i64) l),AObj.rw (vi b::Value.slice (some (ad0 0)) n c::vi (f:Int)::B10 (tmd n) []) none,AObj.rw [ptr0 1] none,AObj.rw [Value.func (Fn.func (123:FuncId)) ⟨[]⟩ ⟨[ptr0 2]⟩] none,AObj.rw [Value.func (Fn.func (61:FuncId)) ⟨[ptr0 1]⟩ ⟨[]⟩] none,AObj.rw [vi s] none,AObj.rw [Value.func (Fn.func g) ⟨[]⟩ ⟨[ptr0 5]⟩] none,AObj.rw (Value.slice none 0 0::I10 empI []) none,AObj.rw (slotV no 16 n::I10 st []) none,AObj.rw [Value.bool no] none,AObj.loop LoopState.ready none ⟨[Value.func (Fn.func (122:FuncId)) ⟨[]⟩ ⟨[ptr0 3,ptr0 4]⟩,Value.func (Fn.func g) ⟨[]⟩ ⟨[ptr0 5]⟩,junk,ptr0 6,ptr0 7,ptr0 8,ptr0 9,junk,Value.func (Fn.func (122:FuncId)) ⟨[]⟩ ⟨[ptr0 3,ptr0 4]⟩,junk,junk,junk,junk,junk,junk,junk,junk,junk,junk,junk,junk,junk]⟩ ⟨[9]⟩ y1_c0 y1_c1,AObj.rw [Value.func (Fn.yield 10) ⟨[]⟩ ⟨[]⟩] none,AObj.loop LoopState.ready none ⟨[Value.func (Fn.yield 10) ⟨[]⟩ ⟨[]⟩,ptr0 3,ptr0 4,ptr0 11,junk,Value.func (Fn.func (123:FuncId)) ⟨[]⟩ ⟨[ptr0 2]⟩,junk,junk,junk,junk,junk,junk,junk,junk,junk,junk]⟩ ⟨[6]⟩ y1_c2 y1_c3,AObj.rw [Value.func (Fn.yield 12) ⟨[]⟩ ⟨[]⟩] none,AObj.rw [ptr0 1] none,AObj.loop LoopState.busy none ⟨[Value.func (Fn.yield 12) ⟨[]⟩ ⟨[]⟩,ptr0 2,ptr0 13,junk,ptr0 1,Value.func (Fn.func (133:FuncId)) ⟨[]⟩ ⟨[ptr0 14]⟩,junk,junk,junk,junk,junk,junk,junk]⟩ ⟨[6]⟩ y1_c4 y1_c5,AObj.gone,AObj.rw (List.map (Value.int IntKind.i64) m) (some 1)]=[AObj.ro (List.map (Value.int IntKind.i64) l),AObj.rw (vi b::Value.slice (some (ad0 0)) n c::vi (f:Int)::B10 (tmd n) []) none,AObj.rw [ptr0 1] none,AObj.rw [Value.func (Fn.func (123:FuncId)) ⟨[]⟩ ⟨[ptr0 2]⟩] none,AObj.rw [Value.func (Fn.func (61:FuncId)) ⟨[ptr0 1]⟩ ⟨[]⟩] none,AObj.rw [vi s] none,AObj.rw [Value.func (Fn.func g) ⟨[]⟩ ⟨[ptr0 5]⟩] none,AObj.rw (Value.slice none 0 0::I10 empI []) none,AObj.rw (slotV no 16 n::I10 st []) none,AObj.rw [Value.bool no] none,AObj.loop LoopState.ready none ⟨[Value.func (Fn.func (122:FuncId)) ⟨[]⟩ ⟨[ptr0 3,ptr0 4]⟩,Value.func (Fn.func g) ⟨[]⟩ ⟨[ptr0 5]⟩,junk,ptr0 6,ptr0 7,ptr0 8,ptr0 9,junk,Value.func (Fn.func (122:FuncId)) ⟨[]⟩ ⟨[ptr0 3,ptr0 4]⟩,junk,junk,junk,junk,junk,junk,junk,junk,junk,junk,junk,junk,junk]⟩ ⟨[9]⟩ y1_c0 y1_c1,AObj.rw [Value.func (Fn.yield 10) ⟨[]⟩ ⟨[]⟩] none,AObj.loop LoopState.ready none ⟨[Value.func (Fn.yield 10) ⟨[]⟩ ⟨[]⟩,ptr0 3,ptr0 4,ptr0 11,junk,Value.func (Fn.func (123:FuncId)) ⟨[]⟩ ⟨[ptr0 2]⟩,junk,junk,junk,junk,junk,junk,junk,junk,junk,junk]⟩ ⟨[6]⟩ y1_c2 y1_c3,AObj.rw [Value.func (Fn.yield 12) ⟨[]⟩ ⟨[]⟩] none,AObj.rw [ptr0 1] none,AObj.loop LoopState.busy none ⟨[Value.func (Fn.yield 12) ⟨[]⟩ ⟨[]⟩,ptr0 2,ptr0 13,junk,ptr0 1,Value.func (Fn.func (133:FuncId)) ⟨[]⟩ ⟨[ptr0 14]⟩,junk,junk,junk,junk,junk,junk,junk]⟩ ⟨[6]⟩ y1_c4 y1_c5,AObj.gone,AObj.rw (List.map (Value.int IntKind.i64) m) (some 1)]∧l.length=n * 2∧n≤10∧(no=true→st=empI))∧(false=true→Ob (Value.bool false=Value.bool true∧[AObj.ro (List.map (Value.int IntKind.i64) l),AObj.rw (vi b::Value.slice (some (ad0 0)) n c::vi (f:Int)::B10 (tmd n) []) none,AObj.rw [ptr0 1] none,AObj.rw [Value.func (Fn.func (123:FuncId)) ⟨[]⟩ ⟨[ptr0 2]⟩] none,AObj.rw [Value.func (Fn.func (61:FuncId)) ⟨[ptr0 1]⟩ ⟨[]⟩] none,AObj.rw [vi s] none,AObj.rw [Value.func (Fn.func g) ⟨[]⟩ ⟨[ptr0 5]⟩] none,AObj.rw (Value.slice none 0 0::I10 empI []) none,AObj.rw (slotV (nxSs g s N b n l m no st).no 18 n::I10 ((nxSs g s N b n l m no st).st) []) none,AObj.rw [Value.bool (nxSs g s N b n l m no st).no] none,AObj.loop LoopState.ready none ⟨[Value.func (Fn.func (122:FuncId)) ⟨[]⟩ ⟨[ptr0 3,ptr0 4]⟩,Value.func (Fn.func g) ⟨[]⟩ ⟨[ptr0 5]⟩,junk,ptr0 6,ptr0 7,ptr0 8,ptr0 9,junk,Value.func (Fn.func (122:FuncId)) ⟨[]⟩ ⟨[ptr0 3,ptr0 4]⟩,junk,junk,junk,junk,junk,junk,junk,junk,junk,junk,junk,junk,junk]⟩ ⟨[9]⟩ y1_c0 y1_c1,AObj.rw [Value.func (Fn.yield 10) ⟨[]⟩ ⟨[]⟩] none,AObj.loop LoopState.ready none ⟨[Value.func (Fn.yield 10) ⟨[]⟩ ⟨[]⟩,ptr0 3,ptr0 4,ptr0 11,junk,Value.func (Fn.func (123:FuncId)) ⟨[]⟩ ⟨[ptr0 2]⟩,junk,junk,junk,junk,junk,junk,junk,junk,junk,junk]⟩ ⟨[6]⟩ y1_c2 y1_c3,AObj.rw [Value.func (Fn.yield 12) ⟨[]⟩ ⟨[]⟩] none,AObj.rw [ptr0 1] none,AObj.loop LoopState.done (some Code.ret) ⟨[Value.func (Fn.yield 12) ⟨[]⟩ ⟨[]⟩,ptr0 2,ptr0 13,junk,ptr0 1,Value.func (Fn.func (133:FuncId)) ⟨[]⟩ ⟨[ptr0 14]⟩,junk,junk,junk,junk,junk,junk,junk]⟩ ⟨[6]⟩ y1_c4 y1_c5,AObj.gone,AObj.rw (List.map (Value.int IntKind.i64) m) (some 1),AObj.gone]=[AObj.ro (List.map (Value.int IntKind.i64) l),AObj.rw (vi b::Value.slice (some (ad0 0)) n c::vi (f:Int)::B10 (tmd n) []) none,AObj.rw [ptr0 1] none,AObj.rw [Value.func (Fn.func (123:FuncId)) ⟨[]⟩ ⟨[ptr0 2]⟩] none,AObj.rw [Value.func (Fn.func (61:FuncId)) ⟨[ptr0 1]⟩ ⟨[]⟩] none,AObj.rw [vi s] none,AObj.rw [Value.func (Fn.func g) ⟨[]⟩ ⟨[ptr0 5]⟩] none,AObj.rw (Value.slice none 0 0::I10 empI []) none,AObj.rw (slotV (nxSs g s N b n l m no st).no 18 n::I10 ((nxSs g s N b n l m no st).st) []) none,AObj.rw [Value.bool (nxSs g s N b n l m no st).no] none,AObj.loop LoopState.ready none ⟨[Value.func (Fn.func (122:FuncId)) ⟨[]⟩ ⟨[ptr0 3,ptr0 4]⟩,Value.func (Fn.func g) ⟨[]⟩ ⟨[ptr0 5]⟩,junk,ptr0 6,ptr0 7,ptr0 8,ptr0 9,junk,Value.func (Fn.func (122:FuncId)) ⟨[]⟩ ⟨[ptr0 3,ptr0 4]⟩,junk,junk,junk,junk,junk,junk,junk,junk,junk,junk,junk,junk,junk]⟩ ⟨[9]⟩ y1_c0 y1_c1,AObj.rw [Value.func (Fn.yield 10) ⟨[]⟩ ⟨[]⟩] none,AObj.loop LoopState.ready none ⟨[Value.func (Fn.yield 10) ⟨[]⟩ ⟨[]⟩,ptr0 3,ptr0 4,ptr0 11,junk,Value.func (Fn.func (123:FuncId)) ⟨[]⟩ ⟨[ptr0 2]⟩,junk,junk,junk,junk,junk,junk,junk,junk,junk,junk]⟩ ⟨[6]⟩ y1_c2 y1_c3,AObj.rw [Value.func (Fn.yield 12) ⟨[]⟩ ⟨[]⟩] none,AObj.rw [ptr0 1] none,AObj.loop LoopState.ready none ⟨[Value.func (Fn.yield 12) ⟨[]⟩ ⟨[]⟩,ptr0 2,ptr0 13,junk,ptr0 1,Value.func (Fn.func (133:FuncId)) ⟨[]⟩ ⟨[ptr0 14]⟩,junk,junk,junk,junk,junk,junk,junk]⟩ ⟨[6]⟩ y1_c4 y1_c5,AObj.gone,AObj.rw (List.map (Value.int IntKind.i64) m) (some 1),AObj.gone]))∧(false=false→Ob (Value.bool true=Value.bool true∧[AObj.ro (List.map (Value.int IntKind.i64) l),AObj.rw (vi b::Value.slice (some (ad0 0)) n c::vi (f:Int)::B10 (tmd n) []) none,AObj.rw [ptr0 1] none,AObj.rw [Value.func (Fn.func (123:FuncId)) ⟨[]⟩ ⟨[ptr0 2]⟩] none,AObj.rw [Value.func (Fn.func (61:FuncId)) ⟨[ptr0 1]⟩ ⟨[]⟩] none,AObj.rw [vi s] none,AObj.rw [Value.func (Fn.func g) ⟨[]⟩ ⟨[ptr0 5]⟩] none,AObj.rw (Value.slice none 0 0::I10 empI []) none,AObj.rw (slotV (nxSs g s N b n l m no st).no 18 n::I10 ((nxSs g s N b n l m no st).st) []) none,AObj.rw [Value.bool (nxSs g s N b n l m no st).no] none,AObj.loop LoopState.ready none ⟨[Value.func (Fn.func (122:FuncId)) ⟨[]⟩ ⟨[ptr0 3,ptr0 4]⟩,Value.func (Fn.func g) ⟨[]⟩ ⟨[ptr0 5]⟩,junk,ptr0 6,ptr0 7,ptr0 8,ptr0 9,junk,Value.func (Fn.func (122:FuncId)) ⟨[]⟩ ⟨[ptr0 3,ptr0 4]⟩,junk,junk,junk,junk,junk,junk,junk,junk,junk,junk,junk,junk,junk]⟩ ⟨[9]⟩ y1_c0 y1_c1,AObj.rw [Value.func (Fn.yield 10) ⟨[]⟩ ⟨[]⟩] none,AObj.loop LoopState.ready none ⟨[Value.func (Fn.yield 10) ⟨[]⟩ ⟨[]⟩,ptr0 3,ptr0 4,ptr0 11,junk,Value.func (Fn.func (123:FuncId)) ⟨[]⟩ ⟨[ptr0 2]⟩,junk,junk,junk,junk,junk,junk,junk,junk,junk,junk]⟩ ⟨[6]⟩ y1_c2 y1_c3,AObj.rw [Value.func (Fn.yield 12) ⟨[]⟩ ⟨[]⟩] none,AObj.rw [ptr0 1] none,AObj.loop LoopState.ready none ⟨[Value.func (Fn.yield 12) ⟨[]⟩ ⟨[]⟩,ptr0 2,ptr0 13,junk,ptr0 1,Value.func (Fn.func (133:FuncId)) ⟨[]⟩ ⟨[ptr0 14]⟩,junk,junk,junk,junk,junk,junk,junk]⟩ ⟨[6]⟩ y1_c4 y1_c5,AObj.gone,AObj.rw (List.map (Value.int IntKind.i64) m) (some 1),AObj.gone]=[AObj.ro (List.map (Value.int IntKind.i64) l),AObj.rw (vi b::Value.slice (some (ad0 0)) n c::vi (f:Int)::B10 (tmd n) []) none,AObj.rw [ptr0 1] none,AObj.rw [Value.func (Fn.func (123:FuncId)) ⟨[]⟩ ⟨[ptr0 2]⟩] none,AObj.rw [Value.func (Fn.func (61:FuncId)) ⟨[ptr0 1]⟩ ⟨[]⟩] none,AObj.rw [vi s] none,AObj.rw [Value.func (Fn.func g) ⟨[]⟩ ⟨[ptr0 5]⟩] none,AObj.rw (Value.slice none 0 0::I10 empI []) none,AObj.rw (slotV (nxSs g s N b n l m no st).no 18 n::I10 ((nxSs g s N b n l m no st).st) []) none,AObj.rw [Value.bool (nxSs g s N b n l m no st).no] none,AObj.loop LoopState.ready none ⟨[Value.func (Fn.func (122:FuncId)) ⟨[]⟩ ⟨[ptr0 3,ptr0 4]⟩,Value.func (Fn.func g) ⟨[]⟩ ⟨[ptr0 5]⟩,junk,ptr0 6,ptr0 7,ptr0 8,ptr0 9,junk,Value.func (Fn.func (122:FuncId)) ⟨[]⟩ ⟨[ptr0 3,ptr0 4]⟩,junk,junk,junk,junk,junk,junk,junk,junk,junk,junk,junk,junk,junk]⟩ ⟨[9]⟩ y1_c0 y1_c1,AObj.rw [Value.func (Fn.yield 10) ⟨[]⟩ ⟨[]⟩] none,AObj.loop LoopState.ready none ⟨[Value.func (Fn.yield 10) ⟨[]⟩ ⟨[]⟩,ptr0 3,ptr0 4,ptr0 11,junk,Value.func (Fn.func (123:FuncId)) ⟨[]⟩ ⟨[ptr0 2]⟩,junk,junk,junk,junk,junk,junk,junk,junk,junk,junk]⟩ ⟨[6]⟩ y1_c2 y1_c3,AObj.rw [Value.func (Fn.yield 12) ⟨[]⟩ ⟨[]⟩] none,AObj.rw [ptr0 1] none,AObj.loop LoopState.ready none ⟨[Value.func (Fn.yield 12) ⟨[]⟩ ⟨[]⟩,ptr0 2,ptr0 13,junk,ptr0 1,Value.func (Fn.func (133:FuncId)) ⟨[]⟩ ⟨[ptr0 14]⟩,junk,junk,junk,junk,junk,junk,junk]⟩ ⟨[6]⟩ y1_c4 y1_c5,AObj.gone,AObj.rw (List.map (Value.int IntKind.i64) m) (some 1),AObj.gone]))
theorem y2Vs_eq : y2Vs = fun (g : Nat) (s : Int) (N : (Nat→Int)→Int) (b : Int) (n c f : Nat) (l m : List Int) (no : Bool) (st : Nat→Int) => ycT (ycInY Try.prog (y2E b n c f l m) (y1Yts g s N b n c f l m no st) (fun _ => none) 15 [newS 17 n] (EG b n c f l m (spF g) (xB s) .ready no 16 st)) (fun v H' => Ob (v = .bool true∧H' = EG b n c f l m (spF g) (xB s) .ready (nxSs g s N b n l m no st).no 18 (nxSs g s N b n l m no st).st ++ [.gone])) := by kernel_rfl
theorem y2V_oks (g : Nat) (s : Int) (N : (Nat→Int)→Int) (hY : SpanOk g s N) (b : Int) (n c f : Nat) (l m : List Int) (no : Bool) (st : Nat→Int) (hl : l.length = n * 2) (hn : n≤10) (hr : rngP b n l) (hm : m.length = n) (ha : ∀ j,j < m.length→0≤m.getD j 0∧m.getD j 0 < n) (hs : no = true→st = empI) : y2Vs g s N b n c f l m no st := by
 unfold y2Vs
 exact ⟨⟨⟨rfl,rfl⟩,rfl,hm.symm,hl,hn,hr,by omega,ha⟩,⟨rfl,by kernel_rfl,hl,hn,hs⟩,fun h => absurd h (by decide),fun _ => ⟨rfl,by kernel_rfl⟩⟩
theorem y1Yt_oks (g : Nat) (s : Int) (N : (Nat→Int)→Int) (hY : SpanOk g s N) (b : Int) (n c f : Nat) (l m : List Int) (no : Bool) (st : Nat→Int) : YtOk Try.prog (y1Yts g s N b n c f l m no st) := by
 intro b' args H φ v H' lg h hφ
 unfold y1Yts at h
 split at h <;> cases h
 rename_i hb
 obtain rfl := Nat.eq_of_beq_eq_true hb
 obtain ⟨rfl,rfl,h1,h2,h3⟩ := hφ
 refine ⟨hY b n c f l m _ ⟨no,st⟩ h1 h2 h3,by rw [List.length_append,EG_len,EG_len]; omega,fun b1 h4 h5 => ?_⟩
 rw [EG_len] at h4
 rw [List.getElem?_append_left (by rw [EG_len]; exact h4)]
 have h8 : b1 ≠ 8 := fun e => h5 (by subst e; simp)
 have h9 : b1 ≠ 9 := fun e => h5 (by subst e; simp)
 unfold EG EH
 rcases b1 with _ | _ | _ | _ | _ | _ | _ | _ | _ | _ | _ | _ | _ | _ | _ | _ | _ | _ | b1 <;> first | rfl | omega
theorem y2_yields (g : Nat) (s : Int) (N : (Nat→Int)→Int) (hY : SpanOk g s N) (b : Int) (n c f : Nat) (l m : List Int) (no : Bool) (st : Nat→Int) (hl : l.length = n * 2) (hn : n≤10) (hr : rngP b n l) (hm : m.length = n) (ha : ∀ j,j < m.length→0≤m.getD j 0∧m.getD j 0 < n) (hs : no = true→st = empI) :
   Yield Try.prog 15 [newS 17 n] (EG b n c f l m (spF g) (xB s) .ready no 16 st) fun v H' => v = .bool true∧H' = EG b n c f l m (spF g) (xB s) .ready (nxSs g s N b n l m no st).no 18 (nxSs g s N b n l m no st).st ++ [.gone] := by
 have h := y2V_oks g s N hY b n c f l m no st hl hn hr hm ha hs
 rw [y2Vs_eq] at h
 unfold ycT at h
 split at h
 · rename_i T hT
   exact (ycIn_okY (y2E_ok b n c f l m) (y1Yt_oks g s N hY b n c f l m no st) mixed _ _ _ _ hT _ h).mono fun v H' k => k.out
 · exact h.elim
end Go.Pier.Rd
namespace Go.Pier.Rd
open Go Go.Pier Go.Proofs
noncomputable def EGLs (g : Nat) (s : Int) (N : (Nat→Int)→Int) (b : Int) (n c f : Nat) (l m : List Int) (no : Bool) (k : Nat) (st : Nat→Int) : Heap := EG b n c f l m (spF g) (xB s) .ready no k st
noncomputable def fdRs (g : Nat) (s : Int) (N : (Nat→Int)→Int) (b : Int) (n : Nat) (l : List Int) (no : Bool) (st : Nat→Int) (r : List (List Int)) : LS := foldR b l (inTB n l) N ⟨no,st⟩ r
noncomputable def grCcs (g:Nat) (s:Int) (N:(Nat→Int)→Int) (b:Int) (n c f:Nat) (l m:List Int) (κ:Nat):Cc := fun fn args H => match Nat.beq fn 134 with
 | true => match Nat.beq H.length 20 with
   | true => some fun Q => ∃ (m2:List Int) (f1 t1:Nat) (no:Bool) (st:Nat→Int) (o18:AObj),Ob (args=[ptr0 1,newS 19 m2.length,vi f1,vi t1,yv 15]∧H=EGLs g s N b n c f l m no 16 st++[o18,rws m2]∧Begun n f1 t1 m2∧f1+(n-t1)+1=κ∧(no=true→st=empI)) ∧
       Q (.bool true) (EGLs g s N b n c f l m (fdRs g s N b n l no st (rds n (κ-1) f1 t1 m2)).no 20 (fdRs g s N b n l no st (rds n (κ-1) f1 t1 m2)).st++[o18,rws m2,.gone])
   | false => match Nat.beq H.length 23 with
     | true => some fun Q => ∃ (m2:List Int) (f1 t1:Nat) (no:Bool) (st:Nat→Int) (o18 o19 o21:AObj),Ob (args=[ptr0 1,newS 22 m2.length,vi f1,vi t1,yv 15]∧H=EGLs g s N b n c f l m no 20 st++[o18,o19,.gone,o21,rws m2]∧Begun n f1 t1 m2∧f1+(n-t1)+1=κ∧(no=true→st=empI)) ∧
         Q (.bool true) (EGLs g s N b n c f l m (fdRs g s N b n l no st (rds n (κ-1) f1 t1 m2)).no 23 (fdRs g s N b n l no st (rds n (κ-1) f1 t1 m2)).st++[o18,o19,.gone,o21,rws m2,.gone])
     | false => none
 | false => none
noncomputable def grYcs (g:Nat) (s:Int) (N:(Nat→Int)→Int) (b:Int) (n c f:Nat) (l m:List Int) (no:Bool) (st:Nat→Int):Yc := fun b1 args H => match Nat.beq b1 15 with
 | true => some fun Q => Ob (args=[newS 17 n]∧H=EGLs g s N b n c f l m no 16 st∧Whole n m)∧Q (.bool true) (EGLs g s N b n c f l m (nxSs g s N b n l m no st).no 18 (nxSs g s N b n l m no st).st++[.gone])
 | false => none
noncomputable def grEs (g : Nat) (s : Int) (N : (Nat→Int)→Int) (b : Int) (n c f : Nat) (l m : List Int) (no : Bool) (st : Nat→Int) (κ : Nat) : VEnv := { orc := orcOr (orcLim Try.prog) prO,cc := grCcs g s N b n c f l m κ,yc := grYcs g s N b n c f l m no st }
noncomputable def grVs0 (g:Nat):Array Value := ⟨[Value.func (Fn.func (122:FuncId)) ⟨[]⟩ ⟨[ptr0 3,ptr0 4]⟩,Value.func (Fn.func g) ⟨[]⟩ ⟨[ptr0 5]⟩,junk,ptr0 6,ptr0 7,ptr0 8,ptr0 9,junk,Value.func (Fn.func (122:FuncId)) ⟨[]⟩ ⟨[ptr0 3,ptr0 4]⟩,junk,junk,junk,junk,junk,junk,junk,junk,junk,junk,junk,junk,junk]⟩
noncomputable def grVs1 (g:Nat) (s:Int) (N:(Nat→Int)→Int) (b:Int) (n:Nat) (c:Nat) (f:Nat) (l:List Int) (m:List Int) (κ:Nat) (f1:Nat) (m2:List Int) (no_1:Bool) (o18:AObj) (st_1:Nat→Int) (t1:Nat):List AObj := [AObj.ro (List.map (Value.int IntKind.i64) l),AObj.rw (vi b::Value.slice (some (ad0 0)) n c::vi (f:Int)::B10 (tmd n) []) none,AObj.rw [ptr0 1] none,AObj.rw [Value.func (Fn.func (123:FuncId)) ⟨[]⟩ ⟨[ptr0 2]⟩] none,AObj.rw [Value.func (Fn.func (61:FuncId)) ⟨[ptr0 1]⟩ ⟨[]⟩] none,AObj.rw [vi s] none,AObj.rw [Value.func (Fn.func g) ⟨[]⟩ ⟨[ptr0 5]⟩] none,AObj.rw (Value.slice none 0 0::I10 empI []) none,AObj.rw (slotV (fdRs g s N b n l no_1 st_1 (rds n (κ-1) f1 t1 m2)).no 20 n::I10 ((fdRs g s N b n l no_1 st_1 (rds n (κ-1) f1 t1 m2)).st) []) none,AObj.rw [Value.bool (fdRs g s N b n l no_1 st_1 (rds n (κ-1) f1 t1 m2)).no] none,AObj.loop LoopState.ready none (grVs0 g) ⟨[9]⟩ y1_c0 y1_c1,AObj.rw [Value.func (Fn.yield 10) ⟨[]⟩ ⟨[]⟩] none,AObj.loop LoopState.ready none ⟨[Value.func (Fn.yield 10) ⟨[]⟩ ⟨[]⟩,ptr0 3,ptr0 4,ptr0 11,junk,Value.func (Fn.func (123:FuncId)) ⟨[]⟩ ⟨[ptr0 2]⟩,junk,junk,junk,junk,junk,junk,junk,junk,junk,junk]⟩ ⟨[6]⟩ y1_c2 y1_c3,AObj.rw [Value.func (Fn.yield 12) ⟨[]⟩ ⟨[]⟩] none,AObj.rw [ptr0 1] none,AObj.loop LoopState.ready none ⟨[Value.func (Fn.yield 12) ⟨[]⟩ ⟨[]⟩,ptr0 2,ptr0 13,junk,ptr0 1,Value.func (Fn.func (133:FuncId)) ⟨[]⟩ ⟨[ptr0 14]⟩,junk,junk,junk,junk,junk,junk,junk]⟩ ⟨[6]⟩ y1_c4 y1_c5,AObj.gone,AObj.rw (List.map (Value.int IntKind.i64) m) (some 1),o18,AObj.rw (List.map (Value.int IntKind.i64) m2) (some 1),AObj.gone]
noncomputable def grVs2 (g:Nat) (s:Int) (b:Int) (n:Nat) (c:Nat) (f:Nat) (l:List Int) (m:List Int) (no:Bool) (st:Nat→Int):List AObj := [AObj.ro (List.map (Value.int IntKind.i64) l),AObj.rw (vi b::Value.slice (some (ad0 0)) n c::vi (f:Int)::B10 (tmd n) []) none,AObj.rw [ptr0 1] none,AObj.rw [Value.func (Fn.func (123:FuncId)) ⟨[]⟩ ⟨[ptr0 2]⟩] none,AObj.rw [Value.func (Fn.func (61:FuncId)) ⟨[ptr0 1]⟩ ⟨[]⟩] none,AObj.rw [vi s] none,AObj.rw [Value.func (Fn.func g) ⟨[]⟩ ⟨[ptr0 5]⟩] none,AObj.rw (Value.slice none 0 0::I10 empI []) none,AObj.rw (slotV no 16 n::I10 st []) none,AObj.rw [Value.bool no] none,AObj.loop LoopState.ready none (grVs0 g) ⟨[9]⟩ y1_c0 y1_c1,AObj.rw [Value.func (Fn.yield 10) ⟨[]⟩ ⟨[]⟩] none,AObj.loop LoopState.ready none ⟨[Value.func (Fn.yield 10) ⟨[]⟩ ⟨[]⟩,ptr0 3,ptr0 4,ptr0 11,junk,Value.func (Fn.func (123:FuncId)) ⟨[]⟩ ⟨[ptr0 2]⟩,junk,junk,junk,junk,junk,junk,junk,junk,junk,junk]⟩ ⟨[6]⟩ y1_c2 y1_c3,AObj.rw [Value.func (Fn.yield 12) ⟨[]⟩ ⟨[]⟩] none,AObj.rw [ptr0 1] none,AObj.loop LoopState.ready none ⟨[Value.func (Fn.yield 12) ⟨[]⟩ ⟨[]⟩,ptr0 2,ptr0 13,junk,ptr0 1,Value.func (Fn.func (133:FuncId)) ⟨[]⟩ ⟨[ptr0 14]⟩,junk,junk,junk,junk,junk,junk,junk]⟩ ⟨[6]⟩ y1_c4 y1_c5,AObj.gone,AObj.rw (List.map (Value.int IntKind.i64) m) (some 1)]
noncomputable def grVs3  : Array Value := { toList := [Value.func (Fn.yield (10 : Nat)) { toList := [] } { toList := [] },ptr0 3,ptr0 4,ptr0 11,junk,Value.func (Fn.func (123 : FuncId)) { toList := [] } { toList := [ptr0 2] },junk,junk,junk,junk,junk,junk,junk,junk,junk,junk] }
noncomputable def grVs4  : Array Value := { toList := [Value.func (Fn.yield (12 : Nat)) { toList := [] } { toList := [] },ptr0 2,ptr0 13,junk,ptr0 1,Value.func (Fn.func (133 : FuncId)) { toList := [] } { toList := [ptr0 14] },junk,junk,junk,junk,junk,junk,junk] }
noncomputable def grVs5 (g:Nat) (s:Int) (b:Int) (n:Nat) (c:Nat) (f:Nat) (l:List Int) (m:List Int) (m2:List Int) (no_1:Bool) (o18:AObj) (st_1:Nat→Int):List AObj := [AObj.ro (List.map (Value.int IntKind.i64) l),AObj.rw (vi b::Value.slice (some (ad0 0)) n c::vi (f:Int)::B10 (tmd n) []) none,AObj.rw [ptr0 1] none,AObj.rw [Value.func (Fn.func (123:FuncId)) ⟨[]⟩ ⟨[ptr0 2]⟩] none,AObj.rw [Value.func (Fn.func (61:FuncId)) ⟨[ptr0 1]⟩ ⟨[]⟩] none,AObj.rw [vi s] none,AObj.rw [Value.func (Fn.func g) ⟨[]⟩ ⟨[ptr0 5]⟩] none,AObj.rw (Value.slice none 0 0::I10 empI []) none,AObj.rw (slotV no_1 16 n::I10 st_1 []) none,AObj.rw [Value.bool no_1] none,AObj.loop LoopState.ready none (grVs0 g) ⟨[9]⟩ y1_c0 y1_c1,AObj.rw [Value.func (Fn.yield 10) ⟨[]⟩ ⟨[]⟩] none,AObj.loop LoopState.ready none grVs3 ⟨[6]⟩ y1_c2 y1_c3,AObj.rw [Value.func (Fn.yield 12) ⟨[]⟩ ⟨[]⟩] none,AObj.rw [ptr0 1] none,AObj.loop LoopState.ready none grVs4 ⟨[6]⟩ y1_c4 y1_c5,AObj.gone,AObj.rw (List.map (Value.int IntKind.i64) m) (some 1),o18,AObj.rw (List.map (Value.int IntKind.i64) m2) (some 1)]
noncomputable def grVs6 (m:List Int) := (andP (some (0+1≤1∧true=true)) (m.length+1≤1099511627776∧(2 * (m.length+1)+256) * 8≤281474976710656∧1=1∧m.length<m.length+1∧0+m.length * 1≤(List.map (Value.int IntKind.i64) m).length))
noncomputable def grVs7  : List Value := [Value.func (Fn.func (123 : FuncId)) { toList := [] } { toList := [ptr0 2] }]
noncomputable def grVs8  : List Value := [Value.func (Fn.func (61 : FuncId)) { toList := [ptr0 1] } { toList := [] }]
noncomputable def grVs9  : List Value := [Value.func (Fn.yield (10 : Nat)) { toList := [] } { toList := [] }]
noncomputable def grVs10  : List Value := [Value.func (Fn.yield (12 : Nat)) { toList := [] } { toList := [] }]
noncomputable def grVs11 (g:Nat) := (Value.func (Fn.func g) ⟨[]⟩ ⟨[ptr0 5]⟩)
noncomputable def grVs12 (g:Nat):List Value := [Value.func (Fn.func g) ⟨[]⟩ ⟨[ptr0 5]⟩]
noncomputable def grVs13 (b:Int) (n:Nat) (c:Nat) (f:Nat) := (vi b::Value.slice (some (ad0 0)) n c::vi (f:Int)::B10 (tmd n) [])
noncomputable def grVs14  := (Value.int IntKind.i64)
noncomputable def grVs15  := (Value.slice none (0 : Nat) (0 : Nat) :: I10 empI [])
noncomputable def grVs16  (f1:Nat) (m2:List Int) (t1:Nat):List Value := [ptr0 1,Value.slice (some ⟨19,0,some 0⟩) m2.length 0,vi (f1:Int),vi (t1:Int),Value.func (Fn.yield 15) ⟨[]⟩ ⟨[]⟩]
noncomputable def grVs17 (m:List Int) := (List.map grVs14 m)
noncomputable def grVs18 (gx:Nat) := (IntKind.i64.wrap ((gx:Int)-(1:Int)))
noncomputable def grVs :=
fun (g:Nat) (s:Int) (N:(Nat→Int)→Int) (b:Int) (n c f:Nat) (l m:List Int) (no:Bool) (st:Nat→Int) (κ gx t:Nat)↦(((m.length:Int)==(n:Int))=true→Ob ([Value.slice (some ⟨17,0,some 0⟩) m.length 0]=[Value.slice (some ⟨17,0,some 0⟩) n 0]∧(grVs2 g s b n c f l m no st)=(grVs2 g s b n c f l m no st)∧Whole n m)∧True∧Ob (YR b n c f l m (grVs11 g) (AObj.rw [vi s] none) LoopState.ready (fdRs g s N b n l no st (rds n κ gx t m)) (Value.bool true) [AObj.ro (List.map grVs14 l),AObj.rw (grVs13 b n c f) none,AObj.rw [ptr0 1] none,AObj.rw grVs7 none,AObj.rw grVs8 none,AObj.rw [vi s] none,AObj.rw (grVs12 g) none,AObj.rw grVs15 none,AObj.rw (slotV (nxSs g s N b n l m no st).no 18 n::I10 ((nxSs g s N b n l m no st).st) []) none,AObj.rw [Value.bool (nxSs g s N b n l m no st).no] none,AObj.loop LoopState.ready none (grVs0 g) ⟨[9]⟩ y1_c0 y1_c1,AObj.rw grVs9 none,AObj.loop LoopState.ready none grVs3 ⟨[6]⟩ y1_c2 y1_c3,AObj.rw grVs10 none,AObj.rw [ptr0 1] none,AObj.loop LoopState.ready none grVs4 ⟨[6]⟩ y1_c4 y1_c5,AObj.gone,AObj.rw (grVs17 m) (some 1),AObj.gone]))∧(((m.length:Int)==(n:Int))=false→Ob (m.length≤(grVs17 m).length∧(m.length:Int)=(m.length:Int)∧(m.length:Int)=(m.length:Int))∧(decide ((0:Int)<(gx:Int))=true→Ob (grVs6 m)∧∃ (m2:List Int),∃ (f1:Nat),∃ (t1:Nat),∃ (no_1:Bool),∃ (st_1:Nat→Int),∃ (o18:AObj),Ob ([ptr0 1,Value.slice (some ⟨19,0,some 0⟩) (m.length+1) 0,vi (grVs18 gx),vi (t:Int),Value.func (Fn.yield 15) ⟨[]⟩ ⟨[]⟩]=(grVs16 f1 m2 t1)∧[AObj.ro (List.map grVs14 l),AObj.rw (grVs13 b n c f) none,AObj.rw [ptr0 1] none,AObj.rw grVs7 none,AObj.rw grVs8 none,AObj.rw [vi s] none,AObj.rw (grVs12 g) none,AObj.rw grVs15 none,AObj.rw (slotV no 16 n::I10 st []) none,AObj.rw [Value.bool no] none,AObj.loop LoopState.ready none (grVs0 g) ⟨[9]⟩ y1_c0 y1_c1,AObj.rw grVs9 none,AObj.loop LoopState.ready none grVs3 ⟨[6]⟩ y1_c2 y1_c3,AObj.rw grVs10 none,AObj.rw [ptr0 1] none,AObj.loop LoopState.ready none grVs4 ⟨[6]⟩ y1_c4 y1_c5,AObj.gone,AObj.rw (grVs17 m) (some 1),AObj.rw [vi (grVs18 gx)] none,AObj.rw (List.take (m.length * 1) (List.drop 0 (grVs17 m))++[vi (grVs18 gx)]) (some 1)]=(grVs5 g s b n c f l m m2 no_1 o18 st_1)∧Begun n f1 t1 m2∧f1+(n-t1)+1=κ∧(no_1=true→st_1=empI))∧(false=true→True∧Ob (YR b n c f l m (grVs11 g) (AObj.rw [vi s] none) LoopState.ready (fdRs g s N b n l no st (rds n κ gx t m)) (Value.bool false) (grVs1 g s N b n c f l m κ f1 m2 no_1 o18 st_1 t1)))∧(false=false→(((t:Int)==(n:Int))=false→Ob (grVs6 m)∧∃ (m2_1:List Int),∃ (f1_1:Nat),∃ (t1_1:Nat),∃ (no_2:Bool),∃ (st_2:Nat→Int),∃ (o18_1:AObj),∃ (o19:AObj),∃ (o21:AObj),Ob ([ptr0 1,Value.slice (some ⟨22,0,some 0⟩) (m.length+1) 0,vi (gx:Int),vi (IntKind.i64.wrap ((t:Int)+(1:Int))),Value.func (Fn.yield 15) ⟨[]⟩ ⟨[]⟩]=[ptr0 1,Value.slice (some ⟨22,0,some 0⟩) m2_1.length 0,vi (f1_1:Int),vi (t1_1:Int),Value.func (Fn.yield 15) ⟨[]⟩ ⟨[]⟩]∧[AObj.ro (List.map grVs14 l),AObj.rw (grVs13 b n c f) none,AObj.rw [ptr0 1] none,AObj.rw grVs7 none,AObj.rw grVs8 none,AObj.rw [vi s] none,AObj.rw (grVs12 g) none,AObj.rw grVs15 none,AObj.rw (slotV (fdRs g s N b n l no_1 st_1 (rds n (κ-1) f1 t1 m2)).no 20 n::I10 ((fdRs g s N b n l no_1 st_1 (rds n (κ-1) f1 t1 m2)).st) []) none,AObj.rw [Value.bool (fdRs g s N b n l no_1 st_1 (rds n (κ-1) f1 t1 m2)).no] none,AObj.loop LoopState.ready none (grVs0 g) ⟨[9]⟩ y1_c0 y1_c1,AObj.rw grVs9 none,AObj.loop LoopState.ready none grVs3 ⟨[6]⟩ y1_c2 y1_c3,AObj.rw grVs10 none,AObj.rw [ptr0 1] none,AObj.loop LoopState.ready none grVs4 ⟨[6]⟩ y1_c4 y1_c5,AObj.gone,AObj.rw (grVs17 m) (some 1),o18,AObj.rw (List.map grVs14 m2) (some 1),AObj.gone,AObj.rw [vi (t:Int)] none,AObj.rw (List.take (m.length * 1) (List.drop 0 (grVs17 m))++[vi (t:Int)]) (some 1)]=[AObj.ro (List.map grVs14 l),AObj.rw (grVs13 b n c f) none,AObj.rw [ptr0 1] none,AObj.rw grVs7 none,AObj.rw grVs8 none,AObj.rw [vi s] none,AObj.rw (grVs12 g) none,AObj.rw grVs15 none,AObj.rw (slotV no_2 20 n::I10 st_2 []) none,AObj.rw [Value.bool no_2] none,AObj.loop LoopState.ready none (grVs0 g) ⟨[9]⟩ y1_c0 y1_c1,AObj.rw grVs9 none,AObj.loop LoopState.ready none grVs3 ⟨[6]⟩ y1_c2 y1_c3,AObj.rw grVs10 none,AObj.rw [ptr0 1] none,AObj.loop LoopState.ready none grVs4 ⟨[6]⟩ y1_c4 y1_c5,AObj.gone,AObj.rw (grVs17 m) (some 1),o18_1,o19,AObj.gone,o21,AObj.rw (List.map grVs14 m2_1) (some 1)]∧Begun n f1_1 t1_1 m2_1∧f1_1+(n-t1_1)+1=κ∧(no_2=true→st_2=empI))∧True∧Ob (YR b n c f l m (grVs11 g) (AObj.rw [vi s] none) LoopState.ready (fdRs g s N b n l no st (rds n κ gx t m)) (Value.bool true) [AObj.ro (List.map grVs14 l),AObj.rw (grVs13 b n c f) none,AObj.rw [ptr0 1] none,AObj.rw grVs7 none,AObj.rw grVs8 none,AObj.rw [vi s] none,AObj.rw (grVs12 g) none,AObj.rw grVs15 none,AObj.rw (slotV (fdRs g s N b n l no_2 st_2 (rds n (κ-1) f1_1 t1_1 m2_1)).no 23 n::I10 ((fdRs g s N b n l no_2 st_2 (rds n (κ-1) f1_1 t1_1 m2_1)).st) []) none,AObj.rw [Value.bool (fdRs g s N b n l no_2 st_2 (rds n (κ-1) f1_1 t1_1 m2_1)).no] none,AObj.loop LoopState.ready none (grVs0 g) ⟨[9]⟩ y1_c0 y1_c1,AObj.rw grVs9 none,AObj.loop LoopState.ready none grVs3 ⟨[6]⟩ y1_c2 y1_c3,AObj.rw grVs10 none,AObj.rw [ptr0 1] none,AObj.loop LoopState.ready none grVs4 ⟨[6]⟩ y1_c4 y1_c5,AObj.gone,AObj.rw (grVs17 m) (some 1),o18_1,o19,AObj.gone,o21,AObj.rw (List.map grVs14 m2_1) (some 1),AObj.gone]))∧(((t:Int)==(n:Int))=true→True∧Ob (YR b n c f l m (grVs11 g) (AObj.rw [vi s] none) LoopState.ready (fdRs g s N b n l no st (rds n κ gx t m)) (Value.bool true) (grVs1 g s N b n c f l m κ f1 m2 no_1 o18 st_1 t1)))))∧(decide ((0:Int)<(gx:Int))=false→(((t:Int)==(n:Int))=false→Ob (grVs6 m)∧∃ (m2:List Int),∃ (f1:Nat),∃ (t1:Nat),∃ (no_1:Bool),∃ (st_1:Nat→Int),∃ (o18:AObj),Ob ([ptr0 1,Value.slice (some ⟨19,0,some 0⟩) (m.length+1) 0,vi (gx:Int),vi (IntKind.i64.wrap ((t:Int)+(1:Int))),Value.func (Fn.yield 15) ⟨[]⟩ ⟨[]⟩]=(grVs16 f1 m2 t1)∧[AObj.ro (List.map grVs14 l),AObj.rw (grVs13 b n c f) none,AObj.rw [ptr0 1] none,AObj.rw grVs7 none,AObj.rw grVs8 none,AObj.rw [vi s] none,AObj.rw (grVs12 g) none,AObj.rw grVs15 none,AObj.rw (slotV no 16 n::I10 st []) none,AObj.rw [Value.bool no] none,AObj.loop LoopState.ready none (grVs0 g) ⟨[9]⟩ y1_c0 y1_c1,AObj.rw grVs9 none,AObj.loop LoopState.ready none grVs3 ⟨[6]⟩ y1_c2 y1_c3,AObj.rw grVs10 none,AObj.rw [ptr0 1] none,AObj.loop LoopState.ready none grVs4 ⟨[6]⟩ y1_c4 y1_c5,AObj.gone,AObj.rw (grVs17 m) (some 1),AObj.rw [vi (t:Int)] none,AObj.rw (List.take (m.length * 1) (List.drop 0 (grVs17 m))++[vi (t:Int)]) (some 1)]=(grVs5 g s b n c f l m m2 no_1 o18 st_1)∧Begun n f1 t1 m2∧f1+(n-t1)+1=κ∧(no_1=true→st_1=empI))∧True∧Ob (YR b n c f l m (grVs11 g) (AObj.rw [vi s] none) LoopState.ready (fdRs g s N b n l no st (rds n κ gx t m)) (Value.bool true) (grVs1 g s N b n c f l m κ f1 m2 no_1 o18 st_1 t1)))∧(((t:Int)==(n:Int))=true→True∧Ob (YR b n c f l m (grVs11 g) (AObj.rw [vi s] none) LoopState.ready (fdRs g s N b n l no st (rds n κ gx t m)) (Value.bool true) (grVs2 g s b n c f l m no st)))))
theorem grVs_eq : grVs = fun (g : Nat) (s : Int) (N : (Nat→Int)→Int) (b : Int) (n c f : Nat) (l m : List Int) (no : Bool) (st : Nat→Int) (κ gx t : Nat) => vc Try.prog (grEs g s N b n c f l m no st κ) 18 66 true (fun _ => none) grB [] (argFr 0 [ptr0 1,newS 17 m.length,vi gx,vi t,yv 15]) (EGLs g s N b n c f l m no 16 st) (retK Try.prog Try.f134 (YR b n c f l m (spF g) (xB s) .ready (fdRs g s N b n l no st (rds n κ gx t m)))) := by kernel_rfl
theorem fdR_ones (g : Nat) (s : Int) (N : (Nat→Int)→Int) (hY : SpanOk g s N) {b : Int} {n : Nat} {l m : List Int} {no : Bool} {st : Nat→Int} : fdRs g s N b n l no st [m] = nxSs g s N b n l m no st := rfl
theorem fdR_appends (g : Nat) (s : Int) (N : (Nat→Int)→Int) (hY : SpanOk g s N) {b : Int} {n : Nat} {l : List Int} {no : Bool} {st : Nat→Int} {r r' : List (List Int)} : fdRs g s N b n l no st (r ++ r') = fdRs g s N b n l (fdRs g s N b n l no st r).no (fdRs g s N b n l no st r).st r' := foldR_append
theorem fdR_emps (g : Nat) (s : Int) (N : (Nat→Int)→Int) (hY : SpanOk g s N) {b : Int} {n : Nat} {l : List Int} {no : Bool} {st : Nat→Int} {r : List (List Int)} (h : no = true→st = empI) : (fdRs g s N b n l no st r).no = true→(fdRs g s N b n l no st r).st = empI := foldR_emp r ⟨no,st⟩ h
theorem grV_oks (g : Nat) (s : Int) (N : (Nat→Int)→Int) (hY : SpanOk g s N) (b : Int) (n c f : Nat) (l m : List Int) (no : Bool) (st : Nat→Int) (κ gx t : Nat) (hn : n≤10) (hB : Begun n gx t m) (hk : gx + (n - t) = κ) (hs : no = true→st = empI) : grVs g s N b n c f l m no st κ gx t := by
 unfold grVs grVs18 grVs17 grVs16 grVs15 grVs14 grVs13 grVs12 grVs11 grVs10 grVs9 grVs8 grVs7 grVs6 grVs5 grVs4 grVs3 grVs2 grVs1 grVs0
 simp only [SS,reduceCtorEq,Arg.list,Arg.num,Arg.flag,intOf,andP,Nat.reduceLeDiff,Nat.reduceAdd,Nat.reduceMul,Nat.reduceLT,yv,newS]
 have h1 := hB.len
 have h2 := hB.le
 have w2 : IntKind.i64.wrap ((t : Int) + 1) = ((t + 1 : Nat) : Int) := by rw [wrap_in (by omega) (by omega)]; omega
 refine ⟨fun h => ?_,fun h => ⟨fun hg => ?_,fun hg => ?_⟩⟩
 · obtain rfl : gx = 0 := by omega
   obtain rfl : t = n := by omega
   refine ⟨⟨by omega,hB⟩,?_⟩
   rw [show κ = 0 by omega,rds,fdR_ones g s N hY]
   exact ⟨rfl,18,by kernel_rfl,by simp⟩
 · have hg' : 0 < gx := by omega
   have hk' : κ = (κ - 1) + 1 := by omega
   have w1 : IntKind.i64.wrap ((gx : Int) - 1) = ((gx - 1 : Nat) : Int) := by rw [wrap_in (by omega) (by omega)]; omega
   rw [w1]
   refine ⟨by omega,m ++ [((gx - 1 : Nat) : Int)],gx - 1,t,no,st,_,⟨⟨by simp,rfl,rfl⟩,⟨⟨rfl,rfl⟩,rfl,rfl,rfl⟩,hB.left hg',by omega,hs⟩,fun ht => ?_,fun ht => ?_⟩
   · rw [w2]
     have ht' : t < n := by omega
     refine ⟨by omega,m ++ [(t : Int)],gx,t + 1,_,_,_,_,_,⟨⟨by simp,rfl,rfl⟩,⟨⟨rfl,rfl⟩,rfl,rfl,rfl,rfl,rfl⟩,hB.right ht',by omega,fdR_emps g s N hY hs⟩,?_⟩
     rw [show rds n κ gx t m = rds n (κ - 1) (gx - 1) t (m ++ [((gx - 1 : Nat) : Int)]) ++ rds n (κ - 1) gx (t + 1) (m ++ [(t : Int)]) by conv => lhs; rw [hk',rds,if_pos hg',if_pos ht'],fdR_appends g s N hY]
     exact ⟨rfl,23,by kernel_rfl,by simp⟩
   · have ht' : ¬ t < n := by omega
     rw [show rds n κ gx t m = rds n (κ - 1) (gx - 1) t (m ++ [((gx - 1 : Nat) : Int)]) by conv => lhs; rw [hk',rds,if_pos hg',if_neg ht',List.append_nil]]
     exact ⟨rfl,20,by kernel_rfl,by simp⟩
 · have hg' : ¬ 0 < gx := by omega
   have ht' : t < n := by omega
   have hk' : κ = (κ - 1) + 1 := by omega
   rw [w2]
   refine ⟨fun ht => ⟨by omega,m ++ [(t : Int)],gx,t + 1,no,st,_,⟨⟨by simp,rfl,rfl⟩,⟨⟨rfl,rfl⟩,rfl,rfl,rfl⟩,hB.right ht',by omega,hs⟩,?_⟩,fun ht => by omega⟩
   rw [show rds n κ gx t m = rds n (κ - 1) gx (t + 1) (m ++ [(t : Int)]) by conv => lhs; rw [hk',rds,if_neg hg',if_pos ht',List.nil_append]]
   exact ⟨rfl,20,by kernel_rfl,by simp⟩
def GrowAts (g : Nat) (s : Int) (N : (Nat→Int)→Int) (b : Int) (n c f : Nat) (l m : List Int) (no : Bool) (st : Nat→Int) (S : LS) (a t : Int) : Prop :=
 Call Try.prog 134 [ptr0 1,newS 17 m.length,vi a,vi t,yv 15] (EGLs g s N b n c f l m no 16 st) fun v H' => v = .bool true∧H' = EGLs g s N b n c f l m S.no 18 S.st ++ [.gone]
theorem EG_objs (g : Nat) (s : Int) (N : (Nat→Int)→Int) (hY : SpanOk g s N) {b : Int} {n c f k : Nat} {l m : List Int} {no : Bool} {st : Nat→Int} {L : List Nat} {H : Heap} {σ : Nat→Nat} (hσ : σ = fun c => L.getD c 0) (h : (EGr b n c f (spF g) (xB s) .ready).map (omap σ) = EGr b n c f (spF g) (xB s) .ready)
   (hH : ∀ (c' : Nat) (o : AObj),c' < 16→(EGLs g s N b n c f l m no (σ k) st)[c']? = some o→H[L.getD c' 0]? = some o) (h17 : H[L.getD 17 0]? = some (rws m)) :
   ∀ (c' : Nat) (o : AObj),(EGLs g s N b n c f l m no k st)[c']? = some o→o = .gone∨H[L.getD c' 0]? = some (omap (fun c => L.getD c 0) o) := fun c' o hc => by
 subst hσ
 rcases Nat.lt_or_ge c' 16 with h1 | h1
 · right
   refine hH c' _ h1 ?_
   have := EG_map (σ := fun c => L.getD c 0) (b := b) (n := n) (c := c) (f := f) (k := k) (l := l) (m := m) (no := no) (st := st) h
   unfold EGLs at hc ⊢
   rw [← this,List.getElem?_map,hc]; rfl
 · have h2 : c' < 18 := (List.getElem?_eq_some_iff.1 hc).1
   rcases Nat.lt_or_ge c' 17 with h3 | h3
   · obtain rfl : c' = 16 := by omega
     left; cases hc; rfl
   · obtain rfl : c' = 17 := by omega
     right
     have e : o = rws m := by cases hc; rfl
     rw [h17,e,rws_omap]
theorem gr_site1s (g : Nat) (s : Int) (N : (Nat→Int)→Int) (hY : SpanOk g s N) {b : Int} {n c f : Nat} {l m m2 : List Int} {no : Bool} {st : Nat→Int} {S : LS} {a t : Int} {o18 : AObj} (h : GrowAts g s N b n c f l m2 no st S a t) :
   Call Try.prog 134 [ptr0 1,newS 19 m2.length,vi a,vi t,yv 15] (EGLs g s N b n c f l m no 16 st ++ [o18,rws m2]) fun v H' => v = .bool true∧H' = EGLs g s N b n c f l m S.no 20 S.st ++ [o18,rws m2,.gone] := by
 have hmap : (EGr b n c f (spF g) (xB s) .ready).map (omap (nameL [0,1,2,3,4,5,6,7,8,9,10,11,12,13,14,15,16,19] 18 20)) = EGr b n c f (spF g) (xB s) .ready := by kernel_rfl
 have hF := EG_map (l := l) (m := m2) (k := 18) (no := S.no) (st := S.st) hmap
 have := (Call.frameG (H := EGLs g s N b n c f l m no 16 st ++ [o18,rws m2]) (Et := EGLs g s N b n c f l m2 no 16 st) (Ft := EGLs g s N b n c f l m2 S.no 18 S.st) (N := [.gone]) (L := [0,1,2,3,4,5,6,7,8,9,10,11,12,13,14,15,16,19]) (vs := [ptr0 1,newS 19 m2.length,vi a,vi t,yv 15]) rfl rfl (by decide) (getD_lt (by kernel_rfl))
   (EG_objs g s N hY (σ := fun c => [0,1,2,3,4,5,6,7,8,9,10,11,12,13,14,15,16,19].getD c 0) rfl (by kernel_rfl) (fun c' o h1 h2 => by
     rcases c' with _ | _ | _ | _ | _ | _ | _ | _ | _ | _ | _ | _ | _ | _ | _ | _ | c' <;> first | exact h2 | omega) rfl)
   (EG_scN (N := 18) (show 16 < 18 by omega) (by kernel_rfl)) (by kernel_rfl) (by kernel_rfl) h
   (fun o ho => by
     rcases List.mem_append.1 ho with h1 | h1
     · exact EG_nm (by kernel_rfl) o h1
     · rw [List.mem_singleton.1 h1]; rfl)
   (fun o ho => by rw [List.mem_singleton.1 ho]; rfl) (by kernel_rfl)
   (fun o ho => by
     rcases List.mem_append.1 ho with h1 | h1
     · have h2 := List.mem_map_of_mem (f := omap (nameL [0,1,2,3,4,5,6,7,8,9,10,11,12,13,14,15,16,19] 18 20)) h1
       unfold EGLs at h2
       rw [hF] at h2
       exact EG_scN (N := 21) (show 20 < 21 by omega) (by kernel_rfl) _ h2
     · rw [List.mem_singleton.1 h1]; rfl) (by kernel_rfl)).1
 refine this.mono fun v H' hh => ⟨hh.1,?_⟩
 rw [hh.2]
 show setG _ _ _ (List.map (omap (nameL [0,1,2,3,4,5,6,7,8,9,10,11,12,13,14,15,16,19] 18 20)) (EG b n c f l m2 (spF g) (xB s) .ready S.no 18 S.st)) ++ _ = _
 rw [hF]
 kernel_rfl
theorem gr_site2s (g : Nat) (s : Int) (N : (Nat→Int)→Int) (hY : SpanOk g s N) {b : Int} {n c f : Nat} {l m m2 : List Int} {no : Bool} {st : Nat→Int} {S : LS} {a t : Int} {o18 o19 o21 : AObj} (h : GrowAts g s N b n c f l m2 no st S a t) :
   Call Try.prog 134 [ptr0 1,newS 22 m2.length,vi a,vi t,yv 15] (EGLs g s N b n c f l m no 20 st ++ [o18,o19,.gone,o21,rws m2]) fun v H' => v = .bool true∧H' = EGLs g s N b n c f l m S.no 23 S.st ++ [o18,o19,.gone,o21,rws m2,.gone] := by
 have hmap : (EGr b n c f (spF g) (xB s) .ready).map (omap (nameL [0,1,2,3,4,5,6,7,8,9,10,11,12,13,14,15,20,22] 18 23)) = EGr b n c f (spF g) (xB s) .ready := by kernel_rfl
 have hF := EG_map (l := l) (m := m2) (k := 18) (no := S.no) (st := S.st) hmap
 have := (Call.frameG (H := EGLs g s N b n c f l m no 20 st ++ [o18,o19,.gone,o21,rws m2]) (Et := EGLs g s N b n c f l m2 no 16 st) (Ft := EGLs g s N b n c f l m2 S.no 18 S.st) (N := [.gone]) (L := [0,1,2,3,4,5,6,7,8,9,10,11,12,13,14,15,20,22]) (vs := [ptr0 1,newS 22 m2.length,vi a,vi t,yv 15]) rfl rfl (by decide) (getD_lt (by kernel_rfl))
   (EG_objs g s N hY (σ := fun c => [0,1,2,3,4,5,6,7,8,9,10,11,12,13,14,15,20,22].getD c 0) rfl (by kernel_rfl) (fun c' o h1 h2 => by
     rcases c' with _ | _ | _ | _ | _ | _ | _ | _ | _ | _ | _ | _ | _ | _ | _ | _ | c' <;> first | exact h2 | omega) rfl)
   (EG_scN (N := 18) (show 16 < 18 by omega) (by kernel_rfl)) (by kernel_rfl) (by kernel_rfl) h
   (fun o ho => by
     rcases List.mem_append.1 ho with h1 | h1
     · exact EG_nm (by kernel_rfl) o h1
     · rw [List.mem_singleton.1 h1]; rfl)
   (fun o ho => by rw [List.mem_singleton.1 ho]; rfl) (by kernel_rfl)
   (fun o ho => by
     rcases List.mem_append.1 ho with h1 | h1
     · have h2 := List.mem_map_of_mem (f := omap (nameL [0,1,2,3,4,5,6,7,8,9,10,11,12,13,14,15,20,22] 18 23)) h1
       unfold EGLs at h2
       rw [hF] at h2
       exact EG_scN (N := 24) (show 23 < 24 by omega) (by kernel_rfl) _ h2
     · rw [List.mem_singleton.1 h1]; rfl) (by kernel_rfl)).1
 refine this.mono fun v H' hh => ⟨hh.1,?_⟩
 rw [hh.2]
 show setG _ _ _ (List.map (omap (nameL [0,1,2,3,4,5,6,7,8,9,10,11,12,13,14,15,20,22] 18 23)) (EG b n c f l m2 (spF g) (xB s) .ready S.no 18 S.st)) ++ _ = _
 rw [hF]
 kernel_rfl
theorem grCc_oks (g : Nat) (s : Int) (N : (Nat→Int)→Int) (hY : SpanOk g s N) (b : Int) (n c f : Nat) (l m : List Int) (κ : Nat) (h : ∀ (m2 : List Int) (f1 t1 : Nat) (no : Bool) (st : Nat→Int),Begun n f1 t1 m2→f1 + (n - t1) + 1 = κ→(no = true→st = empI)→GrowAts g s N b n c f l m2 no st (fdRs g s N b n l no st (rds n (κ - 1) f1 t1 m2)) f1 t1) : CcOk Try.prog (grCcs g s N b n c f l m κ) := by
 intro fn args H T hT Q hQ
 unfold grCcs at hT
 split at hT <;> try (cases hT; done)
 rename_i hf
 obtain rfl := Nat.eq_of_beq_eq_true hf
 split at hT
 · cases hT
   obtain ⟨m2,f1,t1,no,st,o18,hO,hq⟩ := hQ
   obtain ⟨rfl,rfl,h1,h2,h3⟩ := hO.out
   exact (gr_site1s g s N hY (h m2 f1 t1 no st h1 h2 h3)).mono fun v H' ⟨e1,e2⟩ => by subst e1; subst e2; exact hq
 · split at hT <;> cases hT
   obtain ⟨m2,f1,t1,no,st,o18,o19,o21,hO,hq⟩ := hQ
   obtain ⟨rfl,rfl,h1,h2,h3⟩ := hO.out
   exact (gr_site2s g s N hY (h m2 f1 t1 no st h1 h2 h3)).mono fun v H' ⟨e1,e2⟩ => by subst e1; subst e2; exact hq
theorem grYc_oks (g : Nat) (s : Int) (N : (Nat→Int)→Int) (hY : SpanOk g s N) (b : Int) (n c f : Nat) (l m : List Int) (no : Bool) (st : Nat→Int) (hl : l.length = n * 2) (hn : n≤10) (hr : rngP b n l) (hs : no = true→st = empI) : YcOk Try.prog (grYcs g s N b n c f l m no st) := by
 intro b1 args H T hT Q hQ
 unfold grYcs at hT
 split at hT <;> cases hT
 rename_i hb
 obtain rfl := Nat.eq_of_beq_eq_true hb
 obtain ⟨hO,hq⟩ := hQ
 obtain ⟨rfl,rfl,hw⟩ := hO.out
 exact (y2_yields g s N hY b n c f l m no st hl hn hr (whole_len hw) (whole_mem hw) hs).mono fun v H' ⟨e1,e2⟩ => by subst e1; subst e2; exact hq
theorem grow_gos (g : Nat) (s : Int) (N : (Nat→Int)→Int) (hY : SpanOk g s N) (b : Int) (n c f : Nat) (l : List Int) (hl : l.length = n * 2) (hn : n≤10) (hr : rngP b n l) (κ gx t : Nat) (m : List Int) (no : Bool) (st : Nat→Int) (hB : Begun n gx t m) (hk : gx + (n - t) = κ) (hs : no = true→st = empI) (h : ∀ (m2 : List Int) (f1 t1 : Nat) (no : Bool) (st : Nat→Int),Begun n f1 t1 m2→f1 + (n - t1) + 1 = κ→(no = true→st = empI)→GrowAts g s N b n c f l m2 no st (fdRs g s N b n l no st (rds n (κ - 1) f1 t1 m2)) f1 t1) : GrowAts g s N b n c f l m no st (fdRs g s N b n l no st (rds n κ gx t m)) gx t:= by
 have hv := grV_oks g s N hY b n c f l m no st κ gx t hn hB hk hs
 rw [grVs_eq] at hv
 have hE : VOk Try.prog (grEs g s N b n c f l m no st κ) := ⟨CtOk.none,grCc_oks g s N hY b n c f l m κ h,grYc_oks g s N hY b n c f l m no st hl hn hr hs,orcOr_ok orcLim_ok prE1_ok.orc⟩
 refine Call.anew (Call.mono (Call.ofVc (H := EGLs g s N b n c f l m no 16 st) (args := [ptr0 1,newS 17 m.length,vi gx,vi t,yv 15]) hE mixed (c := grB) (inv := fun _ => none) (R := YR b n c f l m (spF g) (xB s) .ready (fdRs g s N b n l no st (rds n κ gx t m))) Try.func134 (by kernel_rfl) (cast (by kernel_rfl) hv)) fun v H' hy => ?_)
 exact YR_anew hy (fun _ => rfl) (fun _ => by kernel_rfl) (fun _ => ⟨by kernel_rfl,by kernel_rfl⟩) rfl (by kernel_rfl) ⟨by kernel_rfl,by kernel_rfl⟩
theorem grow_oks (g : Nat) (s : Int) (N : (Nat→Int)→Int) (hY : SpanOk g s N) (b : Int) (n c f : Nat) (l : List Int) (hl : l.length = n * 2) (hn : n≤10) (hr : rngP b n l) : ∀ (κ gx t : Nat) (m : List Int) (no : Bool) (st : Nat→Int),Begun n gx t m→gx + (n - t) = κ→(no = true→st = empI) →
   GrowAts g s N b n c f l m no st (fdRs g s N b n l no st (rds n κ gx t m)) gx t := by
 intro κ
 induction κ with
 | zero =>
   intro gx t m no st hB hk hs
   exact grow_gos g s N hY b n c f l hl hn hr 0 gx t m no st hB hk hs (fun m2 f1 t1 no st _ h _ => by omega)
 | succ κ ih =>
   intro gx t m no st hB hk hs
   exact grow_gos g s N hY b n c f l hl hn hr (κ + 1) gx t m no st hB hk hs (fun m2 f1 t1 no st h1 h2 h3 => by
     rw [Nat.add_sub_cancel]
     exact ih f1 t1 m2 no st h1 (by omega) h3)
end Go.Pier.Rd
namespace Go.Pier.Rd
open Go Go.Pier Go.Proofs
noncomputable def EHLs (g : Nat) (s : Int) (N : (Nat→Int)→Int) (b : Int) (n c f : Nat) (l : List Int) (no : Bool) (k : Nat) (st : Nat→Int) : Heap := EH b n c f l (spF g) (xB s) .ready no k st
noncomputable def g0Ccs (g:Nat) (s:Int) (N:(Nat→Int)→Int) (b:Int) (n c f:Nat) (l:List Int) (κ:Nat):Cc := fun fn args H => match Nat.beq fn 134 with
 | true => match Nat.beq H.length 18 with
   | true => some fun Q => ∃ (m2:List Int) (f1 t1:Nat) (no:Bool) (st:Nat→Int) (o16:AObj),Ob (args=[ptr0 1,newS 17 m2.length,vi f1,vi t1,yv 15]∧H=EHLs g s N b n c f l no 16 st++[o16,rws m2]∧Begun n f1 t1 m2∧f1+(n-t1)+1=κ∧(no=true→st=empI)) ∧
       Q (.bool true) (EHLs g s N b n c f l (fdRs g s N b n l no st (rds n (κ-1) f1 t1 m2)).no 18 (fdRs g s N b n l no st (rds n (κ-1) f1 t1 m2)).st++[o16,rws m2,.gone])
   | false => match Nat.beq H.length 21 with
     | true => some fun Q => ∃ (m2:List Int) (f1 t1:Nat) (no:Bool) (st:Nat→Int) (o16 o17 o19:AObj),Ob (args=[ptr0 1,newS 20 m2.length,vi f1,vi t1,yv 15]∧H=EHLs g s N b n c f l no 18 st++[o16,o17,.gone,o19,rws m2]∧Begun n f1 t1 m2∧f1+(n-t1)+1=κ∧(no=true→st=empI)) ∧
         Q (.bool true) (EHLs g s N b n c f l (fdRs g s N b n l no st (rds n (κ-1) f1 t1 m2)).no 21 (fdRs g s N b n l no st (rds n (κ-1) f1 t1 m2)).st++[o16,o17,.gone,o19,rws m2,.gone])
     | false => none
 | false => none
noncomputable def g0Es (g : Nat) (s : Int) (N : (Nat→Int)→Int) (b : Int) (n c f : Nat) (l : List Int) (κ : Nat) : VEnv := { orc := orcOr (orcLim Try.prog) prO,cc := g0Ccs g s N b n c f l κ }
def YR0s (g : Nat) (s : Int) (N : (Nat→Int)→Int) (b : Int) (n c f : Nat) (l : List Int) (sx : LS) (v : Value) (H' : Heap) : Prop :=
 v = .bool true∧∃ k,H' = EHLs g s N b n c f l sx.no k sx.st ++ H'.drop 16∧k < H'.length
noncomputable def g0Vs0 (g:Nat) (s:Int) (N:(Nat→Int)→Int) (b:Int) (n:Nat) (c:Nat) (f:Nat) (l:List Int) (κ:Nat) (f1:Nat) (m2:List Int) (no_1:Bool) (o16:AObj) (st_1:Nat→Int) (t1:Nat):List AObj := [AObj.ro (List.map (Value.int IntKind.i64) l),AObj.rw (vi b::Value.slice (some (ad0 0)) n c::vi (f:Int)::B10 (tmd n) []) none,AObj.rw [ptr0 1] none,AObj.rw [Value.func (Fn.func (123:FuncId)) ⟨[]⟩ ⟨[ptr0 2]⟩] none,AObj.rw [Value.func (Fn.func (61:FuncId)) ⟨[ptr0 1]⟩ ⟨[]⟩] none,AObj.rw [vi s] none,AObj.rw [Value.func (Fn.func g) ⟨[]⟩ ⟨[ptr0 5]⟩] none,AObj.rw (Value.slice none 0 0::I10 empI []) none,AObj.rw (slotV (fdRs g s N b n l no_1 st_1 (rds n (κ-1) f1 t1 m2)).no 18 n::I10 ((fdRs g s N b n l no_1 st_1 (rds n (κ-1) f1 t1 m2)).st) []) none,AObj.rw [Value.bool (fdRs g s N b n l no_1 st_1 (rds n (κ-1) f1 t1 m2)).no] none,AObj.loop LoopState.ready none ⟨[Value.func (Fn.func (122:FuncId)) ⟨[]⟩ ⟨[ptr0 3,ptr0 4]⟩,Value.func (Fn.func g) ⟨[]⟩ ⟨[ptr0 5]⟩,junk,ptr0 6,ptr0 7,ptr0 8,ptr0 9,junk,Value.func (Fn.func (122:FuncId)) ⟨[]⟩ ⟨[ptr0 3,ptr0 4]⟩,junk,junk,junk,junk,junk,junk,junk,junk,junk,junk,junk,junk,junk]⟩ ⟨[9]⟩ y1_c0 y1_c1,AObj.rw [Value.func (Fn.yield 10) ⟨[]⟩ ⟨[]⟩] none,AObj.loop LoopState.ready none ⟨[Value.func (Fn.yield 10) ⟨[]⟩ ⟨[]⟩,ptr0 3,ptr0 4,ptr0 11,junk,Value.func (Fn.func (123:FuncId)) ⟨[]⟩ ⟨[ptr0 2]⟩,junk,junk,junk,junk,junk,junk,junk,junk,junk,junk]⟩ ⟨[6]⟩ y1_c2 y1_c3,AObj.rw [Value.func (Fn.yield 12) ⟨[]⟩ ⟨[]⟩] none,AObj.rw [ptr0 1] none,AObj.loop LoopState.ready none ⟨[Value.func (Fn.yield 12) ⟨[]⟩ ⟨[]⟩,ptr0 2,ptr0 13,junk,ptr0 1,Value.func (Fn.func (133:FuncId)) ⟨[]⟩ ⟨[ptr0 14]⟩,junk,junk,junk,junk,junk,junk,junk]⟩ ⟨[6]⟩ y1_c4 y1_c5,o16,AObj.rw (List.map (Value.int IntKind.i64) m2) (some 1),AObj.gone]
noncomputable def g0Vs1 (g:Nat):Array Value := ⟨[Value.func (Fn.func (122:FuncId)) ⟨[]⟩ ⟨[ptr0 3,ptr0 4]⟩,Value.func (Fn.func g) ⟨[]⟩ ⟨[ptr0 5]⟩,junk,ptr0 6,ptr0 7,ptr0 8,ptr0 9,junk,Value.func (Fn.func (122:FuncId)) ⟨[]⟩ ⟨[ptr0 3,ptr0 4]⟩,junk,junk,junk,junk,junk,junk,junk,junk,junk,junk,junk,junk,junk]⟩
noncomputable def g0Vs2  : Array Value := { toList := [Value.func (Fn.yield (10 : Nat)) { toList := [] } { toList := [] },ptr0 3,ptr0 4,ptr0 11,junk,Value.func (Fn.func (123 : FuncId)) { toList := [] } { toList := [ptr0 2] },junk,junk,junk,junk,junk,junk,junk,junk,junk,junk] }
noncomputable def g0Vs3  : Array Value := { toList := [Value.func (Fn.yield (12 : Nat)) { toList := [] } { toList := [] },ptr0 2,ptr0 13,junk,ptr0 1,Value.func (Fn.func (133 : FuncId)) { toList := [] } { toList := [ptr0 14] },junk,junk,junk,junk,junk,junk,junk] }
noncomputable def g0Vs4 (g:Nat) (s:Int) (b:Int) (n:Nat) (c:Nat) (f:Nat) (l:List Int) (m2:List Int) (no_1:Bool) (o16:AObj) (st_1:Nat→Int):List AObj := [AObj.ro (List.map (Value.int IntKind.i64) l),AObj.rw (vi b::Value.slice (some (ad0 0)) n c::vi (f:Int)::B10 (tmd n) []) none,AObj.rw [ptr0 1] none,AObj.rw [Value.func (Fn.func (123:FuncId)) ⟨[]⟩ ⟨[ptr0 2]⟩] none,AObj.rw [Value.func (Fn.func (61:FuncId)) ⟨[ptr0 1]⟩ ⟨[]⟩] none,AObj.rw [vi s] none,AObj.rw [Value.func (Fn.func g) ⟨[]⟩ ⟨[ptr0 5]⟩] none,AObj.rw (Value.slice none 0 0::I10 empI []) none,AObj.rw (slotV no_1 16 n::I10 st_1 []) none,AObj.rw [Value.bool no_1] none,AObj.loop LoopState.ready none (g0Vs1 g) ⟨[9]⟩ y1_c0 y1_c1,AObj.rw [Value.func (Fn.yield 10) ⟨[]⟩ ⟨[]⟩] none,AObj.loop LoopState.ready none g0Vs2 ⟨[6]⟩ y1_c2 y1_c3,AObj.rw [Value.func (Fn.yield 12) ⟨[]⟩ ⟨[]⟩] none,AObj.rw [ptr0 1] none,AObj.loop LoopState.ready none g0Vs3 ⟨[6]⟩ y1_c4 y1_c5,o16,AObj.rw (List.map (Value.int IntKind.i64) m2) (some 1)]
noncomputable def g0Vs5  := (andP (some ((0 : Nat) + (1 : Nat)≤(1 : Nat)∧true = true)) ((1 : Nat)≤(1099511627776 : Nat)∧(2064 : Nat)≤(281474976710656 : Nat)∧(1 : Nat) = (1 : Nat)∧(0 : Nat) = (0 : Nat)∧(0 : Nat) < (1 : Nat)))
noncomputable def g0Vs6  : List Value := [Value.func (Fn.func (123 : FuncId)) { toList := [] } { toList := [ptr0 2] }]
noncomputable def g0Vs7  : List Value := [Value.func (Fn.func (61 : FuncId)) { toList := [ptr0 1] } { toList := [] }]
noncomputable def g0Vs8  : List Value := [Value.func (Fn.yield (10 : Nat)) { toList := [] } { toList := [] }]
noncomputable def g0Vs9  : List Value := [Value.func (Fn.yield (12 : Nat)) { toList := [] } { toList := [] }]
noncomputable def g0Vs10 (g:Nat):List Value := [Value.func (Fn.func g) ⟨[]⟩ ⟨[ptr0 5]⟩]
noncomputable def g0Vs11 (b:Int) (n:Nat) (c:Nat) (f:Nat) := (vi b::Value.slice (some (ad0 0)) n c::vi (f:Int)::B10 (tmd n) [])
noncomputable def g0Vs12  := (Value.slice none (0 : Nat) (0 : Nat) :: I10 empI [])
noncomputable def g0Vs13  (f1:Nat) (m2:List Int) (t1:Nat):List Value := [ptr0 1,Value.slice (some ⟨17,0,some 0⟩) m2.length 0,vi (f1:Int),vi (t1:Int),Value.func (Fn.yield 15) ⟨[]⟩ ⟨[]⟩]
noncomputable def g0Vs14 (l:List Int) := (List.map (Value.int IntKind.i64) l)
noncomputable def g0Vs15 (gx:Nat) := (IntKind.i64.wrap ((gx:Int)-(1:Int)))
noncomputable def g0Vs :=
fun (g:Nat) (s:Int) (N:(Nat→Int)→Int) (b:Int) (n c f:Nat) (l:List Int) (no:Bool) (st:Nat→Int) (κ gx:Nat)↦(((↑(0:Nat):Int)==(n:Int))=true→False)∧(((↑(0:Nat):Int)==(n:Int))=false→(decide ((0:Int)<(gx:Int))=true→Ob g0Vs5∧∃ (m2:List Int),∃ (f1:Nat),∃ (t1:Nat),∃ (no_1:Bool),∃ (st_1:Nat→Int),∃ (o16:AObj),Ob ([ptr0 1,Value.slice (some ⟨17,0,some 0⟩) 1 0,vi (g0Vs15 gx),vi (gx:Int),Value.func (Fn.yield 15) ⟨[]⟩ ⟨[]⟩]=(g0Vs13 f1 m2 t1)∧[AObj.ro (g0Vs14 l),AObj.rw (g0Vs11 b n c f) none,AObj.rw [ptr0 1] none,AObj.rw g0Vs6 none,AObj.rw g0Vs7 none,AObj.rw [vi s] none,AObj.rw (g0Vs10 g) none,AObj.rw g0Vs12 none,AObj.rw (slotV no 16 n::I10 st []) none,AObj.rw [Value.bool no] none,AObj.loop LoopState.ready none (g0Vs1 g) ⟨[9]⟩ y1_c0 y1_c1,AObj.rw g0Vs8 none,AObj.loop LoopState.ready none g0Vs2 ⟨[6]⟩ y1_c2 y1_c3,AObj.rw g0Vs9 none,AObj.rw [ptr0 1] none,AObj.loop LoopState.ready none g0Vs3 ⟨[6]⟩ y1_c4 y1_c5,AObj.rw [vi (g0Vs15 gx)] none,AObj.rw [vi (g0Vs15 gx)] (some 1)]=(g0Vs4 g s b n c f l m2 no_1 o16 st_1)∧Begun n f1 t1 m2∧f1+(n-t1)+1=κ∧(no_1=true→st_1=empI))∧(false=true→True∧Ob (YR0s g s N b n c f l (fdRs g s N b n l no st (rds n κ gx gx [])) (Value.bool false) (g0Vs0 g s N b n c f l κ f1 m2 no_1 o16 st_1 t1)))∧(false=false→(((gx:Int)==(n:Int))=false→Ob g0Vs5∧∃ (m2_1:List Int),∃ (f1_1:Nat),∃ (t1_1:Nat),∃ (no_2:Bool),∃ (st_2:Nat→Int),∃ (o16_1:AObj),∃ (o17:AObj),∃ (o19:AObj),Ob ([ptr0 1,Value.slice (some ⟨20,0,some 0⟩) 1 0,vi (gx:Int),vi (IntKind.i64.wrap ((gx:Int)+(1:Int))),Value.func (Fn.yield 15) ⟨[]⟩ ⟨[]⟩]=[ptr0 1,Value.slice (some ⟨20,0,some 0⟩) m2_1.length 0,vi (f1_1:Int),vi (t1_1:Int),Value.func (Fn.yield 15) ⟨[]⟩ ⟨[]⟩]∧[AObj.ro (g0Vs14 l),AObj.rw (g0Vs11 b n c f) none,AObj.rw [ptr0 1] none,AObj.rw g0Vs6 none,AObj.rw g0Vs7 none,AObj.rw [vi s] none,AObj.rw (g0Vs10 g) none,AObj.rw g0Vs12 none,AObj.rw (slotV (fdRs g s N b n l no_1 st_1 (rds n (κ-1) f1 t1 m2)).no 18 n::I10 ((fdRs g s N b n l no_1 st_1 (rds n (κ-1) f1 t1 m2)).st) []) none,AObj.rw [Value.bool (fdRs g s N b n l no_1 st_1 (rds n (κ-1) f1 t1 m2)).no] none,AObj.loop LoopState.ready none (g0Vs1 g) ⟨[9]⟩ y1_c0 y1_c1,AObj.rw g0Vs8 none,AObj.loop LoopState.ready none g0Vs2 ⟨[6]⟩ y1_c2 y1_c3,AObj.rw g0Vs9 none,AObj.rw [ptr0 1] none,AObj.loop LoopState.ready none g0Vs3 ⟨[6]⟩ y1_c4 y1_c5,o16,AObj.rw (List.map (Value.int IntKind.i64) m2) (some 1),AObj.gone,AObj.rw [vi (gx:Int)] none,AObj.rw [vi (gx:Int)] (some 1)]=[AObj.ro (g0Vs14 l),AObj.rw (g0Vs11 b n c f) none,AObj.rw [ptr0 1] none,AObj.rw g0Vs6 none,AObj.rw g0Vs7 none,AObj.rw [vi s] none,AObj.rw (g0Vs10 g) none,AObj.rw g0Vs12 none,AObj.rw (slotV no_2 18 n::I10 st_2 []) none,AObj.rw [Value.bool no_2] none,AObj.loop LoopState.ready none (g0Vs1 g) ⟨[9]⟩ y1_c0 y1_c1,AObj.rw g0Vs8 none,AObj.loop LoopState.ready none g0Vs2 ⟨[6]⟩ y1_c2 y1_c3,AObj.rw g0Vs9 none,AObj.rw [ptr0 1] none,AObj.loop LoopState.ready none g0Vs3 ⟨[6]⟩ y1_c4 y1_c5,o16_1,o17,AObj.gone,o19,AObj.rw (List.map (Value.int IntKind.i64) m2_1) (some 1)]∧Begun n f1_1 t1_1 m2_1∧f1_1+(n-t1_1)+1=κ∧(no_2=true→st_2=empI))∧True∧Ob (YR0s g s N b n c f l (fdRs g s N b n l no st (rds n κ gx gx [])) (Value.bool true) [AObj.ro (g0Vs14 l),AObj.rw (g0Vs11 b n c f) none,AObj.rw [ptr0 1] none,AObj.rw g0Vs6 none,AObj.rw g0Vs7 none,AObj.rw [vi s] none,AObj.rw (g0Vs10 g) none,AObj.rw g0Vs12 none,AObj.rw (slotV (fdRs g s N b n l no_2 st_2 (rds n (κ-1) f1_1 t1_1 m2_1)).no 21 n::I10 ((fdRs g s N b n l no_2 st_2 (rds n (κ-1) f1_1 t1_1 m2_1)).st) []) none,AObj.rw [Value.bool (fdRs g s N b n l no_2 st_2 (rds n (κ-1) f1_1 t1_1 m2_1)).no] none,AObj.loop LoopState.ready none (g0Vs1 g) ⟨[9]⟩ y1_c0 y1_c1,AObj.rw g0Vs8 none,AObj.loop LoopState.ready none g0Vs2 ⟨[6]⟩ y1_c2 y1_c3,AObj.rw g0Vs9 none,AObj.rw [ptr0 1] none,AObj.loop LoopState.ready none g0Vs3 ⟨[6]⟩ y1_c4 y1_c5,o16_1,o17,AObj.gone,o19,AObj.rw (List.map (Value.int IntKind.i64) m2_1) (some 1),AObj.gone]))∧(((gx:Int)==(n:Int))=true→True∧Ob (YR0s g s N b n c f l (fdRs g s N b n l no st (rds n κ gx gx [])) (Value.bool true) (g0Vs0 g s N b n c f l κ f1 m2 no_1 o16 st_1 t1)))))∧(decide ((0:Int)<(gx:Int))=false→(((gx:Int)==(n:Int))=false→Ob g0Vs5∧∃ (m2:List Int),∃ (f1:Nat),∃ (t1:Nat),∃ (no_1:Bool),∃ (st_1:Nat→Int),∃ (o16:AObj),Ob ([ptr0 1,Value.slice (some ⟨17,0,some 0⟩) 1 0,vi (gx:Int),vi (IntKind.i64.wrap ((gx:Int)+(1:Int))),Value.func (Fn.yield 15) ⟨[]⟩ ⟨[]⟩]=(g0Vs13 f1 m2 t1)∧[AObj.ro (g0Vs14 l),AObj.rw (g0Vs11 b n c f) none,AObj.rw [ptr0 1] none,AObj.rw g0Vs6 none,AObj.rw g0Vs7 none,AObj.rw [vi s] none,AObj.rw (g0Vs10 g) none,AObj.rw g0Vs12 none,AObj.rw (slotV no 16 n::I10 st []) none,AObj.rw [Value.bool no] none,AObj.loop LoopState.ready none (g0Vs1 g) ⟨[9]⟩ y1_c0 y1_c1,AObj.rw g0Vs8 none,AObj.loop LoopState.ready none g0Vs2 ⟨[6]⟩ y1_c2 y1_c3,AObj.rw g0Vs9 none,AObj.rw [ptr0 1] none,AObj.loop LoopState.ready none g0Vs3 ⟨[6]⟩ y1_c4 y1_c5,AObj.rw [vi (gx:Int)] none,AObj.rw [vi (gx:Int)] (some 1)]=(g0Vs4 g s b n c f l m2 no_1 o16 st_1)∧Begun n f1 t1 m2∧f1+(n-t1)+1=κ∧(no_1=true→st_1=empI))∧True∧Ob (YR0s g s N b n c f l (fdRs g s N b n l no st (rds n κ gx gx [])) (Value.bool true) (g0Vs0 g s N b n c f l κ f1 m2 no_1 o16 st_1 t1)))∧(((gx:Int)==(n:Int))=true→True∧Ob (YR0s g s N b n c f l (fdRs g s N b n l no st (rds n κ gx gx [])) (Value.bool true) [AObj.ro (g0Vs14 l),AObj.rw (g0Vs11 b n c f) none,AObj.rw [ptr0 1] none,AObj.rw g0Vs6 none,AObj.rw g0Vs7 none,AObj.rw [vi s] none,AObj.rw (g0Vs10 g) none,AObj.rw g0Vs12 none,AObj.rw (slotV no 16 n::I10 st []) none,AObj.rw [Value.bool no] none,AObj.loop LoopState.ready none (g0Vs1 g) ⟨[9]⟩ y1_c0 y1_c1,AObj.rw g0Vs8 none,AObj.loop LoopState.ready none g0Vs2 ⟨[6]⟩ y1_c2 y1_c3,AObj.rw g0Vs9 none,AObj.rw [ptr0 1] none,AObj.loop LoopState.ready none g0Vs3 ⟨[6]⟩ y1_c4 y1_c5]))))
theorem g0Vs_eq : g0Vs = fun (g : Nat) (s : Int) (N : (Nat→Int)→Int) (b : Int) (n c f : Nat) (l : List Int) (no : Bool) (st : Nat→Int) (κ gx : Nat) => vc Try.prog (g0Es g s N b n c f l κ) 16 66 true (fun _ => none) grB [] (argFr 0 [ptr0 1,nilS,vi gx,vi gx,yv 15]) (EHLs g s N b n c f l no 16 st) (retK Try.prog Try.f134 (YR0s g s N b n c f l (fdRs g s N b n l no st (rds n κ gx gx [])))) := by kernel_rfl
theorem g0V_oks (g : Nat) (s : Int) (N : (Nat→Int)→Int) (hY : SpanOk g s N) (b : Int) (n c f : Nat) (l : List Int) (no : Bool) (st : Nat→Int) (κ gx : Nat) (hn : n≤10) (hn1 : 1≤n) (hg : gx≤n) (hk : gx + (n - gx) = κ) (hs : no = true→st = empI) : g0Vs g s N b n c f l no st κ gx := by
 unfold g0Vs g0Vs15 g0Vs14 g0Vs13 g0Vs12 g0Vs11 g0Vs10 g0Vs9 g0Vs8 g0Vs7 g0Vs6 g0Vs5 g0Vs4 g0Vs3 g0Vs2 g0Vs1 g0Vs0
 simp only [SS,reduceCtorEq,Arg.list,Arg.num,Arg.flag,intOf,andP,Nat.reduceLeDiff,Nat.reduceAdd,Nat.reduceMul,Nat.reduceLT,yv,newS]
 have hB := begun_nil hg
 have hk' : κ = (κ - 1) + 1 := by omega
 have w2 : IntKind.i64.wrap ((gx : Int) + 1) = ((gx + 1 : Nat) : Int) := by rw [wrap_in (by omega) (by omega)]; omega
 refine ⟨fun h => by omega,fun h => ⟨fun hg => ?_,fun hg => ?_⟩⟩
 · have hg' : 0 < gx := by omega
   have w1 : IntKind.i64.wrap ((gx : Int) - 1) = ((gx - 1 : Nat) : Int) := by rw [wrap_in (by omega) (by omega)]; omega
   rw [w1]
   refine ⟨[((gx - 1 : Nat) : Int)],gx - 1,gx,no,st,_,⟨⟨rfl,rfl,rfl⟩,⟨⟨rfl,rfl⟩,rfl,rfl,rfl⟩,hB.left hg',by omega,hs⟩,fun ht => ?_,fun ht => ?_⟩
   · rw [w2]
     have ht' : gx < n := by omega
     refine ⟨[(gx : Int)],gx,gx + 1,_,_,_,_,_,⟨⟨rfl,rfl,rfl⟩,⟨⟨rfl,rfl⟩,rfl,rfl,rfl,rfl,rfl⟩,hB.right ht',by omega,fdR_emps g s N hY hs⟩,?_⟩
     rw [show rds n κ gx gx [] = rds n (κ - 1) (gx - 1) gx [((gx - 1 : Nat) : Int)] ++ rds n (κ - 1) gx (gx + 1) [(gx : Int)] by conv => lhs; rw [hk',rds,if_pos hg',if_pos ht',List.nil_append,List.nil_append],fdR_appends g s N hY]
     exact ⟨rfl,21,by kernel_rfl,by simp⟩
   · have ht' : ¬ gx < n := by omega
     rw [show rds n κ gx gx [] = rds n (κ - 1) (gx - 1) gx [((gx - 1 : Nat) : Int)] by conv => lhs; rw [hk',rds,if_pos hg',if_neg ht',List.append_nil,List.nil_append]]
     exact ⟨rfl,18,by kernel_rfl,by simp⟩
 · have hg' : ¬ 0 < gx := by omega
   have ht' : gx < n := by omega
   rw [w2]
   refine ⟨fun ht => ⟨[(gx : Int)],gx,gx + 1,no,st,_,⟨⟨rfl,rfl,rfl⟩,⟨⟨rfl,rfl⟩,rfl,rfl,rfl⟩,hB.right ht',by omega,hs⟩,?_⟩,fun ht => by omega⟩
   rw [show rds n κ gx gx [] = rds n (κ - 1) gx (gx + 1) [(gx : Int)] by conv => lhs; rw [hk',rds,if_neg hg',if_pos ht',List.nil_append,List.nil_append]]
   exact ⟨rfl,18,by kernel_rfl,by simp⟩
theorem g0_site1s (g : Nat) (s : Int) (N : (Nat→Int)→Int) (hY : SpanOk g s N) {b : Int} {n c f : Nat} {l m2 : List Int} {no : Bool} {st : Nat→Int} {S : LS} {a t : Int} {o16 : AObj} (h : GrowAts g s N b n c f l m2 no st S a t) :
   Call Try.prog 134 [ptr0 1,newS 17 m2.length,vi a,vi t,yv 15] (EHLs g s N b n c f l no 16 st ++ [o16,rws m2]) fun v H' => v = .bool true∧H' = EHLs g s N b n c f l S.no 18 S.st ++ [o16,rws m2,.gone] := by
 have hmap : (EGr b n c f (spF g) (xB s) .ready).map (omap (nameL [0,1,2,3,4,5,6,7,8,9,10,11,12,13,14,15,16,17] 18 18)) = EGr b n c f (spF g) (xB s) .ready := by kernel_rfl
 have hF := EG_map (l := l) (m := m2) (k := 18) (no := S.no) (st := S.st) hmap
 have := (Call.frameG (H := EHLs g s N b n c f l no 16 st ++ [o16,rws m2]) (Et := EGLs g s N b n c f l m2 no 16 st) (Ft := EGLs g s N b n c f l m2 S.no 18 S.st) (N := [.gone]) (L := [0,1,2,3,4,5,6,7,8,9,10,11,12,13,14,15,16,17]) (vs := [ptr0 1,newS 17 m2.length,vi a,vi t,yv 15]) rfl rfl (by decide) (getD_lt (by kernel_rfl))
   (EG_objs g s N hY (σ := fun c => [0,1,2,3,4,5,6,7,8,9,10,11,12,13,14,15,16,17].getD c 0) rfl (by kernel_rfl) (fun c' o h1 h2 => by
     rcases c' with _ | _ | _ | _ | _ | _ | _ | _ | _ | _ | _ | _ | _ | _ | _ | _ | c' <;> first | exact h2 | omega) rfl)
   (EG_scN (N := 18) (show 16 < 18 by omega) (by kernel_rfl)) (by kernel_rfl) (by kernel_rfl) h
   (fun o ho => by
     rcases List.mem_append.1 ho with h1 | h1
     · exact EG_nm (by kernel_rfl) o h1
     · rw [List.mem_singleton.1 h1]; rfl)
   (fun o ho => by rw [List.mem_singleton.1 ho]; rfl) (by kernel_rfl)
   (fun o ho => by
     rcases List.mem_append.1 ho with h1 | h1
     · have h2 := List.mem_map_of_mem (f := omap (nameL [0,1,2,3,4,5,6,7,8,9,10,11,12,13,14,15,16,17] 18 18)) h1
       unfold EGLs at h2
       rw [hF] at h2
       exact EG_scN (N := 19) (show 18 < 19 by omega) (by kernel_rfl) _ h2
     · rw [List.mem_singleton.1 h1]; rfl) (by kernel_rfl)).1
 refine this.mono fun v H' hh => ⟨hh.1,?_⟩
 rw [hh.2]
 show setG _ _ _ (List.map (omap (nameL [0,1,2,3,4,5,6,7,8,9,10,11,12,13,14,15,16,17] 18 18)) (EG b n c f l m2 (spF g) (xB s) .ready S.no 18 S.st)) ++ _ = _
 rw [hF]
 kernel_rfl
theorem g0_site2s (g : Nat) (s : Int) (N : (Nat→Int)→Int) (hY : SpanOk g s N) {b : Int} {n c f : Nat} {l m2 : List Int} {no : Bool} {st : Nat→Int} {S : LS} {a t : Int} {o16 o17 o19 : AObj} (h : GrowAts g s N b n c f l m2 no st S a t) :
   Call Try.prog 134 [ptr0 1,newS 20 m2.length,vi a,vi t,yv 15] (EHLs g s N b n c f l no 18 st ++ [o16,o17,.gone,o19,rws m2]) fun v H' => v = .bool true∧H' = EHLs g s N b n c f l S.no 21 S.st ++ [o16,o17,.gone,o19,rws m2,.gone] := by
 have hmap : (EGr b n c f (spF g) (xB s) .ready).map (omap (nameL [0,1,2,3,4,5,6,7,8,9,10,11,12,13,14,15,18,20] 18 21)) = EGr b n c f (spF g) (xB s) .ready := by kernel_rfl
 have hF := EG_map (l := l) (m := m2) (k := 18) (no := S.no) (st := S.st) hmap
 have := (Call.frameG (H := EHLs g s N b n c f l no 18 st ++ [o16,o17,.gone,o19,rws m2]) (Et := EGLs g s N b n c f l m2 no 16 st) (Ft := EGLs g s N b n c f l m2 S.no 18 S.st) (N := [.gone]) (L := [0,1,2,3,4,5,6,7,8,9,10,11,12,13,14,15,18,20]) (vs := [ptr0 1,newS 20 m2.length,vi a,vi t,yv 15]) rfl rfl (by decide) (getD_lt (by kernel_rfl))
   (EG_objs g s N hY (σ := fun c => [0,1,2,3,4,5,6,7,8,9,10,11,12,13,14,15,18,20].getD c 0) rfl (by kernel_rfl) (fun c' o h1 h2 => by
     rcases c' with _ | _ | _ | _ | _ | _ | _ | _ | _ | _ | _ | _ | _ | _ | _ | _ | c' <;> first | exact h2 | omega) rfl)
   (EG_scN (N := 18) (show 16 < 18 by omega) (by kernel_rfl)) (by kernel_rfl) (by kernel_rfl) h
   (fun o ho => by
     rcases List.mem_append.1 ho with h1 | h1
     · exact EG_nm (by kernel_rfl) o h1
     · rw [List.mem_singleton.1 h1]; rfl)
   (fun o ho => by rw [List.mem_singleton.1 ho]; rfl) (by kernel_rfl)
   (fun o ho => by
     rcases List.mem_append.1 ho with h1 | h1
     · have h2 := List.mem_map_of_mem (f := omap (nameL [0,1,2,3,4,5,6,7,8,9,10,11,12,13,14,15,18,20] 18 21)) h1
       unfold EGLs at h2
       rw [hF] at h2
       exact EG_scN (N := 22) (show 21 < 22 by omega) (by kernel_rfl) _ h2
     · rw [List.mem_singleton.1 h1]; rfl) (by kernel_rfl)).1
 refine this.mono fun v H' hh => ⟨hh.1,?_⟩
 rw [hh.2]
 show setG _ _ _ (List.map (omap (nameL [0,1,2,3,4,5,6,7,8,9,10,11,12,13,14,15,18,20] 18 21)) (EG b n c f l m2 (spF g) (xB s) .ready S.no 18 S.st)) ++ _ = _
 rw [hF]
 kernel_rfl
theorem g0Cc_oks (g : Nat) (s : Int) (N : (Nat→Int)→Int) (hY : SpanOk g s N) (b : Int) (n c f : Nat) (l : List Int) (κ : Nat) (hl : l.length = n * 2) (hn : n≤10) (hr : rngP b n l) : CcOk Try.prog (g0Ccs g s N b n c f l κ) := by
 have h : ∀ (m2 : List Int) (f1 t1 : Nat) (no : Bool) (st : Nat→Int),Begun n f1 t1 m2→f1 + (n - t1) + 1 = κ→(no = true→st = empI)→GrowAts g s N b n c f l m2 no st (fdRs g s N b n l no st (rds n (κ - 1) f1 t1 m2)) f1 t1 := fun m2 f1 t1 no st h1 h2 h3 => grow_oks g s N hY b n c f l hl hn hr (κ - 1) f1 t1 m2 no st h1 (by omega) h3
 intro fn args H T hT Q hQ
 unfold g0Ccs at hT
 split at hT <;> try (cases hT; done)
 rename_i hf
 obtain rfl := Nat.eq_of_beq_eq_true hf
 split at hT
 · cases hT
   obtain ⟨m2,f1,t1,no,st,o16,hO,hq⟩ := hQ
   obtain ⟨rfl,rfl,h1,h2,h3⟩ := hO.out
   exact (g0_site1s g s N hY (h m2 f1 t1 no st h1 h2 h3)).mono fun v H' ⟨e1,e2⟩ => by subst e1; subst e2; exact hq
 · split at hT <;> cases hT
   obtain ⟨m2,f1,t1,no,st,o16,o17,o19,hO,hq⟩ := hQ
   obtain ⟨rfl,rfl,h1,h2,h3⟩ := hO.out
   exact (g0_site2s g s N hY (h m2 f1 t1 no st h1 h2 h3)).mono fun v H' ⟨e1,e2⟩ => by subst e1; subst e2; exact hq
theorem EHL_maps (g : Nat) (s : Int) (N : (Nat→Int)→Int) (hY : SpanOk g s N) {σ : Nat→Nat} {b : Int} {n c f k : Nat} {l : List Int} {no : Bool} {st : Nat→Int} (h : (EGr b n c f (spF g) (xB s) .ready).map (omap σ) = EGr b n c f (spF g) (xB s) .ready) :
   (EHLs g s N b n c f l no k st).map (omap σ) = EHLs g s N b n c f l no (σ k) st := by
 have := EG_map (σ := σ) (b := b) (n := n) (c := c) (f := f) (k := k) (l := l) (m := []) (no := no) (st := st) h
 have h2 := congrArg (List.take 16) this
 exact h2
theorem EHL_scs (g : Nat) (s : Int) (N : (Nat→Int)→Int) (hY : SpanOk g s N) {b : Int} {n c f k Nx : Nat} {l : List Int} {no : Bool} {st : Nat→Int} (hk : k < Nx) (h : (EGr b n c f (spF g) (xB s) .ready).all (AObj.sc Nx) = true) : ∀ o ∈ EHLs g s N b n c f l no k st,o.sc Nx = true := fun o ho =>
 EG_scN (l := l) (m := []) (no := no) (st := st) hk h o (List.mem_append_left _ ho)
theorem EHL_lens (g : Nat) (s : Int) (N : (Nat→Int)→Int) (hY : SpanOk g s N) {b : Int} {n c f k : Nat} {l : List Int} {no : Bool} {st : Nat→Int} : (EHLs g s N b n c f l no k st).length = 16 := rfl
theorem YR0_anews (g : Nat) (s : Int) (N : (Nat→Int)→Int) (hY : SpanOk g s N) {b : Int} {n c f : Nat} {l : List Int} {sx : LS} {v : Value} {H' : Heap} (h : YR0s g s N b n c f l sx v H') :
   ∃ σ v2 H2,Anew 16 σ H' H2∧v = nmap σ v2∧sc H2.length v2 = true∧(v2 = .bool true∧H2 = EHLs g s N b n c f l sx.no 16 sx.st ++ [.gone]) := by
 obtain ⟨rfl,k,he,hk⟩ := h
 have hm := EHL_maps g s N hY (σ := σh k) (b := b) (n := n) (c := c) (f := f) (k := 16) (l := l) (no := sx.no) (st := sx.st) (by kernel_rfl)
 have hl : (EHLs g s N b n c f l sx.no 16 sx.st ++ [AObj.gone]).length = 17 := rfl
 have g16 : (EHLs g s N b n c f l sx.no 16 sx.st ++ [AObj.gone])[16]? = some .gone := rfl
 refine ⟨σh k,.bool true,_,⟨?_,fun b' hb => ?_,fun b' o hb => ?_,fun b1 b2 o h1 h2 h3 h4 h5 h6 => ?_,fun b' o hb => ?_⟩,rfl,rfl,rfl,rfl⟩
 · rw [hl]; omega
 · unfold σh; rw [if_neg (by omega)]
 · rcases Nat.lt_or_ge b' 16 with h1 | h1
   · right
     rw [List.getElem?_append_left (by rw [EHL_lens g s N hY]; exact h1)] at hb
     rw [he,show σh k b' = b' by unfold σh; rw [if_neg (by omega)],List.getElem?_append_left (by rw [EHL_lens g s N hY]; exact h1),show k = σh k 16 from rfl,← hm,List.getElem?_map,hb]
     rfl
   · left
     have h2 := (List.getElem?_eq_some_iff.1 hb).1
     rw [hl] at h2
     obtain rfl : b' = 16 := by omega
     rw [g16] at hb
     exact (Option.some.inj hb).symm
 · rw [hl] at h1 h2
   have n1 : b1 ≠ 16 := fun e => by subst e; rw [g16] at h3; cases h3; exact h4 rfl
   have n2 : b2 ≠ 16 := fun e => by
     subst e
     rcases h5 with h5 | h5
     · exact h5 g16
     · omega
   unfold σh at h6
   rw [if_neg n1,if_neg n2] at h6
   exact h6
 · rw [hl]
   rcases List.mem_append.1 (List.mem_of_getElem? hb) with h1 | h1
   · exact EHL_scs g s N hY (show 16 < 17 by omega) (by kernel_rfl) o h1
   · rw [List.mem_singleton.1 h1]; rfl
theorem grow0_oks (g : Nat) (s : Int) (N : (Nat→Int)→Int) (hY : SpanOk g s N) (b : Int) (n c f : Nat) (l : List Int) (hl : l.length = n * 2) (hn : n≤10) (hr : rngP b n l) (no : Bool) (st : Nat→Int) (κ gx : Nat) (hn1 : 1≤n) (hg : gx≤n) (hk : gx + (n - gx) = κ) (hs : no = true→st = empI) :
   Call Try.prog 134 [ptr0 1,nilS,vi gx,vi gx,yv 15] (EHLs g s N b n c f l no 16 st) fun v H' => v = .bool true∧H' = EHLs g s N b n c f l (fdRs g s N b n l no st (rds n κ gx gx [])).no 16 (fdRs g s N b n l no st (rds n κ gx gx [])).st ++ [.gone] := by
 have hv := g0V_oks g s N hY b n c f l no st κ gx hn hn1 hg hk hs
 rw [g0Vs_eq] at hv
 have hE : VOk Try.prog (g0Es g s N b n c f l κ) := ⟨CtOk.none,g0Cc_oks g s N hY b n c f l κ hl hn hr,E0_ok.yc,orcOr_ok orcLim_ok prE1_ok.orc⟩
 refine Call.anew (Call.mono (Call.ofVc (H := EHLs g s N b n c f l no 16 st) (args := [ptr0 1,nilS,vi gx,vi gx,yv 15]) hE mixed (c := grB) (inv := fun _ => none) (R := YR0s g s N b n c f l (fdRs g s N b n l no st (rds n κ gx gx []))) Try.func134 (by kernel_rfl) (cast (by kernel_rfl) hv)) fun v H' hy => ?_)
 exact YR0_anews g s N hY hy
end Go.Pier.Rd
