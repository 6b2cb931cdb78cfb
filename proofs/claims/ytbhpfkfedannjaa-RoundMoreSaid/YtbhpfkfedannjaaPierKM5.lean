import Derived.Test.YtbhpfkfedannjaaPierKM4
import Derived.KernelRfl
set_option linter.unusedSimpArgs false
set_option linter.unusedVariables false
set_option maxRecDepth 100000
namespace Go.Pier.Rd
open Go Go.Pier Go.Proofs
noncomputable def shL (b : Int) (n f : Nat) (l : List Int) : LS := fdR b n l true empI (rds n n f f [])
noncomputable def g1Ct (b : Int) (n c f : Nat) (l : List Int) (S : LS) : Ct := fun fn args H => match Nat.beq fn 134 with
 | true => some (some (args = [ptr0 1,nilS,vi f,vi f,yv 15]∧H = EHL b n c f l true 16 empI),.bool true,EHL b n c f l S.no 16 S.st ++ [.gone],[8,9])
 | false => none
noncomputable def ls1E (b : Int) (n c f : Nat) (l : List Int) (S : LS) : VEnv := { ct := g1Ct b n c f l S,orc := prO }
noncomputable def ls2E (b : Int) (n c f : Nat) (l : List Int) (S : LS) : VEnv := { orc := prO,cc := ccIn Try.prog (ls1E b n c f l S) [⟨133,Try.f133,fun _ _ _ => none⟩,⟨124,Try.f124,fun _ _ _ => none⟩] }
noncomputable def ls3E (b : Int) (n c f : Nat) (l : List Int) (S : LS) : VEnv := { orc := prO,cc := ccIn Try.prog (ls2E b n c f l S) [⟨123,Try.f123,fun _ _ _ => none⟩] }
noncomputable def ls4E (b : Int) (n c f : Nat) (l : List Int) (S : LS) : VEnv := { orc := prO,cc := ccIn Try.prog (ls3E b n c f l S) [⟨122,Try.f122,fun _ _ _ => none⟩] }
noncomputable def lsB : Code := Try.f102.body.getD .skip
def B6 (b : Int) (n c f : Nat) (l : List Int) : Heap := [ros l,.rw (walkC b n c f (tmd n)) none,.rw [ptr0 1] none,.rw [tripsF] none,.rw [.func (.func 61) #[ptr0 1] #[]] none,.gone]
def LR (b : Int) (n c f : Nat) (l : List Int) (s : LS) (v : Value) (H' : Heap) : Prop := ∃ k,v = .agg (slotV s.no k n :: I10 s.st []).toArray∧H' = B6 b n c f l ++ H'.drop 6∧k < H'.length
noncomputable def lsV0  : Array Value := { toList := [Value.func (Fn.func (122 : FuncId)) { toList := [] } { toList := [ptr0 3,ptr0 4] },Value.func (Fn.func (70 : FuncId)) { toList := [] } { toList := [] },junk,ptr0 6,ptr0 7,ptr0 8,ptr0 9,junk,Value.func (Fn.func (122 : FuncId)) { toList := [] } { toList := [ptr0 3,ptr0 4] },junk,junk,junk,junk,junk,junk,junk,junk,junk,junk,junk,junk,junk] }
noncomputable def lsV1  := (Value.slice none (0 : Nat) (0 : Nat) :: I10 empI [])
noncomputable def lsV2  : Array Value := { toList := [Value.func (Fn.yield (10 : Nat)) { toList := [] } { toList := [] },ptr0 3,ptr0 4,ptr0 11,junk,Value.func (Fn.func (123 : FuncId)) { toList := [] } { toList := [ptr0 2] },junk,junk,junk,junk,junk,junk,junk,junk,junk,junk] }
noncomputable def lsV3  : List Value := [Value.func (Fn.func (123 : FuncId)) { toList := [] } { toList := [ptr0 2] }]
noncomputable def lsV4  : List Value := [Value.func (Fn.func (61 : FuncId)) { toList := [ptr0 1] } { toList := [] }]
noncomputable def lsV5 (f:Nat):List Value := [ptr0 1,Value.slice none 0 0,vi (f:Int),vi (f:Int),Value.func (Fn.yield 15) ⟨[]⟩ ⟨[]⟩]
noncomputable def lsV6  : List Value := [Value.func (Fn.func (70 : FuncId)) { toList := [] } { toList := [] }]
noncomputable def lsV7  : List Value := [Value.func (Fn.yield (10 : Nat)) { toList := [] } { toList := [] }]
noncomputable def lsV8  : List Value := [Value.func (Fn.yield (12 : Nat)) { toList := [] } { toList := [] }]
noncomputable def lsV9 (b:Int) (n:Nat) (c:Nat) (f:Nat) := (vi b::Value.slice (some (ad0 0)) n c::vi (f:Int)::B10 (tmd n) [])
noncomputable def lsV :=
fun (b:Int) (n c f:Nat) (l:List Int)↦Ob (some (Value.bool false)=some (Value.bool false)∧some 1=some 1)∧Ob (some (vi (f:Int))=some (vi (f:Int)))∧Ob (some (vi (f:Int))=some (vi (f:Int)))∧Ob ((lsV5 f)=(lsV5 f)∧[AObj.ro (List.map (Value.int IntKind.i64) l),AObj.rw (lsV9 b n c f) none,AObj.rw [ptr0 1] none,AObj.rw lsV3 none,AObj.rw lsV4 none,AObj.gone,AObj.rw lsV6 none,AObj.rw lsV1 none,AObj.rw lsV1 none,AObj.rw [Value.bool true] none,AObj.loop LoopState.ready none lsV0 ⟨[9]⟩ y1_c0 y1_c1,AObj.rw lsV7 none,AObj.loop LoopState.ready none lsV2 ⟨[6]⟩ y1_c2 y1_c3,AObj.rw lsV8 none,AObj.rw [ptr0 1] none,AObj.loop LoopState.ready none ⟨[Value.func (Fn.yield 12) ⟨[]⟩ ⟨[]⟩,ptr0 2,ptr0 13,junk,ptr0 1,Value.func (Fn.func 133) ⟨[]⟩ ⟨[ptr0 14]⟩,junk,junk,junk,junk,junk,junk,junk]⟩ ⟨[6]⟩ y1_c4 y1_c5]=[AObj.ro (List.map (Value.int IntKind.i64) l),AObj.rw (lsV9 b n c f) none,AObj.rw [ptr0 1] none,AObj.rw lsV3 none,AObj.rw lsV4 none,AObj.gone,AObj.rw lsV6 none,AObj.rw lsV1 none,AObj.rw lsV1 none,AObj.rw [Value.bool true] none,AObj.loop LoopState.ready none lsV0 ⟨[9]⟩ y1_c0 y1_c1,AObj.rw lsV7 none,AObj.loop LoopState.ready none lsV2 ⟨[6]⟩ y1_c2 y1_c3,AObj.rw lsV8 none,AObj.rw [ptr0 1] none,AObj.loop LoopState.ready none ⟨[Value.func (Fn.yield 12) ⟨[]⟩ ⟨[]⟩,ptr0 2,ptr0 13,junk,ptr0 1,Value.func (Fn.func (133:FuncId)) ⟨[]⟩ ⟨[ptr0 14]⟩,junk,junk,junk,junk,junk,junk,junk]⟩ ⟨[6]⟩ y1_c4 y1_c5])∧Ob (0+11≤11)∧True∧Ob (LR b n c f l { no := true,st := empI } (Value.agg { toList := lsV1 }) [AObj.ro (List.map (Value.int IntKind.i64) l),AObj.rw (lsV9 b n c f) none,AObj.rw [ptr0 1] none,AObj.rw lsV3 none,AObj.rw lsV4 none,AObj.gone,AObj.rw lsV6 none,AObj.rw lsV1 none,AObj.rw lsV1 none,AObj.rw [Value.bool true] none,AObj.gone,AObj.rw lsV7 none,AObj.gone,AObj.rw lsV8 none,AObj.rw [ptr0 1] none,AObj.gone,AObj.gone])
theorem lsV_eq : lsV = fun (b : Int) (n c f : Nat) (l : List Int) => vc Try.prog (ls4E b n c f l ⟨true,empI⟩) 6 22 true (fun _ => none) lsB [] (argFr 0 [allF,lnF]) (B6 b n c f l) (retK Try.prog Try.f102 (LR b n c f l ⟨true,empI⟩)) := by kernel_rfl
noncomputable def lsW0  : Array Value := { toList := [Value.func (Fn.func (122 : FuncId)) { toList := [] } { toList := [ptr0 3,ptr0 4] },Value.func (Fn.func (70 : FuncId)) { toList := [] } { toList := [] },junk,ptr0 6,ptr0 7,ptr0 8,ptr0 9,junk,Value.func (Fn.func (122 : FuncId)) { toList := [] } { toList := [ptr0 3,ptr0 4] },junk,junk,junk,junk,junk,junk,junk,junk,junk,junk,junk,junk,junk] }
noncomputable def lsW1  : Array Value := { toList := [Value.func (Fn.yield (10 : Nat)) { toList := [] } { toList := [] },ptr0 3,ptr0 4,ptr0 11,junk,Value.func (Fn.func (123 : FuncId)) { toList := [] } { toList := [ptr0 2] },junk,junk,junk,junk,junk,junk,junk,junk,junk,junk] }
noncomputable def lsW2 (n:Nat) (st:Nat→Int) := (Value.slice (some ⟨16,0,some 0⟩) n 0::I10 st [])
noncomputable def lsW3  : List Value := [Value.func (Fn.func (123 : FuncId)) { toList := [] } { toList := [ptr0 2] }]
noncomputable def lsW4  : List Value := [Value.func (Fn.func (61 : FuncId)) { toList := [ptr0 1] } { toList := [] }]
noncomputable def lsW5  := (Value.slice none (0 : Nat) (0 : Nat) :: I10 empI [])
noncomputable def lsW6 (f:Nat):List Value := [ptr0 1,Value.slice none 0 0,vi (f:Int),vi (f:Int),Value.func (Fn.yield 15) ⟨[]⟩ ⟨[]⟩]
noncomputable def lsW7  : List Value := [Value.func (Fn.func (70 : FuncId)) { toList := [] } { toList := [] }]
noncomputable def lsW8  : List Value := [Value.func (Fn.yield (10 : Nat)) { toList := [] } { toList := [] }]
noncomputable def lsW9  : List Value := [Value.func (Fn.yield (12 : Nat)) { toList := [] } { toList := [] }]
noncomputable def lsW10 (b:Int) (n:Nat) (c:Nat) (f:Nat) := (vi b::Value.slice (some (ad0 0)) n c::vi (f:Int)::B10 (tmd n) [])
noncomputable def lsW :=
fun (b:Int) (n c f:Nat) (l:List Int) (st:Nat→Int)↦Ob (some (Value.bool false)=some (Value.bool false)∧some 1=some 1)∧Ob (some (vi (f:Int))=some (vi (f:Int)))∧Ob (some (vi (f:Int))=some (vi (f:Int)))∧Ob ((lsW6 f)=(lsW6 f)∧[AObj.ro (List.map (Value.int IntKind.i64) l),AObj.rw (lsW10 b n c f) none,AObj.rw [ptr0 1] none,AObj.rw lsW3 none,AObj.rw lsW4 none,AObj.gone,AObj.rw lsW7 none,AObj.rw lsW5 none,AObj.rw lsW5 none,AObj.rw [Value.bool true] none,AObj.loop LoopState.ready none lsW0 ⟨[9]⟩ y1_c0 y1_c1,AObj.rw lsW8 none,AObj.loop LoopState.ready none lsW1 ⟨[6]⟩ y1_c2 y1_c3,AObj.rw lsW9 none,AObj.rw [ptr0 1] none,AObj.loop LoopState.ready none ⟨[Value.func (Fn.yield 12) ⟨[]⟩ ⟨[]⟩,ptr0 2,ptr0 13,junk,ptr0 1,Value.func (Fn.func 133) ⟨[]⟩ ⟨[ptr0 14]⟩,junk,junk,junk,junk,junk,junk,junk]⟩ ⟨[6]⟩ y1_c4 y1_c5]=[AObj.ro (List.map (Value.int IntKind.i64) l),AObj.rw (lsW10 b n c f) none,AObj.rw [ptr0 1] none,AObj.rw lsW3 none,AObj.rw lsW4 none,AObj.gone,AObj.rw lsW7 none,AObj.rw lsW5 none,AObj.rw lsW5 none,AObj.rw [Value.bool true] none,AObj.loop LoopState.ready none lsW0 ⟨[9]⟩ y1_c0 y1_c1,AObj.rw lsW8 none,AObj.loop LoopState.ready none lsW1 ⟨[6]⟩ y1_c2 y1_c3,AObj.rw lsW9 none,AObj.rw [ptr0 1] none,AObj.loop LoopState.ready none ⟨[Value.func (Fn.yield 12) ⟨[]⟩ ⟨[]⟩,ptr0 2,ptr0 13,junk,ptr0 1,Value.func (Fn.func (133:FuncId)) ⟨[]⟩ ⟨[ptr0 14]⟩,junk,junk,junk,junk,junk,junk,junk]⟩ ⟨[6]⟩ y1_c4 y1_c5])∧Ob (0+11≤11)∧True∧Ob (LR b n c f l { no := false,st := st } (Value.agg { toList := (lsW2 n st) }) [AObj.ro (List.map (Value.int IntKind.i64) l),AObj.rw (lsW10 b n c f) none,AObj.rw [ptr0 1] none,AObj.rw lsW3 none,AObj.rw lsW4 none,AObj.gone,AObj.rw lsW7 none,AObj.rw (lsW2 n st) none,AObj.rw (lsW2 n st) none,AObj.rw [Value.bool false] none,AObj.gone,AObj.rw lsW8 none,AObj.gone,AObj.rw lsW9 none,AObj.rw [ptr0 1] none,AObj.gone,AObj.gone])
theorem lsW_eq : lsW = fun (b : Int) (n c f : Nat) (l : List Int) (st : Nat→Int) => vc Try.prog (ls4E b n c f l ⟨false,st⟩) 6 22 true (fun _ => none) lsB [] (argFr 0 [allF,lnF]) (B6 b n c f l) (retK Try.prog Try.f102 (LR b n c f l ⟨false,st⟩)) := by kernel_rfl
theorem lsV_ok (b : Int) (n c f : Nat) (l : List Int) : lsV b n c f l := by
 unfold lsV lsV9 lsV8 lsV7 lsV6 lsV5 lsV4 lsV3 lsV2 lsV1 lsV0
 simp only [SS,reduceCtorEq,Arg.list,Arg.num,Arg.flag,intOf,andP,Nat.reduceLeDiff,Nat.reduceAdd,Nat.reduceMul,Nat.reduceLT,yv]
 exact ⟨16,by kernel_rfl,by kernel_rfl,by simp⟩
theorem lsW_ok (b : Int) (n c f : Nat) (l : List Int) (st : Nat→Int) : lsW b n c f l st := by
 unfold lsW lsW10 lsW9 lsW8 lsW7 lsW6 lsW5 lsW4 lsW3 lsW2 lsW1 lsW0
 simp only [SS,reduceCtorEq,Arg.list,Arg.num,Arg.flag,intOf,andP,Nat.reduceLeDiff,Nat.reduceAdd,Nat.reduceMul,Nat.reduceLT,yv]
 exact ⟨16,by kernel_rfl,by kernel_rfl,by simp⟩
theorem g1Ct_ok (b : Int) (n c f : Nat) (l : List Int) (S : LS) (hl : l.length = n * 2) (hn : n≤10) (hr : rngP b n l) (hn1 : 1≤n) (hf : f≤n) (hS : S = shL b n f l) : CtOk Try.prog (g1Ct b n c f l S) := by
 intro fn args H φ v H' lg h hφ
 unfold g1Ct at h
 split at h <;> cases h
 rename_i hb
 obtain rfl := Nat.eq_of_beq_eq_true hb
 obtain ⟨rfl,rfl⟩ := hφ
 subst hS
 refine ⟨grow0_ok b n c f l hl hn hr true empI n f hn1 hf (by omega) (fun _ => rfl),by rw [List.length_append,EHL_len,EHL_len]; omega,fun b1 h4 h5 => ?_⟩
 rw [EHL_len] at h4
 rw [List.getElem?_append_left (by rw [EHL_len]; exact h4)]
 have h8 : b1 ≠ 8 := fun e => h5 (by subst e; simp)
 have h9 : b1 ≠ 9 := fun e => h5 (by subst e; simp)
 unfold EHL EH
 rcases b1 with _ | _ | _ | _ | _ | _ | _ | _ | _ | _ | _ | _ | _ | _ | _ | _ | b1 <;> first | rfl | omega
theorem inl_two {f g : Nat} {fn gn : Func} {inv inv' : List Value→Heap→Nat→Option LInv} (h : Try.prog.funcs[f]? = some fn) (k : Try.prog.funcs[g]? = some gn) : ∀ e ∈ ([⟨f,fn,inv⟩,⟨g,gn,inv'⟩] : List InlE),Try.prog.funcs[e.f]? = some e.fn := fun e he => by
 rcases List.mem_cons.1 he with rfl | he
 · exact h
 · rw [List.mem_singleton.1 he]; exact k
theorem ls4E_ok (b : Int) (n c f : Nat) (l : List Int) (S : LS) (hl : l.length = n * 2) (hn : n≤10) (hr : rngP b n l) (hn1 : 1≤n) (hf : f≤n) (hS : S = shL b n f l) : VOk Try.prog (ls4E b n c f l S) := by
 have h1 : VOk Try.prog (ls1E b n c f l S) := ⟨g1Ct_ok b n c f l S hl hn hr hn1 hf hS,E0_ok.cc,E0_ok.yc,prE1_ok.orc⟩
 have h2 : VOk Try.prog (ls2E b n c f l S) := ⟨CtOk.none,ccIn_ok h1 mixed (inl_two Try.func133 Try.func124),E0_ok.yc,prE1_ok.orc⟩
 have h3 : VOk Try.prog (ls3E b n c f l S) := ⟨CtOk.none,ccIn_ok h2 mixed (inl_one Try.func123),E0_ok.yc,prE1_ok.orc⟩
 exact ⟨CtOk.none,ccIn_ok h3 mixed (inl_one Try.func122),E0_ok.yc,prE1_ok.orc⟩
def σ6 (k b : Nat) : Nat := if b = 6 then k else b
theorem agg_slot {σ : Nat→Nat} {k n : Nat} {no : Bool} {st : Nat→Int} : nmap σ (.agg (slotV no k n :: I10 st []).toArray) = .agg (slotV no (σ k) n :: I10 st []).toArray := by
 show Value.agg ((slotV no k n :: I10 st []).toArray.map (nmap1 σ)) = _
 rw [List.map_toArray,List.map_cons,nmap1_all rfl]
 cases no <;> rfl
theorem agg_slot_sc {m k n : Nat} {no : Bool} {st : Nat→Int} (hk : k < m) : sc m (.agg (slotV no k n :: I10 st []).toArray) = true := by
 cases no with
 | false => exact agg_sc hk rfl
 | true =>
   show (nilS :: I10 st []).toArray.all (sc1 m) = true
   rw [← Array.all_toList]; rfl
theorem B6_map {σ : Nat→Nat} {b : Int} {n c f : Nat} {l : List Int} (h0 : σ 0 = 0) (h1 : σ 1 = 1) (h2 : σ 2 = 2) : (B6 b n c f l).map (omap σ) = B6 b n c f l := by
 unfold B6
 simp only [List.map_cons,List.map_nil,ros_omap,walk_omap h0]
 have e2 : omap σ (AObj.rw [ptr0 1] none) = .rw [ptr0 1] none := by
   show AObj.rw [.pointer (some ⟨σ 1,0,none⟩)] none = _
   rw [h1]
 have e3 : omap σ (AObj.rw [tripsF] none) = .rw [tripsF] none := by simp [omap,tripsF,nmap1,nmapFn,nmap0,am,h2]
 have e4 : omap σ (AObj.rw [Value.func (.func 61) #[ptr0 1] #[]] none) = .rw [Value.func (.func 61) #[ptr0 1] #[]] none := by simp [omap,nmap1,nmapFn,nmapA,nmap0,am,h1]
 rw [e2,e3,e4]; rfl
theorem B6_sc {b : Int} {n c f : Nat} {l : List Int} : ∀ o ∈ B6 b n c f l,o.sc 6 = true := by
 refine List.all_eq_true.1 ?_
 unfold B6
 simp only [List.all_cons,List.all_nil,ros_sc,Bool.and_true,Bool.true_and]
 kernel_rfl
theorem LR_anew {b : Int} {n c f : Nat} {l : List Int} {s : LS} {v : Value} {H' : Heap} (h : LR b n c f l s v H') :
   ∃ σ v2 H2,Anew 6 σ H' H2∧v = nmap σ v2∧sc H2.length v2 = true∧(v2 = .agg (slotV s.no 6 n :: I10 s.st []).toArray∧H2 = B6 b n c f l ++ [.gone]) := by
 obtain ⟨k,rfl,he,hk⟩ := h
 have hl : (B6 b n c f l ++ [AObj.gone]).length = 7 := rfl
 have hb6 : (B6 b n c f l).length = 6 := rfl
 have g6 : (B6 b n c f l ++ [AObj.gone])[6]? = some .gone := rfl
 have hm := B6_map (σ := σ6 k) (b := b) (n := n) (c := c) (f := f) (l := l) rfl rfl rfl
 refine ⟨σ6 k,_,_,⟨?_,fun b' hb => ?_,fun b' o hb => ?_,fun b1 b2 o h1 h2 h3 h4 h5 h6 => ?_,fun b' o hb => ?_⟩,?_,agg_slot_sc (show 6 < 7 by omega),rfl,rfl⟩
 · rw [hl]; omega
 · unfold σ6; rw [if_neg (by omega)]
 · rcases Nat.lt_or_ge b' 6 with h1 | h1
   · right
     rw [List.getElem?_append_left (by rw [hb6]; exact h1)] at hb
     rw [he,show σ6 k b' = b' by unfold σ6; rw [if_neg (by omega)],List.getElem?_append_left (by rw [hb6]; exact h1),← hm,List.getElem?_map,hb]
     rfl
   · left
     have h2 := (List.getElem?_eq_some_iff.1 hb).1
     rw [hl] at h2
     obtain rfl : b' = 6 := by omega
     rw [g6] at hb
     exact (Option.some.inj hb).symm
 · rw [hl] at h1 h2
   have n1 : b1 ≠ 6 := fun e => by subst e; rw [g6] at h3; cases h3; exact h4 rfl
   have n2 : b2 ≠ 6 := fun e => by
     subst e
     rcases h5 with h5 | h5
     · exact h5 g6
     · omega
   unfold σ6 at h6
   rw [if_neg n1,if_neg n2] at h6
   exact h6
 · rw [hl]
   rcases List.mem_append.1 (List.mem_of_getElem? hb) with h1 | h1
   · exact AObj.sc_mono (by omega) (B6_sc o h1)
   · rw [List.mem_singleton.1 h1]; rfl
 · rw [agg_slot]; rfl
theorem shL_emp {b : Int} {n f : Nat} {l : List Int} : (shL b n f l).no = true→(shL b n f l).st = empI := fdR_emp fun _ => rfl
theorem least_ok (b : Int) (n c f : Nat) (l : List Int) (hl : l.length = n * 2) (hn : n≤10) (hr : rngP b n l) (hn1 : 1≤n) (hf : f≤n) :
   Call Try.prog 102 [allF,lnF] (B6 b n c f l) fun v H' => v = .agg (slotV (shL b n f l).no 6 n :: I10 (shL b n f l).st []).toArray∧H' = B6 b n c f l ++ [.gone] := by
 have e := shL_emp (b := b) (n := n) (f := f) (l := l)
 generalize hS : shL b n f l = S at *
 have hE := ls4E_ok b n c f l S hl hn hr hn1 hf hS.symm
 refine Call.anew (Call.mono (Q := LR b n c f l S) ?_ fun v H' hy => LR_anew hy)
 obtain ⟨no,st⟩ := S
 cases no with
 | true =>
   obtain rfl : st = empI := e rfl
   have h := lsV_ok b n c f l
   rw [lsV_eq] at h
   exact Call.ofVc (H := B6 b n c f l) (args := [allF,lnF]) hE mixed (c := lsB) (inv := fun _ => none) (R := LR b n c f l ⟨true,empI⟩) Try.func102 (by kernel_rfl) (cast (by kernel_rfl) h)
 | false =>
   have h := lsW_ok b n c f l st
   rw [lsW_eq] at h
   exact Call.ofVc (H := B6 b n c f l) (args := [allF,lnF]) hE mixed (c := lsB) (inv := fun _ => none) (R := LR b n c f l ⟨false,st⟩) Try.func102 (by kernel_rfl) (cast (by kernel_rfl) h)
end Go.Pier.Rd
namespace Go.Pier.Rd
open Go Go.Pier Go.Proofs
def LeastOf (b : Int) (l : List Int) (g : (Nat→Int)→Bool) (N : (Nat→Int)→Int) (r : List (List Int)) (s : LS) : Prop :=
 (s.no = true→s.st = empI∧∀ m ∈ r,g (stp b l m) = false)∧(s.no = false→(∃ m ∈ r,g (stp b l m) = true∧s.st = stp b l m)∧∀ m ∈ r,g (stp b l m) = true→N s.st≤N (stp b l m))
theorem foldR_least {b : Int} {l : List Int} {g : (Nat→Int)→Bool} {N : (Nat→Int)→Int} : ∀ (r r0 : List (List Int)) (s : LS),LeastOf b l g N r0 s→LeastOf b l g N (r0 ++ r) (foldR b l g N s r)
 | [],r0,s,h => by rw [List.append_nil]; exact h
 | m :: r,r0,s,h => by
   suffices k : LeastOf b l g N (r0 ++ [m]) (stepL g N s (stp b l m)) by
     have := foldR_least r (r0 ++ [m]) (stepL g N s (stp b l m)) k
     rw [List.append_assoc] at this
     exact this
   obtain ⟨h1,h2⟩ := h
   cases hg : g (stp b l m) with
   | false =>
     rw [stepL_no hg]
     refine ⟨fun e => ⟨(h1 e).1,fun m2 hm => ?_⟩,fun e => ⟨?_,fun m2 hm k => ?_⟩⟩
     · rcases List.mem_append.1 hm with hm | hm
       · exact (h1 e).2 m2 hm
       · rw [List.mem_singleton.1 hm]; exact hg
     · obtain ⟨m2,k1,k2⟩ := (h2 e).1
       exact ⟨m2,List.mem_append_left _ k1,k2⟩
     · rcases List.mem_append.1 hm with hm | hm
       · exact (h2 e).2 m2 hm k
       · rw [List.mem_singleton.1 hm,hg] at k; cases k
   | true =>
     by_cases hc : s.no = true∨N (stp b l m) < N s.st
     · rw [stepL_new hg hc]
       refine ⟨fun e => (by cases e),fun _ => ⟨⟨m,List.mem_append_right _ List.mem_cons_self,hg,rfl⟩,fun m2 hm k => ?_⟩⟩
       rcases List.mem_append.1 hm with hm | hm
       · cases hno : s.no with
         | true => rw [(h1 hno).2 m2 hm] at k; cases k
         | false =>
           have := (h2 hno).2 m2 hm k
           rcases hc with hc | hc
           · rw [hno] at hc; cases hc
           · exact Int.le_trans (Int.le_of_lt hc) this
       · rw [List.mem_singleton.1 hm]; exact Int.le_refl _
     · have hno : s.no = false := by
         cases e : s.no with
         | true => exact absurd (.inl e) hc
         | false => rfl
       rw [stepL_old hno (fun k => hc (.inr k))]
       refine ⟨fun e => (by rw [hno] at e; cases e),fun e => ⟨?_,fun m2 hm k => ?_⟩⟩
       · obtain ⟨m2,k1,k2⟩ := (h2 e).1
         exact ⟨m2,List.mem_append_left _ k1,k2⟩
       · rcases List.mem_append.1 hm with hm | hm
         · exact (h2 e).2 m2 hm k
         · rw [List.mem_singleton.1 hm]
           exact Int.not_lt.1 fun k => hc (.inr k)
theorem foldR_from {b : Int} {l : List Int} {g : (Nat→Int)→Bool} {N : (Nat→Int)→Int} (r : List (List Int)) : LeastOf b l g N r (foldR b l g N ⟨true,empI⟩ r) :=
 foldR_least r [] ⟨true,empI⟩ ⟨fun _ => ⟨rfl,fun m hm => (by cases hm)⟩,fun e => (by cases e)⟩
theorem dist_pos {a b : Int} (h : a ≠ b) : 0 < dist a b := by rw [dist_eq]; omega
theorem dist_nn {a b : Int} : 0≤dist a b := by rw [dist_eq]; omega
theorem rSt_mono {b : Int} {l m : List Int} {x : Nat} : ∀ y,x≤y→rSt b l m x≤rSt b l m y
 | 0, h => by obtain rfl : x = 0 := by omega
              exact Int.le_refl _
 | y + 1,h => by
   rcases Nat.lt_or_ge x (y + 1) with h1 | h1
   · have := rSt_mono (b := b) (l := l) (m := m) (x := x) y (by omega)
     have h2 : rSt b l m (y + 1) = rSt b l m y + dist (rAt b l m y) (pl l (m.getD y 0).toNat) := rfl
     have h3 : 0≤dist (rAt b l m y) (pl l (m.getD y 0).toNat) := dist_nn
     omega
   · obtain rfl : x = y + 1 := by omega
     exact Int.le_refl _
theorem getD_nd {m : List Int} (h : m.Nodup) {i j : Nat} (hi : i < m.length) (hj : j < m.length) (e : m.getD i 0 = m.getD j 0) : i = j := by
 rw [List.getD_eq_getElem?_getD,List.getD_eq_getElem?_getD,List.getElem?_eq_getElem hi,List.getElem?_eq_getElem hj] at e
 exact (List.getElem_inj h).1 e
theorem sf_at {b : Int} {n : Nat} {l m : List Int} (hw : Whole n m) {i : Nat} (hi : i < m.length) : ∀ x,i < x→x≤m.length→sf b l m x (m.getD i 0).toNat = rSt b l m (i + 1)
 | 0,h,_ => by omega
 | x + 1,h,hx => by
   rw [sf]
   by_cases e : x = i
   · subst e; rw [show Nat.beq (m.getD x 0).toNat (m.getD x 0).toNat = true from Nat.beq_refl _]; rfl
   · have h1 := whole_mem hw i hi
     have h2 := whole_mem hw x (by omega)
     have h3 : m.getD i 0 ≠ m.getD x 0 := fun k => e (getD_nd hw.nd hi (by omega) k).symm
     have : Nat.beq (m.getD i 0).toNat (m.getD x 0).toNat = false := by
       cases hb : Nat.beq (m.getD i 0).toNat (m.getD x 0).toNat with
       | false => rfl
       | true => have := Nat.eq_of_beq_eq_true hb; omega
     rw [this]
     exact sf_at hw hi x (by omega) (by omega)
theorem stp_at {b : Int} {n : Nat} {l m : List Int} (hw : Whole n m) {i : Nat} (hi : i < m.length) : stp b l m (m.getD i 0).toNat = rSt b l m (i + 1) := sf_at hw hi m.length hi (Nat.le_refl _)
theorem whole_all {n : Nat} {m : List Int} (hw : Whole n m) {a : Nat} (ha : a < n) : ∃ i,i < m.length∧m.getD i 0 = (a : Int) := by
 have : (a : Int) ∈ m := hw.all a (Nat.zero_le _) ha
 obtain ⟨i,hi⟩ := List.mem_iff_getElem?.1 this
 exact ⟨i,(List.getElem?_eq_some_iff.1 hi).1,by rw [List.getD_eq_getElem?_getD,hi]; rfl⟩
theorem sf_out {b : Int} {n : Nat} {l m : List Int} (hm : ∀ j,j < m.length→0≤m.getD j 0∧m.getD j 0 < n) {a : Nat} (ha : n≤a) : ∀ x,x≤m.length→sf b l m x a = 0
 | 0,_ => rfl
 | x + 1,hx => by
   rw [sf]
   have h2 := hm x (by omega)
   have : Nat.beq a (m.getD x 0).toNat = false := by
     cases hb : Nat.beq a (m.getD x 0).toNat with
     | false => rfl
     | true => have := Nat.eq_of_beq_eq_true hb; omega
   rw [this]
   exact sf_out hm ha x (by omega)
theorem stp_first {b : Int} {n : Nat} {l m : List Int} (hw : Whole n m) (hn : 1≤n) (ho : ordP b n l) : ∃ i,i < n∧stp b l m i ≠ 0 := by
 have hl := whole_len hw
 have h0 := whole_mem hw 0 (by omega)
 refine ⟨(m.getD 0 0).toNat,by omega,?_⟩
 rw [stp_at hw (by omega)]
 show rSt b l m 0 + dist (rAt b l m 0) (pl l (m.getD 0 0).toNat) ≠ 0
 have := dist_pos (a := b) (b := pl l (m.getD 0 0).toNat) (fun e => (ho (m.getD 0 0).toNat (by omega)).1 e.symm)
 show 0 + dist b _ ≠ 0
 omega
theorem rds_mem_whole {n f : Nat} (hf : f≤n) : ∀ r ∈ rds n n f f [],Whole n r := rds_whole n f f [] (by omega) (begun_nil hf)
theorem shL_least {b : Int} {n f : Nat} {l : List Int} : LeastOf b l (inTB n l) NL (rds n n f f []) (shL b n f l) := foldR_from _
theorem shL_ne {b : Int} {n f : Nat} {l : List Int} (hn : 1≤n) (hf : f≤n) (hn10 : n≤10) (ho : ordP b n l) (h : (shL b n f l).no = false) : eq10 (shL b n f l).st empI = false := by
 obtain ⟨⟨m,h1,h2,h3⟩,_⟩ := shL_least.2 h
 obtain ⟨i,hi,hne⟩ := stp_first (rds_mem_whole hf m h1) hn ho
 exact eq10_false (i := i) (by omega) (by rw [h3]; exact hne)
end Go.Pier.Rd
namespace Go.Pier.Rd
open Go Go.Pier Go.Proofs
noncomputable def nnB : Code := Try.f103.body.getD .skip
noncomputable def nnE : VEnv := { orc := orcOr orcA10 prO }
noncomputable def nnV :=
fun (n:Nat) (st:Nat→Int)↦Ob True∧True∧Ob (eq10 (l10 (st 0) (st 1) (st 2) (st 3) (st 4) (st 5) (st 6) (st 7) (st 8) (st 9)) (l10 (0:Int) (0:Int) (0:Int) (0:Int) (0:Int) (0:Int) (0:Int) (0:Int) (0:Int) (0:Int))=eq10 st empI)∧True
theorem nnV_eq : nnV = fun (n : Nat) (st : Nat→Int) => vc Try.prog nnE 1 7 true (fun _ => none) nnB [] (argFr 0 [.agg (newS 0 n :: I10 st []).toArray]) [.gone] (retR Try.prog Try.f103 1 (fun b => b) (.bool (eq10 st empI)) [.gone]) := by kernel_rfl
noncomputable def nnN :=
fun (st:Nat→Int)↦Ob True∧True∧Ob (eq10 (l10 (st 0) (st 1) (st 2) (st 3) (st 4) (st 5) (st 6) (st 7) (st 8) (st 9)) (l10 (0:Int) (0:Int) (0:Int) (0:Int) (0:Int) (0:Int) (0:Int) (0:Int) (0:Int) (0:Int))=eq10 st empI)∧True
theorem nnN_eq : nnN = fun (st : Nat→Int) => vc Try.prog nnE 0 7 true (fun _ => none) nnB [] (argFr 0 [.agg (nilS :: I10 st []).toArray]) [] (retR Try.prog Try.f103 0 (fun b => b) (.bool (eq10 st empI)) []) := by kernel_rfl
def nnCt : List Value→Heap→Option (Option Prop × Value × Heap × List Nat) := fun args H => match args with
 | [.agg ⟨[sl,.int .i64 a0,.int .i64 a1,.int .i64 a2,.int .i64 a3,.int .i64 a4,.int .i64 a5,.int .i64 a6,.int .i64 a7,.int .i64 a8,.int .i64 a9]⟩] => match sl with
   | .slice none 0 0 => some (none,.bool (eq10 (l10 a0 a1 a2 a3 a4 a5 a6 a7 a8 a9) empI),H,[])
   | .slice (some ⟨_,0,some 0⟩) _ 0 => some (none,.bool (eq10 (l10 a0 a1 a2 a3 a4 a5 a6 a7 a8 a9) empI),H,[])
   | _ => none
 | _ => none
noncomputable def leastCc (b:Int) (n c f:Nat) (l:List Int) (S:LS):Cc := fun fn args H => match Nat.beq fn 102 with
 | true => match args with
   | [.func (.func 122) ⟨[]⟩ ⟨[.pointer (some ⟨a,0,none⟩),.pointer (some ⟨i,0,none⟩)]⟩,.func (.func 70) ⟨[]⟩ ⟨[]⟩] => match H[a]? with
     | some (.rw [.func (.func 123) ⟨[]⟩ ⟨[.pointer (some ⟨x,0,none⟩)]⟩] none) => match H[x]? with
       | some (.rw [.pointer (some ⟨w,0,none⟩)] none) => match nodupB [0,w,x,a,i,1] with
         | true => some fun Q => Ob (H[0]?=some (ros l)∧H[w]?=some (.rw (walkC b n c f (tmd n)) none)∧H[i]?=some (.rw [.func (.func 61) #[ptr0 w] #[]] none)∧1<H.length) ∧
             (S.no=true→Q (.agg (nilS::I10 empI []).toArray) (H++[.gone]))∧(S.no=false→Q (.agg (newS H.length n::I10 S.st []).toArray) (H++[.gone]))
         | false => none
       | _ => none
     | _ => none
   | _ => none
 | false => none
noncomputable def shE0 : VEnv := { prE1 with cc := ccIn Try.prog prE1 [⟨105,Try.f105,fun _ _ _ => none⟩,⟨106,Try.f106,fun _ _ _ => none⟩] }
noncomputable def shT : Ct := (prT.add 70 lenCt).add 103 nnCt
noncomputable def shE1 (b : Int) (n c : Nat) (l : List Int) (S : LS) : VEnv := { ct := shT,orc := prO,cc := ccOr (leastCc b n c (lg b l n) l S) (ccIn Try.prog shE0 [⟨72,Try.f72,fun _ _ _ => none⟩,⟨57,Try.f57,inv57 b n c l⟩]) }
noncomputable def shE2 (b : Int) (n c : Nat) (l : List Int) (S : LS) : VEnv := { ct := shT,orc := prO,cc := ccIn Try.prog (shE1 b n c l S) [⟨69,Try.f69,fun _ _ _ => none⟩] }
noncomputable def shB : Code := Try.f24.body.getD .skip
def shV (S : LS) : Value := .tuple #[vi (bif S.no then 0 else mxN S.st 9),vi (bif S.no then 12 else 0)]
noncomputable def shV0_s0  (x:Nat) := (0+3+(x:Int).toNat * 1)
noncomputable def shV0_s1 (b:Int) (n:Nat) (c:Nat):Prop := (AObj.rw [vi b,Value.slice (some (ad0 0)) n c] none=AObj.rw [vi b,Value.slice (some (ad0 0)) n c] none∧true=true)
noncomputable def shV0_s2 (b:Int) (n:Nat) (c:Nat) (l:List Int) (x:Nat):List Value := [vi b,Value.slice (some (ad0 0)) n c,vi (↑(lg b l x):Int),Value.bool (bif Nat.beq 3 (shV0_s0 x) then true else tmd x 0),Value.bool (bif Nat.beq 4 (shV0_s0 x) then true else tmd x 1),Value.bool (bif Nat.beq 5 (shV0_s0 x) then true else tmd x 2),Value.bool (bif Nat.beq 6 (shV0_s0 x) then true else tmd x 3),Value.bool (bif Nat.beq 7 (shV0_s0 x) then true else tmd x 4),Value.bool (bif Nat.beq 8 (shV0_s0 x) then true else tmd x 5),Value.bool (bif Nat.beq 9 (shV0_s0 x) then true else tmd x 6),Value.bool (bif Nat.beq 10 (shV0_s0 x) then true else tmd x 7),Value.bool (bif Nat.beq 11 (shV0_s0 x) then true else tmd x 8),Value.bool (bif Nat.beq 12 (shV0_s0 x) then true else tmd x 9)]
noncomputable def shV0_s3 (l:List Int) := (List.map (Value.int IntKind.i64) l)
noncomputable def shV0_s4 (S:LS):Array Value := ⟨[vi (bif S.no then (0:Int) else mxN S.st 9),vi (bif S.no then (12:Int) else (0:Int))]⟩
noncomputable def shV0_s5  := (mxL [(0 : Int),(0 : Int),(0 : Int),(0 : Int),(0 : Int),(0 : Int),(0 : Int),(0 : Int),(0 : Int),(0 : Int)])
noncomputable def shV0_s6  : Prop := (AObj.rw (Value.slice none (0 : Nat) (0 : Nat) :: I10 empI []) none = AObj.rw (Value.slice none (0 : Nat) (0 : Nat) :: I10 empI []) none∧true = true)
noncomputable def shV0_s7  : Prop := (Value.pointer (some { block := (4 : Nat) + (1 : Nat),off := (0 : Nat),spot := none }) = Value.pointer (some { block := (4 : Nat) + (1 : Nat),off := (0 : Nat),spot := none }))
noncomputable def shV0_s8 (S:LS) := (l10 (S.st 0) (S.st 1) (S.st 2) (S.st 3) (S.st 4) (S.st 5) (S.st 6) (S.st 7) (S.st 8) (S.st 9))
noncomputable def shV0_s9  (x:Nat) := (0+(x:Int).toNat * 2)
noncomputable def shV0_s10  : Array Value := { toList := [Value.pointer (some { block := (4 : Nat) + (1 : Nat),off := (0 : Nat),spot := none })] }
noncomputable def shV0_s11 (b:Int) (n:Nat) (c:Nat) (l:List Int) (y:Nat) := (vi b::Value.slice (some (ad0 0)) n c::vi (↑(lg b l y):Int)::B10 (tmd y) [])
noncomputable def shV0_s12 (n:Nat) (c:Nat):Prop := (Value.slice (some (ad0 0)) n c=Value.slice (some (ad0 0)) n c)
noncomputable def shV0_s13 (S:LS):Prop := (Value.tuple ⟨[vi shV0_s5,vi (12:Int)]⟩=Value.tuple (shV0_s4 S))
noncomputable def shV0_s14 (b:Int) (n:Nat) (l:List Int):Bool := (errP b n (intsOf (shV0_s3 l)) !=(0:Int))
noncomputable def shV0 :=
fun (b:Int) (n c:Nat) (l:List Int) (S:LS)↦Ob ((true=true∧Flat (shV0_s3 l))∧okL (Leaf.view (shV0_s3 l) n false))∧((shV0_s14 b n l)=true→((shV0_s14 b n l)=true→Ob (0+11≤11)∧Ob (0+11≤11)∧True∧Ob (Value.tuple ⟨[vi shV0_s5,vi (errP b n (intsOf (shV0_s3 l)))]⟩=Value.tuple (shV0_s4 S)))∧((shV0_s14 b n l)=false→False))∧((shV0_s14 b n l)=false→(∃ (y:Nat),Ob (y≤n)∧(Ob (AObj.ro (shV0_s3 l)=AObj.ro (List.map (nmap1 fun (bq:Nat)↦bq) (shV0_s3 l))∧AObj.sc 6 (AObj.ro (shV0_s3 l))=true)∧Ob (shV0_s1 b n c)∧Ob (shV0_s1 b n c)∧Ob shV0_s6∧Ob (shV0_s1 b n c)∧Ob (AObj.rw (vi b::Value.slice (some (ad0 0)) n c::vi (0:Int)::B10 empB []) none=AObj.rw (shV0_s11 b n c l y) none∧true=true)∧True)∧Ob (ptr0 5=ptr0 5)∧Ob (shV0_s12 n c)∧Ob ((n:Int)=(n:Int))∧Ob ((0:Int)=(y:Int))∧True)∧∀ (x:Nat),Ob (x≤n)→(decide ((x:Int)<(n:Int))=true→Ob ((0:Int)≤(x:Int)∧(x:Int)<(n:Int)∧true=true)∧Ob (ckAsk [CK.i IntKind.i64,CK.i IntKind.i64] (shV0_s3 l) (shV0_s9 x))∧Ob (0+2≤2)∧Ob ((0:Int)≤(x:Int)∧(x:Int)<(↑(10:Nat):Int))∧Ob (BoolAt (vi b::Value.slice (some (ad0 0)) n c::vi (↑(lg b l x):Int)::B10 (tmd x) []) (shV0_s0 x)∧some 1=some 1)∧Ob (some (vi (getI (shV0_s3 l) (shV0_s9 x)))=some (vi (getI (shV0_s3 l) (shV0_s9 x))))∧Ob (some (vi b)=some (vi b))∧(decide (getI (shV0_s3 l) (shV0_s9 x)<b)=true→Ob (IntAt IntKind.i64 (shV0_s2 b n c l x) (0+2)∧some 1=some 1)∧∃ (y:Nat),Ob (y≤n)∧Ob (n-y<n-x)∧(Ob (AObj.ro (shV0_s3 l)=AObj.ro (List.map (nmap1 fun (bqq:Nat)↦bqq) (shV0_s3 l))∧AObj.sc 6 (AObj.ro (shV0_s3 l))=true)∧Ob (shV0_s1 b n c)∧Ob (shV0_s1 b n c)∧Ob shV0_s6∧Ob (shV0_s1 b n c)∧Ob (AObj.rw [vi (bif false then IntKind.i64.wrap ((x:Int)+(1:Int)) else b),Value.slice (some (ad0 0)) n c,vi (bif true then IntKind.i64.wrap ((x:Int)+(1:Int)) else (↑(lg b l x):Int)),Value.bool (bif Nat.beq 3 (shV0_s0 x) then true else tmd x 0),Value.bool (bif Nat.beq 4 (shV0_s0 x) then true else tmd x 1),Value.bool (bif Nat.beq 5 (shV0_s0 x) then true else tmd x 2),Value.bool (bif Nat.beq 6 (shV0_s0 x) then true else tmd x 3),Value.bool (bif Nat.beq 7 (shV0_s0 x) then true else tmd x 4),Value.bool (bif Nat.beq 8 (shV0_s0 x) then true else tmd x 5),Value.bool (bif Nat.beq 9 (shV0_s0 x) then true else tmd x 6),Value.bool (bif Nat.beq 10 (shV0_s0 x) then true else tmd x 7),Value.bool (bif Nat.beq 11 (shV0_s0 x) then true else tmd x 8),Value.bool (bif Nat.beq 12 (shV0_s0 x) then true else tmd x 9)] none=AObj.rw (shV0_s11 b n c l y) none∧true=true)∧True)∧Ob shV0_s7∧Ob (shV0_s12 n c)∧Ob ((n:Int)=(n:Int))∧Ob (IntKind.i64.wrap ((x:Int)+(1:Int))=(y:Int))∧True)∧(decide (getI (shV0_s3 l) (shV0_s9 x)<b)=false→∃ (y:Nat),Ob (y≤n)∧Ob (n-y<n-x)∧(Ob (AObj.ro (shV0_s3 l)=AObj.ro (List.map (nmap1 fun (bqqq:Nat)↦bqqq) (shV0_s3 l))∧AObj.sc 6 (AObj.ro (shV0_s3 l))=true)∧Ob (shV0_s1 b n c)∧Ob (shV0_s1 b n c)∧Ob shV0_s6∧Ob (shV0_s1 b n c)∧Ob (AObj.rw (shV0_s2 b n c l x) none=AObj.rw (shV0_s11 b n c l y) none∧true=true)∧True)∧Ob shV0_s7∧Ob (shV0_s12 n c)∧Ob ((n:Int)=(n:Int))∧Ob (IntKind.i64.wrap ((x:Int)+(1:Int))=(y:Int))∧True))∧(decide ((x:Int)<(n:Int))=false→(false=true→Ob (0+11≤11)∧Ob (0+11≤11)∧True∧Ob (Value.tuple ⟨[vi shV0_s5,vi (0:Int)]⟩=Value.tuple (shV0_s4 S)))∧(false=false→Ob (some (AObj.ro (shV0_s3 l))=some (AObj.ro (shV0_s3 l))∧some (AObj.rw (vi b::Value.slice (some (ad0 0)) n c::vi (↑(lg b l x):Int)::B10 (tmd x) []) none)=some (AObj.rw (vi b::Value.slice (some (ad0 0)) n c::vi (↑(lg b l n):Int)::B10 (tmd n) []) none)∧some (AObj.rw [Value.func (Fn.func 61) shV0_s10 ⟨[]⟩] none)=some (AObj.rw [Value.func (Fn.func (61:FuncId)) shV0_s10 ⟨[]⟩] none)∧1<9)∧(S.no=true→Ob (0+11≤11)∧(true=true→Ob (0+11≤11)∧Ob (0+11≤11)∧True∧Ob (shV0_s13 S))∧(true=false→Ob (0+11≤11)∧Ob (0+11≤11)∧True∧Ob (Value.tuple ⟨[vi (mxL [empI 0,empI 1,empI 2,empI 3,empI 4,empI 5,empI 6,empI 7,empI 8,empI 9]),vi (0:Int)]⟩=Value.tuple (shV0_s4 S))))∧(S.no=false→Ob (0+11≤11)∧(eq10 (shV0_s8 S) empI=true→Ob (0+11≤11)∧Ob (0+11≤11)∧True∧Ob (shV0_s13 S))∧(eq10 (shV0_s8 S) empI=false→Ob (0+11≤11)∧Ob (0+11≤11)∧True∧Ob (Value.tuple ⟨[vi (mxL [S.st 0,S.st 1,S.st 2,S.st 3,S.st 4,S.st 5,S.st 6,S.st 7,S.st 8,S.st 9]),vi (0:Int)]⟩=Value.tuple (shV0_s4 S)))))))
theorem shV0_eq : shV0 = fun (b : Int) (n c : Nat) (l : List Int) (S : LS) => vc Try.prog (shE2 b n c l S) 1 14 true (fun _ => none) shB [] (argFr 0 [pierV b (some ⟨0,0,none⟩) n c]) [ros l] (retK Try.prog Try.f24 (fun v _ => v = shV S)) := by kernel_rfl
theorem l10_same {x : Nat→Int} {i : Nat} (h : i < 10) : l10 (x 0) (x 1) (x 2) (x 3) (x 4) (x 5) (x 6) (x 7) (x 8) (x 9) i = x i := by
 rcases i with _ | _ | _ | _ | _ | _ | _ | _ | _ | _ | i <;> first | rfl | omega
theorem l10_zero {i : Nat} : l10 0 0 0 0 0 0 0 0 0 0 i = 0 := by
 rcases i with _ | _ | _ | _ | _ | _ | _ | _ | _ | _ | i <;> rfl
theorem eq10_l10 {st : Nat→Int} {y : Nat→Int} (hy : ∀ i,y i = 0) : eq10 (l10 (st 0) (st 1) (st 2) (st 3) (st 4) (st 5) (st 6) (st 7) (st 8) (st 9)) y = eq10 st empI := by
 cases h : eq10 st empI with
 | true =>
   refine eq10_true fun i hi => ?_
   have := List.all_eq_true.1 h i (by simp [List.mem_range']; omega)
   rw [l10_same hi,hy]
   exact eq_of_beq this
 | false =>
   obtain ⟨i,hi,h1⟩ := List.all_eq_false.1 h
   simp [List.mem_range'] at hi
   exact eq10_false (i := i) (by omega) (by rw [l10_same (by omega),hy]; intro e; exact h1 (by rw [e]; rfl))
theorem nnV_ok (n : Nat) (st : Nat→Int) : nnV n st := by
 unfold nnV
 simp only [SS,reduceCtorEq,Arg.list,Arg.num,Arg.flag,intOf,andP,Nat.reduceLeDiff,Nat.reduceAdd,Nat.reduceMul,Nat.reduceLT]
 exact eq10_l10 fun _ => l10_zero
theorem nnN_ok (st : Nat→Int) : nnN st := by
 unfold nnN
 simp only [SS,reduceCtorEq,Arg.list,Arg.num,Arg.flag,intOf,andP,Nat.reduceLeDiff,Nat.reduceAdd,Nat.reduceMul,Nat.reduceLT]
 exact eq10_l10 fun _ => l10_zero
theorem shV0_ok (b : Int) (n c : Nat) (l : List Int) (S : LS) (hl : l.length = n * 2) (hP : errP b n l = 0) (hne : S.no = false→eq10 S.st empI = false) : shV0 b n c l S := by
 have hn : n≤1000000 := by have := (errP_cases hP).1; omega
 have fo : Flat (List.map (Value.int .i64) l)∧okL (.view (List.map (Value.int .i64) l) n false) := ⟨flat_ints,okL_ints hl hn⟩
 unfold shV0 shV0_s14 shV0_s13 shV0_s12 shV0_s11 shV0_s10 shV0_s9 shV0_s8 shV0_s7 shV0_s6 shV0_s5 shV0_s4 shV0_s3 shV0_s2 shV0_s1 shV0_s0
 simp only [SS,reduceCtorEq,Arg.list,Arg.num,Arg.flag,intOf,andP,Nat.reduceLeDiff,Nat.reduceAdd,Nat.reduceMul,Nat.reduceLT,errT,ckAsk,CK.ask,pl_fold,tw_fold,nb1_1,nb1_2,nb1_3,nb1_4,nb1_5,nb1_6,nb1_7,nb1_8,nb1_9,nb1_10,nb3_3,nb3_4,nb3_5,nb3_6,nb3_7,nb3_8,nb3_9,nb3_10,nb3_11,nb3_12,cond_true,cond_false,tmd_step,getI_2b,intAt_2b,mxL_zero,mxL_fold]
 refine ⟨fo,fun h1 => absurd hP h1,fun h1 => ?_⟩
 obtain ⟨⟨n1,n2⟩,hr,ho⟩ := errP_cases hP
 refine ⟨⟨0,by omega,⟨rfl,tmd_zero⟩,rfl⟩,fun x hx => ⟨fun h2 => ?_,fun h2 => ?_⟩⟩
 · have hx10 : x < 10 := by omega
   refine ⟨by omega,by omega,by omega,B10_at hx10,fun h3 => ⟨rfl,x + 1,by omega,by omega,⟨?_,rfl⟩,wrap_succ (n := n) (by omega) hn⟩,fun h3 => ⟨x + 1,by omega,by omega,⟨?_,rfl⟩,wrap_succ (n := n) (by omega) hn⟩⟩
   · rw [lg,if_pos h3]; exact wrap_succ (n := n) (by omega) hn
   · rw [lg,if_neg h3]
 have ex : x = n := by omega
 subst ex
 refine ⟨⟨rfl,rfl⟩,fun h => ?_,fun h => ⟨fun h3 => ?_,fun h3 => ?_⟩⟩
 · rw [h]; rfl
 · rw [eq10_l10 (y := empI) (fun _ => rfl),hne h] at h3; cases h3
 · rw [h]; rfl
theorem nnE_ok : VOk Try.prog nnE := ⟨CtOk.none,E0_ok.cc,E0_ok.yc,orcOr_ok orcA10_ok prE1_ok.orc⟩
theorem nnV_call (n : Nat) (st : Nat→Int) : Call Try.prog 103 [.agg (newS 0 n :: I10 st []).toArray] [.gone] fun v H' => v = .bool (eq10 st empI)∧H' = [.gone] :=
 Call.ofVcR (H := [.gone]) (args := [.agg (newS 0 n :: I10 st []).toArray]) nnE_ok mixed (c := nnB) Try.func103 (by kernel_rfl) (cast (congrFun (congrFun nnV_eq n) st) (nnV_ok n st))
theorem nnN_call (st : Nat→Int) : Call Try.prog 103 [.agg (nilS :: I10 st []).toArray] [] fun v H' => v = .bool (eq10 st empI)∧H' = [] :=
 Call.ofVcR (H := []) (args := [.agg (nilS :: I10 st []).toArray]) nnE_ok mixed (c := nnB) Try.func103 (by kernel_rfl) (cast (congrFun nnN_eq st) (nnN_ok st))
theorem nn_ok : ∀ args H φ v H' l,nnCt args H = some (φ,v,H',l)→Asks φ→Call Try.prog 103 args H (fun v' H2 => v' = v∧H2 = H')∧Kept H H' l := by
 intro args H φ v H' l h _
 unfold nnCt at h
 split at h <;> try (cases h; done)
 rename_i sl a0 a1 a2 a3 a4 a5 a6 a7 a8 a9
 split at h <;> cases h
 · exact ⟨nil_any (cs := I10 (l10 a0 a1 a2 a3 a4 a5 a6 a7 a8 a9) []) rfl rfl (nnN_call (l10 a0 a1 a2 a3 a4 a5 a6 a7 a8 a9)),Kept.refl _ _⟩
 · exact ⟨slot_any (cs := I10 (l10 a0 a1 a2 a3 a4 a5 a6 a7 a8 a9) []) rfl rfl (nnV_call _ (l10 a0 a1 a2 a3 a4 a5 a6 a7 a8 a9)) _,Kept.refl _ _⟩
theorem B6_at {σ : Nat→Nat} {b : Int} {n c f : Nat} {l : List Int} (h0 : σ 0 = 0) : (B6 b n c f l).map (omap σ) = [ros l,.rw (walkC b n c f (tmd n)) none,.rw [ptr0 (σ 1)] none,.rw [.func (.func 123) #[] #[ptr0 (σ 2)]] none,.rw [.func (.func 61) #[ptr0 (σ 1)] #[]] none,.gone] := by
 unfold B6
 simp only [List.map_cons,List.map_nil,ros_omap,walk_omap h0]
 have e2 : omap σ (AObj.rw [ptr0 1] none) = .rw [ptr0 (σ 1)] none := rfl
 have e3 : omap σ (AObj.rw [tripsF] none) = .rw [.func (.func 123) #[] #[ptr0 (σ 2)]] none := by simp [omap,tripsF,nmap1,nmapFn,nmap0,am]
 have e4 : omap σ (AObj.rw [Value.func (.func 61) #[ptr0 1] #[]] none) = .rw [Value.func (.func 61) #[ptr0 (σ 1)] #[]] none := by simp [omap,nmap1,nmapFn,nmapA,nmap0,am]
 rw [e2,e3,e4]; rfl
theorem B6_nm {b : Int} {n c f : Nat} {l : List Int} : ∀ o ∈ B6 b n c f l,o.nm tt' = true := by
 refine List.all_eq_true.1 ?_
 unfold B6
 simp only [List.all_cons,List.all_nil,ros_nm,Bool.and_true,Bool.true_and]
 kernel_rfl
theorem least_at {b : Int} {n c f w x a i : Nat} {l : List Int} {H : Heap} (hl : l.length = n * 2) (hn : n≤10) (hr : rngP b n l) (hn1 : 1≤n) (hf : f≤n) (hnd : nodupB [0,w,x,a,i,1] = true)
   (h0 : H[0]? = some (ros l)) (hw : H[w]? = some (.rw (walkC b n c f (tmd n)) none)) (hx : H[x]? = some (.rw [ptr0 w] none)) (ha : H[a]? = some (.rw [.func (.func 123) #[] #[ptr0 x]] none)) (hi : H[i]? = some (.rw [.func (.func 61) #[ptr0 w] #[]] none)) (h1 : 1 < H.length) :
   Call Try.prog 102 [.func (.func 122) #[] #[ptr0 a,ptr0 i],lnF] H fun v H' => v = .agg (slotV (shL b n f l).no H.length n :: I10 (shL b n f l).st []).toArray∧H' = H ++ [.gone] := by
 have lt : ∀ {k : Nat} {o : AObj},H[k]? = some o→k < H.length := fun h => (List.getElem?_eq_some_iff.1 h).1
 have hlt : ∀ y ∈ [0,w,x,a,i,1],y < H.length := fun y hy => by
   simp only [List.mem_cons,List.not_mem_nil,or_false] at hy
   rcases hy with rfl | rfl | rfl | rfl | rfl | rfl
   · exact lt h0
   · exact lt hw
   · exact lt hx
   · exact lt ha
   · exact lt hi
   · exact h1
 have hm1 := B6_at (σ := fun c => [0,w,x,a,i,1].getD c 0) (b := b) (n := n) (c := c) (f := f) (l := l) rfl
 have hm2 := B6_at (σ := nameL [0,w,x,a,i,1] 6 H.length) (b := b) (n := n) (c := c) (f := f) (l := l) rfl
 have hmem : ∀ (c' : Nat) (o : AObj),([ros l,.rw (walkC b n c f (tmd n)) none,.rw [ptr0 w] none,.rw [.func (.func 123) #[] #[ptr0 x]] none,.rw [.func (.func 61) #[ptr0 w] #[]] none,.gone] : Heap)[c']? = some o→o = .gone∨H[[0,w,x,a,i,1].getD c' 0]? = some o := fun c' o hc => by
   rcases c' with _ | _ | _ | _ | _ | _ | c'
   · cases hc; exact .inr h0
   · cases hc; exact .inr hw
   · cases hc; exact .inr hx
   · cases hc; exact .inr ha
   · cases hc; exact .inr hi
   · cases hc; exact .inl rfl
   · simp at hc
 have hso : ∀ o ∈ ([ros l,.rw (walkC b n c f (tmd n)) none,.rw [ptr0 w] none,.rw [.func (.func 123) #[] #[ptr0 x]] none,.rw [.func (.func 61) #[ptr0 w] #[]] none,.gone] : Heap),o.sc H.length = true := fun o ho => by
   have hw' := lt hw
   have hx' := lt hx
   have h0' := lt h0
   simp only [List.mem_cons,List.not_mem_nil,or_false] at ho
   rcases ho with rfl | rfl | rfl | rfl | rfl | rfl
   · exact ros_sc
   · show ((vi b :: sl0 n c :: vi f :: B10 (tmd n) []).all _) = true; simp [sl0,B10,sc1,sc0]; omega
   · simp [AObj.sc,sc1,sc0]; omega
   · simp [AObj.sc,sc1,sc0,scA]; omega
   · simp [AObj.sc,sc1,sc0,scA]; omega
   · rfl
 have := (Call.frameG (H := H) (Et := B6 b n c f l) (Ft := B6 b n c f l) (N := [.gone]) (L := [0,w,x,a,i,1]) (vs := [.func (.func 122) #[] #[ptr0 a,ptr0 i],lnF]) rfl rfl (nodupB_ok hnd) hlt
   (fun c' o hc => by
     have h2 : ((B6 b n c f l).map (omap fun c => [0,w,x,a,i,1].getD c 0))[c']? = some (omap (fun c => [0,w,x,a,i,1].getD c 0) o) := by rw [List.getElem?_map,hc]; rfl
     rw [hm1] at h2
     rcases hmem c' _ h2 with h3 | h3
     · left
       cases o <;> first | rfl | (cases h3; done)
     · exact .inr h3)
   (fun o ho => B6_sc o ho) (by simp [allF,lnF,nmap,nmap2,nmap1,nmapFn,nmap0,am]) (by kernel_rfl) (least_ok b n c f l hl hn hr hn1 hf)
   (fun o ho => by
     show o.nm (fun d => decide (d < 6) || decide (6≤d)) = true
     rw [any_nm rfl]
     rcases List.mem_append.1 ho with h2 | h2
     · exact B6_nm o h2
     · rw [List.mem_singleton.1 h2]; rfl)
   (fun o ho => by rw [List.mem_singleton.1 ho]; rfl)
   (by
     show nm (fun d => decide (d < 6) || decide (6≤d)) _ = true
     rw [any_nm rfl]
     cases (shL b n f l).no with
     | true =>
       show (nilS :: I10 _ []).toArray.all (nm1 tt') = true
       rw [← Array.all_toList]; rfl
     | false => exact agg_nm rfl rfl)
   (fun o ho => by
     rcases List.mem_append.1 ho with h2 | h2
     · have h3 := List.mem_map_of_mem (f := omap (nameL [0,w,x,a,i,1] 6 H.length)) h2
       rw [hm2] at h3
       exact AObj.sc_mono (Nat.le_add_right _ _) (hso _ h3)
     · rw [List.mem_singleton.1 h2]; rfl)
   (by
     rw [agg_slot]
     exact agg_slot_sc (show H.length + (6 - 6) < H.length + 1 by omega))).1
 refine this.mono fun v H' hh => ⟨by rw [hh.1,agg_slot]; rfl,?_⟩
 rw [hh.2]
 congr 1
 refine setG_same _ _ _ _ fun c' b' e o k1 k2 k3 k4 => ?_
 have h2 : (List.map (omap (nameL [0,w,x,a,i,1] 6 H.length)) (B6 b n c f l))[c']? = some o := k4
 rw [hm2] at h2
 rcases hmem c' o h2 with h3 | h3
 · subst h3
   rw [List.getElem?_map,k1,Option.map_some,Option.some.injEq] at k4
   cases e <;> first | (cases k2; done) | (cases k4; done)
 · rwa [natD_of_get k3] at h3
theorem leastCc_ok {b : Int} {n c f : Nat} {l : List Int} (hl : l.length = n * 2) (hn : n≤10) (hr : rngP b n l) (hn1 : 1≤n) (hf : f≤n) : CcOk Try.prog (leastCc b n c f l (shL b n f l)) := by
 intro fn args H T hT Q hQ
 unfold leastCc at hT
 split at hT <;> try (cases hT; done)
 rename_i hfn
 obtain rfl := Nat.eq_of_beq_eq_true hfn
 split at hT <;> try (cases hT; done)
 rename_i a i
 split at hT <;> try (cases hT; done)
 rename_i x ha
 split at hT <;> try (cases hT; done)
 rename_i w hx
 split at hT <;> cases hT
 rename_i hnd
 obtain ⟨hO,q1,q2⟩ := hQ
 obtain ⟨h0,hw,hi,h1⟩ := hO.out
 refine (least_at hl hn hr hn1 hf hnd h0 hw hx ha hi h1).mono fun v H' hh => ?_
 rw [hh.1,hh.2]
 have e := shL_emp (b := b) (n := n) (f := f) (l := l)
 cases hno : (shL b n f l).no with
 | true => rw [e hno]; exact q1 hno
 | false => exact q2 hno
theorem shT_ok : CtOk Try.prog shT := (prT_ok.add len_ok).add nn_ok
theorem shE2_ok {b : Int} {n c : Nat} {l : List Int} (hl : l.length = n * 2) (hP : errP b n l = 0) : VOk Try.prog (shE2 b n c l (shL b n (lg b l n) l)) := by
 obtain ⟨⟨n1,n2⟩,hr,ho⟩ := errP_cases hP
 have h0 : VOk Try.prog shE0 := ⟨prE1_ok.ct,ccIn_ok prE1_ok mixed (inl_two Try.func105 Try.func106),E0_ok.yc,prE1_ok.orc⟩
 have h1 : VOk Try.prog (shE1 b n c l (shL b n (lg b l n) l)) := ⟨shT_ok,ccOr_ok (leastCc_ok hl n2 hr n1 (lg_spec n).1) (ccIn_ok h0 mixed (inl_two Try.func72 Try.func57)),E0_ok.yc,prE1_ok.orc⟩
 exact ⟨shT_ok,ccIn_ok h1 mixed (inl_one Try.func69),E0_ok.yc,prE1_ok.orc⟩
theorem sh_call (b : Int) (n c : Nat) (l : List Int) (hl : l.length = n * 2) (hP : errP b n l = 0) : Call Try.prog 24 [pierV b (some ⟨0,0,none⟩) n c] [ros l] fun v _ => v = shV (shL b n (lefts b n l) l) := by
 obtain ⟨⟨n1,n2⟩,hr,ho⟩ := errP_cases hP
 have h := shV0_ok b n c l (shL b n (lg b l n) l) hl hP (shL_ne n1 (lg_spec n).1 n2 ho)
 rw [shV0_eq] at h
 rw [← lg_lefts ho]
 exact Call.ofVc (H := [ros l]) (args := [pierV b (some ⟨0,0,none⟩) n c]) (shE2_ok (c := c) hl hP) mixed (c := shB) (inv := fun _ => none) (R := fun v _ => v = shV (shL b n (lg b l n) l)) Try.func24 (by kernel_rfl) (cast (by kernel_rfl) h)
noncomputable def specQ (F : Int→Nat→List Int→Value) : List Arg3→Option (Prop × Value)
 | [.agg [.plain (.int .i64 b),.view cs n r]] => some (okL (.view cs n r)∧errP b n (intsOf cs) = 0,F b n (intsOf cs))
 | _ => none
theorem specQ_ok {f : FuncId} {F : Int→Nat→List Int→Value} (hv : ∀ b n l,sc 0 (F b n l) = true)
   (hV : ∀ b n c l,l.length = n * 2→errP b n l = 0→Call Try.prog f [pierV b (some ⟨0,0,none⟩) n c] [ros l] fun v _ => v = F b n l) :
   ∀ args H φ v H' l,pure3 psP (specQ F) args H = some (φ,v,H',l)→Asks φ→Call Try.prog f args H (fun v' H2 => v' = v∧H2 = H')∧Kept H H' l :=
 pure3_ok fun r ψ v hk hs hψ => by
   obtain ⟨b,lf,rfl,hl⟩ := kinds_pier hk
   rcases hl with rfl | ⟨s,rfl⟩ | ⟨cs,n,rfl⟩
   · cases hs
   · cases hs
   · cases hs
     refine ⟨hv _ _ _,fun caps _ => ?_⟩
     obtain ⟨⟨h1,h2,h3⟩,h5⟩ := hψ
     have h4 := hV b n (caps 0) (intsOf cs) (by rw [← h2,intsOf,List.length_map]) h5
     have e : canonH3 [.agg [.plain (.int .i64 b),.view cs n false]] = [ros (intsOf cs)] := by
       show [AObj.ro cs] = [.ro ((intsOf cs).map (.int .i64))]
       rw [← h1]
     rw [e]
     exact h4
noncomputable def shF (b : Int) (n : Nat) (l : List Int) : Value := shV (shL b n (lefts b n l) l)
theorem shG_ok : ∀ args H φ v H' l,pure3 psP (specQ shF) args H = some (φ,v,H',l)→Asks φ→Call Try.prog 24 args H (fun v' H2 => v' = v∧H2 = H')∧Kept H H' l :=
 specQ_ok (fun _ _ _ => by simp [shF,shV,sc,sc2,sc1,sc0]) sh_call
end Go.Pier.Rd
namespace Go.Pier.Rd
open Go Go.Pier Go.Proofs
end Go.Pier.Rd
namespace Go.Pier.Rd
open Go Go.Pier Go.Proofs
end Go.Pier.Rd
namespace Go.Pier.Rd
open Go Go.Pier Go.Proofs
end Go.Pier.Rd
namespace Go.Pier.Rd
open Go Go.Pier Go.Proofs
end Go.Pier.Rd
