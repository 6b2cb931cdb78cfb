import Derived.Test.YtbmdkgoclijgkaaPierKD6
import Derived.KernelRfl
import Derived.Test.YtbmdkgoclijgkaaPierKD5
import Derived.Test.YtbmdkgoclijgkaaPierKD4
set_option linter.unusedSimpArgs false
set_option linter.unusedVariables false
set_option maxRecDepth 100000
namespace Go.Pier.Rd
open Go Go.Pier Go.Proofs
noncomputable def coB : Code := Try.f28.body.getD .skip
noncomputable def g1C (b : Int) (n c f : Nat) (l : List Int) (K : Int) : Ct := fun fn args H => match Nat.beq fn 134 with
 | true => some (some (args = [ptr0 3,nilS,vi f,vi f,yv 13]∧H = EHC b n c f l 0),.bool true,EHC b n c f l K,[4])
 | false => none
noncomputable def co1E (b : Int) (n c f : Nat) (l : List Int) (K : Int) : VEnv := { ct := g1C b n c f l K,orc := prO }
noncomputable def co2E (b : Int) (n c f : Nat) (l : List Int) (K : Int) : VEnv := { orc := prO,cc := ccIn Try.prog (co1E b n c f l K) [⟨133,Try.f133,fun _ _ _ => none⟩,⟨124,Try.f124,fun _ _ _ => none⟩] }
noncomputable def co3E (b : Int) (n c f : Nat) (l : List Int) (K : Int) : VEnv := { orc := prO,cc := ccIn Try.prog (co2E b n c f l K) [⟨123,Try.f123,fun _ _ _ => none⟩] }
noncomputable def co4E (b : Int) (n c : Nat) (l : List Int) (K : Int) : VEnv := { ct := prT,orc := prO,cc := ccOr (ccIn Try.prog (co3E b n c (lg b l n) l K) [⟨122,Try.f122,fun _ _ _ => none⟩]) (ccIn Try.prog shE0 [⟨72,Try.f72,fun _ _ _ => none⟩,⟨57,Try.f57,inv57 b n c l⟩]) }
noncomputable def coV0  (x:Nat) := (0+3+(x:Int).toNat * 1)
noncomputable def coV1 (b:Int) (n:Nat) (c:Nat) (l:List Int) (x:Nat):List Value := [vi b,Value.slice (some (ad0 0)) n c,vi (↑(lg b l x):Int),Value.bool (bif Nat.beq 3 (coV0 x) then true else tmd x 0),Value.bool (bif Nat.beq 4 (coV0 x) then true else tmd x 1),Value.bool (bif Nat.beq 5 (coV0 x) then true else tmd x 2),Value.bool (bif Nat.beq 6 (coV0 x) then true else tmd x 3),Value.bool (bif Nat.beq 7 (coV0 x) then true else tmd x 4),Value.bool (bif Nat.beq 8 (coV0 x) then true else tmd x 5),Value.bool (bif Nat.beq 9 (coV0 x) then true else tmd x 6),Value.bool (bif Nat.beq 10 (coV0 x) then true else tmd x 7),Value.bool (bif Nat.beq 11 (coV0 x) then true else tmd x 8),Value.bool (bif Nat.beq 12 (coV0 x) then true else tmd x 9)]
noncomputable def coV2 (l:List Int) := (List.map (Value.int IntKind.i64) l)
noncomputable def coV3 (b:Int) (n:Nat) (c:Nat):Prop := (AObj.rw [vi b,Value.slice (some (ad0 0)) n c] none=AObj.rw [vi b,Value.slice (some (ad0 0)) n c] none∧true=true)
noncomputable def coV4 (b:Int) (n:Nat) (c:Nat) (l:List Int) (x:Nat) := (vi b::Value.slice (some (ad0 0)) n c::vi (↑(lg b l x):Int)::B10 (tmd x) [])
noncomputable def coV5  : Prop := (Value.pointer (some { block := (2 : Nat) + (1 : Nat),off := (0 : Nat),spot := none }) = Value.pointer (some { block := (2 : Nat) + (1 : Nat),off := (0 : Nat),spot := none }))
noncomputable def coV6  : List Value := [Value.pointer (some { block := (2 : Nat) + (1 : Nat),off := (0 : Nat),spot := none })]
noncomputable def coV7 (b:Int) (n:Nat) (c:Nat):List Value := [vi b,Value.slice (some (ad0 0)) n c]
noncomputable def coV8  (x:Nat) := (0+(x:Int).toNat * 2)
noncomputable def coV9 (b:Int) (n:Nat) (c:Nat) (l:List Int) (y:Nat) := (vi b::Value.slice (some (ad0 0)) n c::vi (↑(lg b l y):Int)::B10 (tmd y) [])
noncomputable def coV10 (n:Nat) (c:Nat):Prop := (Value.slice (some (ad0 0)) n c=Value.slice (some (ad0 0)) n c)
noncomputable def coV11  : Array Value := { toList := [ptr0 3,vi (0 : Int)] }
noncomputable def coV12 (K:Int):Array Value := ⟨[vi K,vi (0:Int)]⟩
noncomputable def coV13  : List Value := [Value.func (Fn.yield (10 : Nat)) { toList := [] } { toList := [] }]
noncomputable def coV14  : List Value := [Value.func (Fn.yield (8 : Nat)) { toList := [] } { toList := [] }]
noncomputable def coV15  := ((0 : Nat) + (2 : Nat))
noncomputable def coV :=
fun (b:Int) (n c:Nat) (l:List Int) (K:Int)↦Ob ((true=true∧Flat (coV2 l))∧okL (Leaf.view (coV2 l) n false))∧((errP b n (intsOf (coV2 l)) !=(0:Int))=true→((errP b n (intsOf (coV2 l)) !=(0:Int))=true→True∧Ob (Value.tuple ⟨[vi (0:Int),vi (errP b n (intsOf (coV2 l)))]⟩=Value.tuple (coV12 K)))∧((errP b n (intsOf (coV2 l)) !=(0:Int))=false→Ob (some (vi (0:Int))=some (vi (0:Int))∧some 1=some 1)∧False))∧((errP b n (intsOf (coV2 l)) !=(0:Int))=false→(∃ (y:Nat),Ob (y≤n)∧(Ob (AObj.ro (coV2 l)=AObj.ro (List.map (nmap1 fun (bq:Nat)↦bq) (coV2 l))∧AObj.sc 4 (AObj.ro (coV2 l))=true)∧Ob (coV3 b n c)∧Ob (coV3 b n c)∧Ob (AObj.rw (vi b::Value.slice (some (ad0 0)) n c::vi (0:Int)::B10 empB []) none=AObj.rw (coV9 b n c l y) none∧true=true)∧True)∧Ob (ptr0 3=ptr0 3)∧Ob (coV10 n c)∧Ob ((n:Int)=(n:Int))∧Ob ((0:Int)=(y:Int))∧True)∧∀ (x:Nat),Ob (x≤n)→(decide ((x:Int)<(n:Int))=true→Ob ((0:Int)≤(x:Int)∧(x:Int)<(n:Int)∧true=true)∧Ob (ckAsk [CK.i IntKind.i64,CK.i IntKind.i64] (coV2 l) (coV8 x))∧Ob (0+2≤2)∧Ob ((0:Int)≤(x:Int)∧(x:Int)<(↑(10:Nat):Int))∧Ob (BoolAt (coV4 b n c l x) (coV0 x)∧some 1=some 1)∧Ob (some (vi (getI (coV2 l) (coV8 x)))=some (vi (getI (coV2 l) (coV8 x))))∧Ob (some (vi b)=some (vi b))∧(decide (getI (coV2 l) (coV8 x)<b)=true→Ob (IntAt IntKind.i64 (coV1 b n c l x) coV15∧some 1=some 1)∧∃ (y:Nat),Ob (y≤n)∧Ob (n-y<n-x)∧(Ob (AObj.ro (coV2 l)=AObj.ro (List.map (nmap1 fun (bqq:Nat)↦bqq) (coV2 l))∧AObj.sc 4 (AObj.ro (coV2 l))=true)∧Ob (coV3 b n c)∧Ob (coV3 b n c)∧Ob (AObj.rw [vi (bif false then IntKind.i64.wrap ((x:Int)+(1:Int)) else b),Value.slice (some (ad0 0)) n c,vi (bif true then IntKind.i64.wrap ((x:Int)+(1:Int)) else (↑(lg b l x):Int)),Value.bool (bif Nat.beq 3 (coV0 x) then true else tmd x 0),Value.bool (bif Nat.beq 4 (coV0 x) then true else tmd x 1),Value.bool (bif Nat.beq 5 (coV0 x) then true else tmd x 2),Value.bool (bif Nat.beq 6 (coV0 x) then true else tmd x 3),Value.bool (bif Nat.beq 7 (coV0 x) then true else tmd x 4),Value.bool (bif Nat.beq 8 (coV0 x) then true else tmd x 5),Value.bool (bif Nat.beq 9 (coV0 x) then true else tmd x 6),Value.bool (bif Nat.beq 10 (coV0 x) then true else tmd x 7),Value.bool (bif Nat.beq 11 (coV0 x) then true else tmd x 8),Value.bool (bif Nat.beq 12 (coV0 x) then true else tmd x 9)] none=AObj.rw (coV9 b n c l y) none∧true=true)∧True)∧Ob coV5∧Ob (coV10 n c)∧Ob ((n:Int)=(n:Int))∧Ob (IntKind.i64.wrap ((x:Int)+(1:Int))=(y:Int))∧True)∧(decide (getI (coV2 l) (coV8 x)<b)=false→∃ (y:Nat),Ob (y≤n)∧Ob (n-y<n-x)∧(Ob (AObj.ro (coV2 l)=AObj.ro (List.map (nmap1 fun (bqqq:Nat)↦bqqq) (coV2 l))∧AObj.sc 4 (AObj.ro (coV2 l))=true)∧Ob (coV3 b n c)∧Ob (coV3 b n c)∧Ob (AObj.rw (coV1 b n c l x) none=AObj.rw (coV9 b n c l y) none∧true=true)∧True)∧Ob coV5∧Ob (coV10 n c)∧Ob ((n:Int)=(n:Int))∧Ob (IntKind.i64.wrap ((x:Int)+(1:Int))=(y:Int))∧True))∧(decide ((x:Int)<(n:Int))=false→(false=true→True∧Ob (Value.tuple ⟨[vi (0:Int),vi (0:Int)]⟩=Value.tuple (coV12 K)))∧(false=false→Ob (some (vi (0:Int))=some (vi (0:Int))∧some 1=some 1)∧Ob (IntAt IntKind.i64 (coV4 b n c l x) coV15)∧Ob (IntAt IntKind.i64 (coV4 b n c l x) coV15)∧Ob ([Value.pointer (some ⟨2+1,0,none⟩),Value.slice none 0 0,vi (getI (coV4 b n c l x) coV15),vi (getI (coV4 b n c l x) coV15),Value.func (Fn.yield 13) ⟨[]⟩ ⟨[]⟩]=[ptr0 3,Value.slice none 0 0,vi (↑(lg b l n):Int),vi (↑(lg b l n):Int),Value.func (Fn.yield 13) ⟨[]⟩ ⟨[]⟩]∧[AObj.ro (coV2 l),AObj.rw (coV7 b n c) none,AObj.rw (coV7 b n c) none,AObj.rw (coV4 b n c l x) none,AObj.rw [vi (bif true then (0:Int) else (0:Int))] none,AObj.rw coV6 none,AObj.rw [Value.func (Fn.func 123) ⟨[]⟩ ⟨[ptr0 5]⟩] none,AObj.rw [Value.func (Fn.func 61) { toList := coV6 } ⟨[]⟩] none,AObj.loop LoopState.ready none ⟨[Value.agg { toList := (coV7 b n c) },ptr0 1,vi (0:Int),vi (0:Int),ptr0 3,vi (0:Int),ptr0 4,Value.tuple coV11,Value.agg { toList := (coV7 b n c) },Value.tuple coV11,ptr0 3,vi (0:Int),vi (0:Int),Value.bool false,junk,ptr0 3,Value.func (Fn.func 122) ⟨[]⟩ ⟨[ptr0 6,ptr0 7]⟩,junk,junk,junk,junk]⟩ ⟨[17]⟩ Code.skip y1c_c0,AObj.rw coV14 none,AObj.loop LoopState.ready none ⟨[Value.func (Fn.yield 8) ⟨[]⟩ ⟨[]⟩,ptr0 6,ptr0 7,ptr0 9,junk,Value.func (Fn.func 123) ⟨[]⟩ ⟨[ptr0 5]⟩,junk,junk,junk,junk,junk,junk,junk,junk,junk,junk]⟩ ⟨[6]⟩ y1c_c1 y1c_c2,AObj.rw coV13 none,AObj.rw coV6 none,AObj.loop LoopState.ready none ⟨[Value.func (Fn.yield 10) ⟨[]⟩ ⟨[]⟩,ptr0 5,ptr0 11,junk,ptr0 3,Value.func (Fn.func 133) ⟨[]⟩ ⟨[ptr0 12]⟩,junk,junk,junk,junk,junk,junk,junk]⟩ ⟨[6]⟩ y1d_c2 y1d_c3]=[AObj.ro (coV2 l),AObj.rw (coV7 b n c) none,AObj.rw (coV7 b n c) none,AObj.rw (vi b::Value.slice (some (ad0 0)) n c::vi (↑(lg b l n):Int)::B10 (tmd n) []) none,AObj.rw [vi (0:Int)] none,AObj.rw [ptr0 3] none,AObj.rw [Value.func (Fn.func (123:FuncId)) ⟨[]⟩ ⟨[ptr0 5]⟩] none,AObj.rw [Value.func (Fn.func (61:FuncId)) ⟨[ptr0 3]⟩ ⟨[]⟩] none,AObj.loop LoopState.ready none ⟨[Value.agg { toList := (coV7 b n c) },ptr0 1,vi (0:Int),vi (0:Int),ptr0 3,vi (0:Int),ptr0 4,Value.tuple coV11,Value.agg { toList := (coV7 b n c) },Value.tuple coV11,ptr0 3,vi (0:Int),vi (0:Int),Value.bool false,junk,ptr0 3,Value.func (Fn.func (122:FuncId)) ⟨[]⟩ ⟨[ptr0 6,ptr0 7]⟩,junk,junk,junk,junk]⟩ ⟨[17]⟩ Code.skip y1c_c0,AObj.rw coV14 none,AObj.loop LoopState.ready none ⟨[Value.func (Fn.yield 8) ⟨[]⟩ ⟨[]⟩,ptr0 6,ptr0 7,ptr0 9,junk,Value.func (Fn.func (123:FuncId)) ⟨[]⟩ ⟨[ptr0 5]⟩,junk,junk,junk,junk,junk,junk,junk,junk,junk,junk]⟩ ⟨[6]⟩ y1c_c1 y1c_c2,AObj.rw coV13 none,AObj.rw [ptr0 3] none,AObj.loop LoopState.ready none ⟨[Value.func (Fn.yield 10) ⟨[]⟩ ⟨[]⟩,ptr0 5,ptr0 11,junk,ptr0 3,Value.func (Fn.func (133:FuncId)) ⟨[]⟩ ⟨[ptr0 12]⟩,junk,junk,junk,junk,junk,junk,junk]⟩ ⟨[6]⟩ y1d_c2 y1d_c3])∧Ob (some (vi K)=some (vi K))∧True∧Ob (Value.tuple (coV12 K)=Value.tuple (coV12 K)))))
theorem coV_eq : coV = fun (b : Int) (n c : Nat) (l : List Int) (K : Int) => vc Try.prog (co4E b n c l K) 1 21 true (fun _ => none) coB [] (argFr 0 [pierV b (some ⟨0,0,none⟩) n c]) [ros l] (retK Try.prog Try.f28 (fun v _ => v = .tuple #[vi K,vi 0])) := by kernel_rfl
theorem coV_ok (b : Int) (n c : Nat) (l : List Int) (K : Int) (hl : l.length = n * 2) (hP : errP b n l = 0) : coV b n c l K := by
 have hn : n≤1000000 := by have := (errP_cases hP).1; omega
 have fo : Flat (List.map (Value.int .i64) l)∧okL (.view (List.map (Value.int .i64) l) n false) := ⟨flat_ints,okL_ints hl hn⟩
 unfold coV coV15 coV14 coV13 coV12 coV11 coV10 coV9 coV8 coV7 coV6 coV5 coV4 coV3 coV2 coV1 coV0
 simp only [SS,reduceCtorEq,Arg.list,Arg.num,Arg.flag,intOf,andP,Nat.reduceLeDiff,Nat.reduceAdd,Nat.reduceMul,Nat.reduceLT,errT,ckAsk,CK.ask,pl_fold,tw_fold,nb1_1,nb1_2,nb1_3,nb1_4,nb1_5,nb1_6,nb1_7,nb1_8,nb1_9,nb1_10,nb3_3,nb3_4,nb3_5,nb3_6,nb3_7,nb3_8,nb3_9,nb3_10,nb3_11,nb3_12,cond_true,cond_false,tmd_step,getI_2b,intAt_2b]
 refine ⟨fo,fun h1 => absurd hP h1,fun h1 => ?_⟩
 obtain ⟨⟨n1,n2⟩,hr,ho⟩ := errP_cases hP
 refine ⟨⟨0,by omega,⟨rfl,tmd_zero⟩,rfl⟩,fun x hx => ⟨fun h2 => ?_,fun h2 => ?_⟩⟩
 · have hx10 : x < 10 := by omega
   refine ⟨by omega,by omega,by omega,B10_at hx10,fun h3 => ⟨rfl,x + 1,by omega,by omega,⟨?_,rfl⟩,wrap_succ (n := n) (by omega) hn⟩,fun h3 => ⟨x + 1,by omega,by omega,⟨?_,rfl⟩,wrap_succ (n := n) (by omega) hn⟩⟩
   · rw [lg,if_pos h3]; exact wrap_succ (n := n) (by omega) hn
   · rw [lg,if_neg h3]
 have ex : x = n := by omega
 subst ex
 exact ⟨rfl,rfl,⟨rfl,rfl⟩,rfl,rfl⟩
noncomputable def cntF (b : Int) (n : Nat) (l : List Int) : Int := fdC b n l 0 (rds n n (lefts b n l) (lefts b n l) [])
theorem g1C_ok (b : Int) (n c f : Nat) (l : List Int) (hl : l.length = n * 2) (hn : n≤10) (hr : rngP b n l) (hn1 : 1≤n) (hf : f≤n) : CtOk Try.prog (g1C b n c f l (fdC b n l 0 (rds n n f f []))) := by
 intro fn args H φ v H' lg h hφ
 unfold g1C at h
 split at h <;> cases h
 rename_i hb
 obtain rfl := Nat.eq_of_beq_eq_true hb
 obtain ⟨rfl,rfl⟩ := hφ
 refine ⟨grow0C_ok b n c f l hl hn hr 0 n f hn1 hf (by omega),Nat.le_refl _,fun b1 h4 h5 => ?_⟩
 have h8 : b1 ≠ 4 := fun e => h5 (by subst e; simp)
 have h14 : b1 < 14 := h4
 unfold EHC EHc
 rcases b1 with _ | _ | _ | _ | _ | _ | _ | _ | _ | _ | _ | _ | _ | _ | b1 <;> first | rfl | omega
theorem co4E_ok {b : Int} {n c : Nat} {l : List Int} (hl : l.length = n * 2) (hP : errP b n l = 0) : VOk Try.prog (co4E b n c l (fdC b n l 0 (rds n n (lg b l n) (lg b l n) []))) := by
 obtain ⟨⟨n1,n2⟩,hr,ho⟩ := errP_cases hP
 have h0 : VOk Try.prog shE0 := ⟨prE1_ok.ct,ccIn_ok prE1_ok mixed (inl_two Try.func105 Try.func106),E0_ok.yc,prE1_ok.orc⟩
 have h1 : VOk Try.prog (co1E b n c (lg b l n) l (fdC b n l 0 (rds n n (lg b l n) (lg b l n) []))) := ⟨g1C_ok b n c (lg b l n) l hl n2 hr n1 (lg_spec n).1,E0_ok.cc,E0_ok.yc,prE1_ok.orc⟩
 have h2 : VOk Try.prog (co2E b n c (lg b l n) l (fdC b n l 0 (rds n n (lg b l n) (lg b l n) []))) := ⟨CtOk.none,ccIn_ok h1 mixed (inl_two Try.func133 Try.func124),E0_ok.yc,prE1_ok.orc⟩
 have h3 : VOk Try.prog (co3E b n c (lg b l n) l (fdC b n l 0 (rds n n (lg b l n) (lg b l n) []))) := ⟨CtOk.none,ccIn_ok h2 mixed (inl_one Try.func123),E0_ok.yc,prE1_ok.orc⟩
 exact ⟨prT_ok,ccOr_ok (ccIn_ok h3 mixed (inl_one Try.func122)) (ccIn_ok h0 mixed (inl_two Try.func72 Try.func57)),E0_ok.yc,prE1_ok.orc⟩
theorem co_call (b : Int) (n c : Nat) (l : List Int) (hl : l.length = n * 2) (hP : errP b n l = 0) : Call Try.prog 28 [pierV b (some ⟨0,0,none⟩) n c] [ros l] fun v _ => v = .tuple #[vi (cntF b n l),vi 0] := by
 obtain ⟨⟨n1,n2⟩,hr,ho⟩ := errP_cases hP
 have h := coV_ok b n c l (fdC b n l 0 (rds n n (lg b l n) (lg b l n) [])) hl hP
 rw [coV_eq] at h
 unfold cntF
 rw [← lg_lefts ho]
 exact Call.ofVc (H := [ros l]) (args := [pierV b (some ⟨0,0,none⟩) n c]) (co4E_ok (c := c) hl hP) mixed (c := coB) (inv := fun _ => none) (R := fun v _ => v = .tuple #[vi (fdC b n l 0 (rds n n (lg b l n) (lg b l n) [])),vi 0]) Try.func28 (by kernel_rfl) (cast (by kernel_rfl) h)
theorem coG_ok : ∀ args H φ v H' l,pure3 psP (specQ fun b n l => .tuple #[vi (cntF b n l),vi 0]) args H = some (φ,v,H',l)→Asks φ→Call Try.prog 28 args H (fun v' H2 => v' = v∧H2 = H')∧Kept H H' l :=
 specQ_ok (fun _ _ _ => by simp [sc,sc2,sc1,sc0]) co_call
end Go.Pier.Rd
namespace Go.Pier.Rd
open Go Go.Pier Go.Proofs
end Go.Pier.Rd
namespace Go.Pier.Rd
open Go Go.Pier Go.Proofs
end Go.Pier.Rd
namespace Go.Pier.Rd
open Go Go.Pier Go.Proofs
end Go.Pier.Rd
namespace Go.Pier.Rd
open Go Go.Pier Go.Proofs
end Go.Pier.Rd
namespace Go.Pier.Rd
open Go Go.Pier Go.Proofs
end Go.Pier.Rd
