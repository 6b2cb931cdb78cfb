import Derived.Test.YtinkmgacaoohnaaPierMO2
import Derived.KernelRfl
import Derived.Test.YtinkmgacaoohnaaPierW
set_option linter.unusedSimpArgs false
set_option linter.unusedVariables false
namespace Go.Pier
open Go
variable {P : Program} {H H' : Heap} {K : Type} [DecidableEq K] {g : K→Prop} {kv : K→Value} {uk : Value→K}
def orcMap (P : Program) (kv : K→Value) (uk : Value→K) (tn : Nat) : Orc := fun env H o => match o.op with
 | .lookup t x i ok => match ok,env x,env i with
   | false,some (.map (some m)),some k => match H[m]? with
     | some (.map es _) => some (aLookup P H t (.map (some m)) k false = some (.int .i64 (lookL (un uk es) (uk k))),some (.int .i64 (lookL (un uk es) (uk k))),H)
     | _ => none
   | _,_,_ => none
 | .mapEntry t x i => match env x,env i with
   | some (.map (some m)),some k => match H[m]? with
     | some (.map es c) => some (aMapEntry P H t (.map (some m)) k = some (.tuple #[.int .i64 (lookL (un uk es) (uk k)), .int .i64 (slotL (un uk es) (uk k) c)], H.set m (.map (ent kv (touchL (un uk es) (uk k) c)) (touchC (un uk es) (uk k) c))),
         some (.tuple #[.int .i64 (lookL (un uk es) (uk k)),.int .i64 (slotL (un uk es) (uk k) c)]),H.set m (.map (ent kv (touchL (un uk es) (uk k) c)) (touchC (un uk es) (uk k) c)))
     | _ => none
   | _,_ => none
 | .entryStore _ x s v => match env x,env s,env v with
   | some (.map (some m)),some (.int .i64 n),some (.int .i64 d) => match H[m]? with
     | some (.map es c) => some (aEntryStore H (.map (some m)) (.int .i64 n) (.int .i64 d) = some (H.set m (.map (ent kv (storeL (un uk es) n.toNat d)) c)),none,H.set m (.map (ent kv (storeL (un uk es) n.toNat d)) c))
     | _ => none
   | _,_,_ => none
 | .entry x => match env x,env (.tmp tn) with
   | some it,some (.tuple vs) => match vs.toList with
     | [_,k,v] => some (aEntry H it = some (.tuple #[k,v]),some (.tuple #[k,v]),H)
     | _ => none
   | _,_ => none
 | .call c => match c.callee with
   | .builtin .delete => match envs env c.args.toList with
     | some [.map (some m),k] => match H[m]? with
       | some (.map es cl) => some (aDelete P H c.argTypes (.map (some m)) k = some (H.set m (.map (ent kv (delL (un uk es) (uk k))) cl)),some (.tuple #[]),H.set m (.map (ent kv (delL (un uk es) (uk k))) cl))
       | _ => none
     | _ => none
   | _ => none
 | _ => none
theorem orcMap_ok {tn : Nat} : OrcOk P (orcMap P kv uk tn) := fun env H o φ v H' h hφ => by
 unfold orcMap at h
 split at h <;> try (cases h; done)
 · rename_i t x i ok hop
   split at h <;> try (cases h; done)
   rename_i m k hx hi
   split at h <;> cases h
   unfold evOp
   rw [hop]
   simp only [hx,hi,show aLookup P H t (.map (some m)) k false = _ from hφ,Option.map_some,outOf]
 · rename_i t x i hop
   split at h <;> try (cases h; done)
   rename_i m k hx hi
   split at h <;> cases h
   unfold evOp
   rw [hop]
   simp only [hx,hi,show aMapEntry P H t (.map (some m)) k = _ from hφ,Option.map_some,outOf]
 · rename_i t x s vv hop
   split at h <;> try (cases h; done)
   rename_i m n d hx hs hv
   split at h <;> cases h
   unfold evOp
   rw [hop]
   simp only [hx,hs,hv,show aEntryStore H (.map (some m)) (.int .i64 n) (.int .i64 d) = _ from hφ,Option.map_some,outOf]
 · rename_i x hop
   split at h <;> try (cases h; done)
   rename_i it vs hx ht
   split at h <;> cases h
   unfold evOp
   rw [hop]
   simp only [hx,Option.bind_some,show aEntry H it = _ from hφ,Option.map_some,outOf]
 · rename_i c hop
   split at h <;> try (cases h; done)
   rename_i hcal
   split at h <;> try (cases h; done)
   rename_i m k hargs
   split at h <;> cases h
   unfold evOp
   rw [hop]
   simp only [evCall,hargs,Option.bind_some,hcal,evBuiltin,show aDelete P H c.argTypes (.map (some m)) k = _ from hφ,Option.map_some,outOf]
def doneS (H : Heap) (L : List (Ent K)) (sl : List Nat) : NShape := ⟨Unit,fun _ => ∀ x ∈ L,x.2.2 ∈ sl,fun _ => .tuple #[.bool false],fun _ => H,some false⟩
def moreS (kv : K→Value) (H : Heap) (a m s : Nat) (L : List (Ent K)) (sl : List Nat) (c : Nat) : NShape :=
 ⟨Ent K,fun x => x ∈ L∧x.2.2 ∉ sl,fun x => .tuple #[.bool true,kv x.1,.int .i64 x.2.1],fun x => H.set a (.iter m s (sl ++ [x.2.2]).toArray c),some true⟩
def nxMap (kv : K→Value) (uk : Value→K) : Heap→Value→List NShape := fun H v => match v with
 | .pointer (some a) => match H[a.block]? with
   | some (.iter m s seen c) => match H[m]? with
     | some (.map es _) => [doneS H (un uk es) seen.toList,moreS kv H a.block m s (un uk es) seen.toList c]
     | _ => []
   | _ => []
 | _ => []
omit [DecidableEq K] in
theorem next_ok {a m c : Nat} {sl : List Nat} {L : List (Ent K)} (hw : WF g L c) (hi : H[a]? = some (.iter m c sl.toArray c)) (hm : H[m]? = some (.map (ent kv L) c)) :
   NextOk H (.pointer (some ⟨a,0,none⟩)) [doneS H L sl,moreS kv H a m c L sl c] := by
 unfold NextOk aNext
 simp only [if_true,hi,hm]
 rw [if_neg]
 · refine ⟨_,rfl,fun p hp => ?_⟩
   obtain ⟨q,hq,rfl⟩ := List.mem_map.1 hp
   unfold candList at hq
   simp only at hq
   rcases List.mem_append.1 hq with h | h
   · split at h
     · rename_i he
       rw [List.mem_singleton.1 h]
       refine ⟨doneS H L sl,List.mem_cons_self,(),fun x hx => ?_,rfl⟩
       rw [List.isEmpty_iff,List.filter_eq_nil_iff] at he
       have h1 := hw.old x hx
       have h2 := he (mkE kv x)
       by_cases hs : x.2.2 ∈ sl
       · exact hs
       · exact absurd (decide_eq_true (p := (mkE kv x).born < c) h1) (h2 (List.mem_filter.2 ⟨List.mem_map_of_mem hx,by simp [mkE,hs]⟩))
     · cases h
   · obtain ⟨e,he,rfl⟩ := List.mem_map.1 h
     have he' : e ∈ (ent kv L).filter fun e => !sl.toArray.contains e.born := by
       rcases List.mem_append.1 he with h1 | h1
       · exact (List.mem_filter.1 h1).1
       · exact (List.mem_filter.1 h1).1
     obtain ⟨h1,h2⟩ := List.mem_filter.1 he'
     obtain ⟨x,hx,rfl⟩ := List.mem_map.1 h1
     refine ⟨moreS kv H a m c L sl c,List.mem_cons_of_mem _ List.mem_cons_self,x,⟨hx,by simpa [mkE] using h2⟩,?_⟩
     simp [moreS,mkE]
 · simp only [Bool.and_eq_true,not_and,Bool.not_eq_true]
   intro ⟨_,hne⟩
   cases L with
   | nil => simp [ent] at hne
   | cons x l =>
     have := hw.old x List.mem_cons_self
     simp [ent,mkE]; intro hx; omega
omit [DecidableEq K] in
theorem ent_ok {a m c : Nat} {sl : List Nat} {L : List (Ent K)} {x : Ent K} (hb : L.Pairwise fun a b => a.2.2 ≠ b.2.2) (hx : x ∈ L) (hi : H[a]? = some (.iter m c (sl ++ [x.2.2]).toArray c)) (hm : H[m]? = some (.map (ent kv L) c)) :
   aEntry H (.pointer (some ⟨a,0,none⟩)) = some (.tuple #[kv x.1,.int .i64 x.2.1]) := by
 unfold aEntry
 have h1 : ((sl ++ [x.2.2]).toArray).back? = some x.2.2 := by simp
 simp only [if_true,hi,hm,h1]
 have hf : (ent kv L).find? (fun e => e.born == x.2.2) = some (mkE kv x) := by
   cases h : (ent kv L).find? (fun e => e.born == x.2.2) with
   | none =>
     have := List.find?_eq_none.1 h (mkE kv x) (List.mem_map_of_mem hx)
     simp [mkE] at this
   | some y =>
     have h2 := List.mem_of_find?_eq_some h
     have h3 := List.find?_some h
     obtain ⟨z,hz,rfl⟩ := List.mem_map.1 h2
     have := inj_of (f := fun x : Ent K => x.2.2) hb hz hx (by simpa [mkE] using h3)
     rw [this]
 rw [hf]; rfl
end Go.Pier
set_option maxRecDepth 100000
set_option linter.unusedVariables false
set_option linter.unusedSimpArgs false
namespace Go.Pier.Lg
open Go Go.Pier Go.Proofs
def kL (n : Int) (k : Fin 256) : Value := .agg #[vi n,.bool (k.1.testBit 0),.bool (k.1.testBit 1),.bool (k.1.testBit 2),.bool (k.1.testBit 3),.bool (k.1.testBit 4),.bool (k.1.testBit 5),.bool (k.1.testBit 6),.bool (k.1.testBit 7)]
def maskOf (b : Nat→Bool) : Nat := (b 0).toNat + 2 * (b 1).toNat + 4 * (b 2).toNat + 8 * (b 3).toNat + 16 * (b 4).toNat + 32 * (b 5).toNat + 64 * (b 6).toNat + 128 * (b 7).toNat
def aggC' : Value→List Value | .agg cs => cs.toList | _ => []
theorem mask_lt (b : Nat→Bool) : maskOf b < 256 := by
 unfold maskOf
 have h : ∀ c : Bool,c.toNat≤1 := fun c => by cases c <;> decide
 have := h (b 0); have := h (b 1); have := h (b 2); have := h (b 3); have := h (b 4); have := h (b 5); have := h (b 6); have := h (b 7)
 omega
def uL (v : Value) : Fin 256 := ⟨maskOf fun i => getB (aggC' v) (1 + i),mask_lt _⟩
def gL (_ : Fin 256) : Prop := True
theorem undl {t : TypeId} {d : TypeDesc} (h : Try.prog.underlying t = some d) : pureRun Try.prog (Go.underlying t) = some d := by
 show pureRun Try.prog (match Try.prog.underlying t with | some d => (Sem.pure d : Sem TypeDesc) | none => stuck "no such type") = _
 rw [h]; rfl
theorem u60 : Try.prog.underlying 60 = some (.array 8 4) := by kernel_rfl
theorem u4 : Try.prog.underlying 4 = some .bool := by kernel_rfl
theorem u3 : Try.prog.underlying 3 = some (.int .i64) := by kernel_rfl
theorem eqBool (d : Nat) (a b : Bool) : pureRun Try.prog (Op.equalIn (d + 1) 4 (.bool a) (.bool b)) = some (a == b) := by
 unfold Op.equalIn
 rw [pureRun_bind (undl u4)]
 rfl
theorem eqInt (d : Nat) (a b : Int) : pureRun Try.prog (Op.equalIn (d + 1) 3 (vi a) (vi b)) = some (a == b) := by
 unfold Op.equalIn
 rw [pureRun_bind (undl u3)]
 rfl
theorem loop_eq {α : Type} {f : α→Option Bool × Unit→Sem (ForInStep (Option Bool × Unit))} {e : α→Bool} : ∀ (l : List α),(∀ i ∈ l,∀ s,pureRun Try.prog (f i s) = some (if e i = true then .yield (none,()) else .done (some false,()))) →
   pureRun Try.prog (forIn l ((none,()) : Option Bool × Unit) f) = some (if l.all e = true then (none,()) else (some false,()))
 | [],_ => rfl
 | a :: l,h => by
   rw [List.forIn_cons,pureRun_bind (h a List.mem_cons_self _)]
   cases he : e a with
   | true =>
     simp only [if_true,List.all_cons,he,Bool.true_and]
     exact loop_eq l fun i hi s => h i (List.mem_cons_of_mem _ hi) s
   | false => simp [he]; rfl
theorem partAt {x0 x1 x2 x3 x4 x5 x6 x7 : Bool} {i : Nat} (h : i < 8) : pureRun Try.prog (part 4 #[.bool x0,.bool x1,.bool x2,.bool x3,.bool x4,.bool x5,.bool x6,.bool x7] (i * 1)) = some (.bool (getB [.bool x0,.bool x1,.bool x2,.bool x3,.bool x4,.bool x5,.bool x6,.bool x7] i)) := by
 rcases i with _ | _ | _ | _ | _ | _ | _ | _ | i
 · kernel_rfl
 · kernel_rfl
 · kernel_rfl
 · kernel_rfl
 · kernel_rfl
 · kernel_rfl
 · kernel_rfl
 · kernel_rfl
 · omega
theorem eqArr (d : Nat) (x0 x1 x2 x3 x4 x5 x6 x7 y0 y1 y2 y3 y4 y5 y6 y7 : Bool) : pureRun Try.prog (Op.equalIn (d + 2) 60 (.agg #[.bool x0,.bool x1,.bool x2,.bool x3,.bool x4,.bool x5,.bool x6,.bool x7]) (.agg #[.bool y0,.bool y1,.bool y2,.bool y3,.bool y4,.bool y5,.bool y6,.bool y7])) =
   some ((List.range' 0 8).all fun i => getB [.bool x0,.bool x1,.bool x2,.bool x3,.bool x4,.bool x5,.bool x6,.bool x7] i == getB [.bool y0,.bool y1,.bool y2,.bool y3,.bool y4,.bool y5,.bool y6,.bool y7] i) := by
 unfold Op.equalIn
 rw [pureRun_bind (undl u60)]
 simp only []
 rw [pureRun_bind (show pureRun Try.prog (sizeOf 4) = some 1 by kernel_rfl)]
 simp only [Std.Legacy.Range.forIn_eq_forIn_range']
 rw [pureRun_bind (loop_eq (e := fun i => getB [.bool x0,.bool x1,.bool x2,.bool x3,.bool x4,.bool x5,.bool x6,.bool x7] i == getB [.bool y0,.bool y1,.bool y2,.bool y3,.bool y4,.bool y5,.bool y6,.bool y7] i) _ fun i hi s => ?_)]
 · have e8 : List.range' 0 ([:8] : Std.Legacy.Range).size = List.range' 0 8 := rfl
   rw [e8]
   cases (List.range' 0 8).all fun i => getB [.bool x0,.bool x1,.bool x2,.bool x3,.bool x4,.bool x5,.bool x6,.bool x7] i == getB [.bool y0,.bool y1,.bool y2,.bool y3,.bool y4,.bool y5,.bool y6,.bool y7] i <;> rfl
 · have hi8 : i < 8 := by
     have : i ∈ List.range' 0 8 := hi
     simp [List.mem_range'] at this
     omega
   rw [pureRun_bind (partAt hi8),pureRun_bind (partAt hi8),pureRun_bind (eqBool _ _ _)]
   cases getB [.bool x0,.bool x1,.bool x2,.bool x3,.bool x4,.bool x5,.bool x6,.bool x7] i == getB [.bool y0,.bool y1,.bool y2,.bool y3,.bool y4,.bool y5,.bool y6,.bool y7] i <;> rfl
noncomputable def fs62 : Array Field := match Try.prog.underlying 62 with | some (.struct f) => f | _ => #[]
noncomputable def fd0 : Field := fs62.toList.getD 0 default
noncomputable def fd1 : Field := fs62.toList.getD 1 default
theorem u62 : Try.prog.underlying 62 = some (.struct fs62) := by kernel_rfl
theorem l62 : fs62.toList = [fd0,fd1] := by kernel_rfl
theorem eqStruct (d : Nat) (n : Int) (x0 x1 x2 x3 x4 x5 x6 x7 y0 y1 y2 y3 y4 y5 y6 y7 : Bool) : pureRun Try.prog (Op.equalIn (d + 3) 62 (.agg #[vi n,.bool x0,.bool x1,.bool x2,.bool x3,.bool x4,.bool x5,.bool x6,.bool x7]) (.agg #[vi n,.bool y0,.bool y1,.bool y2,.bool y3,.bool y4,.bool y5,.bool y6,.bool y7])) =
   some ((List.range' 0 8).all fun i => getB [.bool x0,.bool x1,.bool x2,.bool x3,.bool x4,.bool x5,.bool x6,.bool x7] i == getB [.bool y0,.bool y1,.bool y2,.bool y3,.bool y4,.bool y5,.bool y6,.bool y7] i) := by
 unfold Op.equalIn
 rw [pureRun_bind (undl u62)]
 simp only []
 rw [pureRun_bind (show pureRun Try.prog program = some Try.prog from rfl)]
 rw [if_neg (show ¬ Program.stoodInHeld Try.prog 62 = true by rw [show Program.stoodInHeld Try.prog 62 = false by kernel_rfl]; exact Bool.false_ne_true)]
 rw [← Array.forIn_toList,l62]
 rw [pureRun_bind (loop_eq (e := fun f : Field => f.offset == 0 || ((List.range' 0 8).all fun i => getB [.bool x0,.bool x1,.bool x2,.bool x3,.bool x4,.bool x5,.bool x6,.bool x7] i == getB [.bool y0,.bool y1,.bool y2,.bool y3,.bool y4,.bool y5,.bool y6,.bool y7] i)) _ fun f hf s => ?_)]
 · have o0 : (fd0.offset == 0) = true := by kernel_rfl
   have o1 : (fd1.offset == 0) = false := by kernel_rfl
   simp only [List.all_cons,List.all_nil,o0,o1,Bool.true_or,Bool.false_or,Bool.true_and,Bool.and_true]
   cases (List.range' 0 8).all fun i => getB [.bool x0,.bool x1,.bool x2,.bool x3,.bool x4,.bool x5,.bool x6,.bool x7] i == getB [.bool y0,.bool y1,.bool y2,.bool y3,.bool y4,.bool y5,.bool y6,.bool y7] i <;> rfl
 · rcases List.mem_cons.1 hf with rfl | hf
   · have o0 : (fd0.offset == 0) = true := by kernel_rfl
     rw [if_pos (show fd0.name ≠ "_" from of_decide_eq_true (by kernel_rfl))]
     rw [pureRun_bind (show pureRun Try.prog (part fd0.type #[vi n,.bool x0,.bool x1,.bool x2,.bool x3,.bool x4,.bool x5,.bool x6,.bool x7] fd0.offset) = some (vi n) by kernel_rfl)]
     rw [pureRun_bind (show pureRun Try.prog (part fd0.type #[vi n,.bool y0,.bool y1,.bool y2,.bool y3,.bool y4,.bool y5,.bool y6,.bool y7] fd0.offset) = some (vi n) by kernel_rfl)]
     rw [show fd0.type = 3 by kernel_rfl,pureRun_bind (eqInt _ _ _),o0]
     simp only [beq_self_eq_true,Bool.true_or]
     rfl
   · rw [List.mem_singleton.1 hf]
     have o1 : (fd1.offset == 0) = false := by kernel_rfl
     rw [if_pos (show fd1.name ≠ "_" from of_decide_eq_true (by kernel_rfl))]
     rw [pureRun_bind (show pureRun Try.prog (part fd1.type #[vi n,.bool x0,.bool x1,.bool x2,.bool x3,.bool x4,.bool x5,.bool x6,.bool x7] fd1.offset) = some (.agg #[.bool x0,.bool x1,.bool x2,.bool x3,.bool x4,.bool x5,.bool x6,.bool x7]) by kernel_rfl)]
     rw [pureRun_bind (show pureRun Try.prog (part fd1.type #[vi n,.bool y0,.bool y1,.bool y2,.bool y3,.bool y4,.bool y5,.bool y6,.bool y7] fd1.offset) = some (.agg #[.bool y0,.bool y1,.bool y2,.bool y3,.bool y4,.bool y5,.bool y6,.bool y7]) by kernel_rfl)]
     rw [show fd1.type = 60 by kernel_rfl,pureRun_bind (eqArr _ _ _ _ _ _ _ _ _ _ _ _ _ _ _ _ _),o1]
     simp only [Bool.false_or]
     cases (List.range' 0 8).all fun i => getB [.bool x0,.bool x1,.bool x2,.bool x3,.bool x4,.bool x5,.bool x6,.bool x7] i == getB [.bool y0,.bool y1,.bool y2,.bool y3,.bool y4,.bool y5,.bool y6,.bool y7] i <;> rfl
theorem bits8 : ∀ b0 b1 b2 b3 b4 b5 b6 b7 : Bool,∀ m,m = b0.toNat + 2 * b1.toNat + 4 * b2.toNat + 8 * b3.toNat + 16 * b4.toNat + 32 * b5.toNat + 64 * b6.toNat + 128 * b7.toNat →
   m.testBit 0 = b0∧m.testBit 1 = b1∧m.testBit 2 = b2∧m.testBit 3 = b3∧m.testBit 4 = b4∧m.testBit 5 = b5∧m.testBit 6 = b6∧m.testBit 7 = b7 := by
 have : ∀ b0 b1 b2 b3 b4 b5 b6 b7 : Bool, (fun m : Nat => m.testBit 0 = b0 ∧ m.testBit 1 = b1 ∧ m.testBit 2 = b2 ∧ m.testBit 3 = b3 ∧ m.testBit 4 = b4 ∧ m.testBit 5 = b5 ∧ m.testBit 6 = b6 ∧ m.testBit 7 = b7)
     (b0.toNat + 2 * b1.toNat + 4 * b2.toNat + 8 * b3.toNat + 16 * b4.toNat + 32 * b5.toNat + 64 * b6.toNat + 128 * b7.toNat) := by decide +kernel
 intro b0 b1 b2 b3 b4 b5 b6 b7 m hm
 subst hm
 exact this b0 b1 b2 b3 b4 b5 b6 b7
theorem mask_bit (b : Nat→Bool) {i : Nat} (hi : i < 8) : (maskOf b).testBit i = b i := by
 obtain ⟨h0,h1,h2,h3,h4,h5,h6,h7⟩ := bits8 (b 0) (b 1) (b 2) (b 3) (b 4) (b 5) (b 6) (b 7) (maskOf b) rfl
 rcases i with _ | _ | _ | _ | _ | _ | _ | _ | i <;> first | assumption | omega
theorem mask_own : ∀ k : Nat,k < 256→maskOf (fun i => k.testBit i) = k := by decide +kernel
theorem bits_inj {a b : Nat} (ha : a < 256) (hb : b < 256) (h : ∀ i,i < 8→a.testBit i = b.testBit i) : a = b := by
 rw [← mask_own a ha,← mask_own b hb]
 unfold maskOf
 simp only [h 0 (by omega),h 1 (by omega),h 2 (by omega),h 3 (by omega),h 4 (by omega),h 5 (by omega),h 6 (by omega),h 7 (by omega)]
theorem uL_kL {n : Int} {k : Fin 256} : uL (kL n k) = k := Fin.ext (mask_own k.1 k.2)
theorem key_eq (n : Int) (a b : Fin 256) : pureRun Try.prog (Op.equal 62 (kL n a) (kL n b)) = some (decide (a = b)) := by
 have := eqStruct 9997 n (a.1.testBit 0) (a.1.testBit 1) (a.1.testBit 2) (a.1.testBit 3) (a.1.testBit 4) (a.1.testBit 5) (a.1.testBit 6) (a.1.testBit 7) (b.1.testBit 0) (b.1.testBit 1) (b.1.testBit 2) (b.1.testBit 3) (b.1.testBit 4) (b.1.testBit 5) (b.1.testBit 6) (b.1.testBit 7)
 show pureRun Try.prog (Op.equalIn (9997 + 3) 62 _ _) = _
 unfold kL
 rw [this]
 congr 1
 rw [Bool.eq_iff_iff,List.all_eq_true,decide_eq_true_eq]
 constructor
 · intro h
   refine Fin.ext (bits_inj a.2 b.2 fun i hi => ?_)
   have := h i (by simp [List.mem_range']; omega)
   rcases i with _ | _ | _ | _ | _ | _ | _ | _ | i <;> first | (simpa [getB] using this) | omega
 · rintro rfl i _
   simp
theorem keyOk (n : Int) : KeyOk Try.prog 62 gL (kL n) where
 eq := fun a b _ _ => key_eq n a b
 now := ⟨_,u62,fun _ _ _ _ => rfl⟩
 chk := fun e a _ => by cases e <;> kernel_rfl
 bits := fun a _ => by simp [kL,Instr.sameBits]
 sc := fun a _ => by simp [kL,sc2,sc1,sc0]
theorem un_kL {n : Int} {L : List (Ent (Fin 256))} : un uL (ent (kL n) L) = L := un_ent fun _ _ => uL_kL
theorem map_ent {n : Int} {L : List (Ent (Fin 256))} {σ : Nat→Nat} : List.map (fun (e : MapEntry) => { key := e.key,val := nmap2 σ e.val,born := e.born }) (ent (kL n) L) = ent (kL n) L := by
 unfold ent
 rw [List.map_map]
 exact List.map_congr_left fun _ _ => rfl
theorem sc_ent {n : Int} {L : List (Ent (Fin 256))} {m c : Nat} : AObj.sc m (.map (ent (kL n) L) c) = true := by
 refine List.all_eq_true.2 fun e he => ?_
 obtain ⟨x,_,rfl⟩ := List.mem_map.1 he
 simp [mkE,kL,sc2,sc1,sc0]
theorem kL_mask {n : Int} {tk : Nat→Bool} : Value.agg { toList := lgC n tk } = kL n (uL (.agg { toList := lgC n tk })) := by
 have hb : ∀ i,i < 8→(uL (.agg { toList := lgC n tk })).1.testBit i = tk i := fun i hi => by
   show (maskOf fun i => getB (lgC n tk) (1 + i)).testBit i = tk i
   rw [mask_bit _ hi,lg_getB hi]
 unfold kL
 rw [hb 0 (by omega),hb 1 (by omega),hb 2 (by omega),hb 3 (by omega),hb 4 (by omega),hb 5 (by omega),hb 6 (by omega),hb 7 (by omega)]
 rfl
theorem kL_uL {n : Int} {tk : Nat→Bool} : uL (.agg { toList := lgC n tk }) = ⟨maskOf tk,mask_lt _⟩ := rfl
theorem fT_bits {v : Value} {k : Fin 256} {x : Option Addr} {m c : Nat} {s f : Int} : fT (v :: T8 k.1.testBit [.slice x m c,vi s,vi f]) = k.1.testBit := by
 funext i
 rcases i with _ | _ | _ | _ | _ | _ | _ | _ | _ | _ | _ | i
 all_goals first | rfl | skip
 all_goals symm
 · exact Nat.testBit_lt_two_pow (Nat.lt_of_lt_of_le k.2 (by decide))
 · exact Nat.testBit_lt_two_pow (Nat.lt_of_lt_of_le k.2 (by decide))
 · exact Nat.testBit_lt_two_pow (Nat.lt_of_lt_of_le k.2 (by decide))
 · show k.1.testBit (i + 11) = getB _ (1 + (i + 11))
   rw [Nat.testBit_lt_two_pow (Nat.lt_of_lt_of_le k.2 (by rw [show (256 : Nat) = 2 ^ 8 from rfl]; exact Nat.pow_le_pow_right (by decide) (by omega)))]
   unfold getB
   rw [List.getElem?_eq_none (by simp [T8]; omega)]
end Go.Pier.Lg
set_option maxRecDepth 100000
set_option linter.unusedVariables false
set_option linter.unusedSimpArgs false
namespace Go.Pier.Lg
open Go Go.Pier Go.Proofs
noncomputable def womB : Code := Try.f79.body.getD .skip
abbrev EL := List (Ent (Fin 256))
def oneMore (n : Nat) (k : Fin 256) (i : Nat) : Option (Fin 256) := if (runP false n k.1.testBit [(i : Int)]).fell = 0 then some ⟨maskOf (runP false n k.1.testBit [(i : Int)]).tk,mask_lt _⟩ else none
def addUp (n : Nat) (k : Fin 256) (v : Int) (s : EL × Nat) : Nat→EL × Nat
 | 0 => s
 | i + 1 => match oneMore n k i with
   | some j => (addL (addUp n k v s i).1 j v (addUp n k v s i).2,touchC (addUp n k v s i).1 j (addUp n k v s i).2)
   | none => addUp n k v s i
def outL (n : Nat) (D : EL) : EL × Nat := D.foldl (fun s x => addUp n x.1 x.2.1 s n) ([],0)
def bornsL (D : EL) : List Nat := D.map fun x => x.2.2
def womI2 (n : Nat) (o : AObj) (W : EL) (c : Nat) (D : EL) : LInv := LInv.one (Ent (Fin 256) × Nat) (fun p => p.2≤n∧∃ r,(D ++ p.1 :: r).Perm W)
 (fun p => [(3,.map (some 2)),(4,ptr0 4),(5,vi p.1.2.1),(10,ptr0 3),(17,vi n),(18,vi p.2)])
 (fun p => [o,.map (ent (kL n) W) c,.map (ent (kL n) (addUp n p.1.1 p.1.2.1 (outL n D) p.2).1) (addUp n p.1.1 p.1.2.1 (outL n D) p.2).2,.iter 1 c (bornsL D ++ [p.1.2.2]).toArray c,.rw (lgC n p.1.1.1.testBit) none]) (fun p => n - p.2)
def womI (n : Nat) (o : AObj) (W : EL) (c : Nat) : Nat→Option LInv := invOf 0 (LInv.one EL (fun D => ∃ r,(D ++ r).Perm W)
 (fun D => [(3,.map (some 2)),(10,ptr0 3)]) (fun D => [o,.map (ent (kL n) W) c,.map (ent (kL n) (outL n D).1) (outL n D).2,.iter 1 c (bornsL D).toArray c]) (fun D => W.length - D.length)
 (fun D => invOf 2 (womI2 n o W c D)))
noncomputable def womE (n : Int) : VEnv := { ct := Ct.none.add 74 (dropG false),orc := orcMap Try.prog (kL n) uL 11,nx := nxMap (kL n) uL }
noncomputable def womR (n:Nat) (o:AObj) (W:EL) (c:Nat):Value→Heap→Prop := fun v H => ∃ D:EL,Ob (D.Perm W)∧Reach 2 (fun b => b) [(0,v)] H [(0,.map (some 2))] [o,.map (ent (kL n) W) c,.map (ent (kL n) (outL n D).1) (outL n D).2]
noncomputable def womV0 (n:Nat) (tk:Nat→Bool) (W:EL) (c:Nat) (x_2q:Ent (Fin 256) × Nat) := (runP false (fN (vi (n:Int)::T8 ((↑x_2q.fst.fst:Nat).testBit) [Value.slice none 0 0,vi (0:Int),vi (0:Int)])).toNat (fT (vi (n:Int)::T8 ((↑x_2q.fst.fst:Nat).testBit) [Value.slice none 0 0,vi (0:Int),vi (0:Int)])) [intOf (vi (x_2q.snd:Int))])
noncomputable def womV1 (n:Nat) (tk:Nat→Bool) (W:EL) (c:Nat) (x_2q:Ent (Fin 256) × Nat) := (Value.agg { toList := (lgC (fN (vi (n:Int)::T8 ((↑x_2q.fst.fst:Nat).testBit) [Value.slice none 0 0,vi (0:Int),vi (0:Int)])) ((womV0 n tk W c x_2q).tk)) })
noncomputable def womV2 (n:Nat) (tk:Nat→Bool) (W:EL) (c:Nat) (x_2q:Ent (Fin 256) × Nat) := (vi (fN (vi (n:Int)::T8 ((↑x_2q.fst.fst:Nat).testBit) [Value.slice none 0 0,vi (0:Int),vi (0:Int)]))::T8 ((womV0 n tk W c x_2q).tk) [Value.slice (some ⟨7,0,some 0⟩) 1 0,vi (womV0 n tk W c x_2q).slid,vi (womV0 n tk W c x_2q).fell])
noncomputable def womV3 (n:Nat) (tk:Nat→Bool) (W:EL) (c:Nat) (x:List (Ent (Fin 256))) (x_2q:Ent (Fin 256) × Nat) := (addUp n x_2q.fst.fst x_2q.fst.snd.fst (outL n x) x_2q.snd)
noncomputable def womV4 (n:Nat) (tk:Nat→Bool) (W:EL) (c:Nat) (x:List (Ent (Fin 256))) (x_2q:Ent (Fin 256) × Nat) := (ent (kL (n:Int)) (touchL (un uL (ent (kL (n:Int)) (womV3 n tk W c x x_2q).fst)) (uL (womV1 n tk W c x_2q)) (womV3 n tk W c x x_2q).snd))
noncomputable def womV5 (n:Nat) (tk:Nat→Bool) (W:EL) (c:Nat) (x:List (Ent (Fin 256))) (x_2q:Ent (Fin 256) × Nat) := (un uL (ent (kL (n:Int)) (womV3 n tk W c x x_2q).fst))
noncomputable def womV6 (n:Nat) (tk:Nat→Bool) (W:EL) (c:Nat) (x:List (Ent (Fin 256))) (x_2q:Ent (Fin 256) × Nat) := (touchC (womV5 n tk W c x x_2q) (uL (womV1 n tk W c x_2q)) (womV3 n tk W c x x_2q).snd)
noncomputable def womV7 (n:Nat) (tk:Nat→Bool) (W:EL) (c:Nat) (x:List (Ent (Fin 256))) (x_2q:Ent (Fin 256) × Nat) := (IntKind.i64.wrap (lookL (womV5 n tk W c x x_2q) (uL (womV1 n tk W c x_2q))+x_2q.fst.snd.fst))
noncomputable def womV8 (n:Nat) (tk:Nat→Bool) (W:EL) (c:Nat):Prop := (AObj.rw (lgC (n:Int) tk) none=AObj.rw (lgC (n:Int) tk) none∧true=true)
noncomputable def womV9 (n:Nat) (tk:Nat→Bool) (W:EL) (c:Nat) (x:List (Ent (Fin 256))) (x_2q:Ent (Fin 256) × Nat) := (↑(slotL (womV5 n tk W c x x_2q) (uL (womV1 n tk W c x_2q)) (womV3 n tk W c x x_2q).snd):Int)
noncomputable def womV10 (n:Nat) (tk:Nat→Bool) (W:EL) (c:Nat) (x_2q:Ent (Fin 256) × Nat) := (lgC (n:Int) ((↑x_2q.fst.fst:Nat).testBit))
noncomputable def womV11 (n:Nat) (tk:Nat→Bool) (W:EL) (c:Nat) (x_2q:Ent (Fin 256) × Nat) := (List.map (Value.int IntKind.i64) (womV0 n tk W c x_2q).lies)
noncomputable def womV12 (n:Nat) (tk:Nat→Bool) (W:EL) (c:Nat):Prop := (Value.map (some 2)=Value.map (some 2))
noncomputable def womV :=
fun (n:Nat) (tk:Nat→Bool) (W:EL) (c:Nat)↦(∃ (y:List (Ent (Fin 256))),Ob (∃ (r:EL),List.Perm (y++r) W)∧(Ob (womV8 n tk W c)∧Ob (AObj.map (ent (kL (n:Int)) W) c=AObj.map (List.map (fun (e:MapEntry)↦{ key := e.key,val := nmap2 (fun (b:Nat)↦b) e.val,born := e.born }) (ent (kL (n:Int)) W)) c∧AObj.sc 4 (AObj.map (ent (kL (n:Int)) W) c)=true)∧Ob (AObj.map [] 0=AObj.map (List.map (fun (e:MapEntry)↦{ key := e.key,val := nmap2 (fun (b:Nat)↦b) e.val,born := e.born }) (ent (kL (n:Int)) (outL n y).fst)) (outL n y).snd∧AObj.sc 4 (AObj.map (ent (kL (n:Int)) (outL n y).fst) (outL n y).snd)=true)∧Ob (AObj.iter 1 c ⟨[]⟩ c=AObj.iter 1 c { toList := bornsL y } c∧true=true)∧True)∧Ob (womV12 n tk W c)∧Ob (ptr0 3=ptr0 3)∧True)∧∀ (x:List (Ent (Fin 256))),Ob (∃ (r:EL),List.Perm (x++r) W)→Ob (NextOk [AObj.rw (lgC (n:Int) tk) none,AObj.map (ent (kL (n:Int)) W) c,AObj.map (ent (kL (n:Int)) (outL n x).fst) (outL n x).snd,AObj.iter 1 c { toList := bornsL x } c] (ptr0 3) [doneS [AObj.rw (lgC (n:Int) tk) none,AObj.map (ent (kL (n:Int)) W) c,AObj.map (ent (kL (n:Int)) (outL n x).fst) (outL n x).snd,AObj.iter 1 c { toList := bornsL x } c] (un uL (ent (kL (n:Int)) W)) (bornsL x),moreS (kL (n:Int)) [AObj.rw (lgC (n:Int) tk) none,AObj.map (ent (kL (n:Int)) W) c,AObj.map (ent (kL (n:Int)) (outL n x).fst) (outL n x).snd,AObj.iter 1 c { toList := bornsL x } c] 3 1 c (un uL (ent (kL (n:Int)) W)) (bornsL x) c])∧(∀ (x_1:Unit),Ob (∀ (x_2:Ent (Fin 256)),x_2∈un uL (ent (kL (n:Int)) W)→x_2.snd.snd∈bornsL x)→∃ (D:List (Ent (Fin 256))),Ob (D.Perm W)∧(Ob (womV8 n tk W c)∧Ob (AObj.map (ent (kL (n:Int)) W) c=AObj.map (List.map (fun (e:MapEntry)↦{ key := e.key,val := nmap2 (fun (b:Nat)↦b) e.val,born := e.born }) (ent (kL (n:Int)) W)) c∧AObj.sc 3 (AObj.map (ent (kL (n:Int)) W) c)=true)∧Ob (AObj.map (ent (kL (n:Int)) (outL n x).fst) (outL n x).snd=AObj.map (List.map (fun (e:MapEntry)↦{ key := e.key,val := nmap2 (fun (b:Nat)↦b) e.val,born := e.born }) (ent (kL (n:Int)) (outL n D).fst)) (outL n D).snd∧AObj.sc 3 (AObj.map (ent (kL (n:Int)) (outL n D).fst) (outL n D).snd)=true)∧True)∧Ob (womV12 n tk W c)∧True)∧∀ (x_1q:Fin 256 × Int × Nat),Ob (x_1q∈un uL (ent (kL (n:Int)) W)∧¬x_1q.snd.snd∈bornsL x)→Ob (aEntry [AObj.rw (lgC (n:Int) tk) none,AObj.map (ent (kL (n:Int)) W) c,AObj.map (ent (kL (n:Int)) (outL n x).fst) (outL n x).snd,AObj.iter 1 c { toList := bornsL x++[x_1q.snd.snd] } c] (ptr0 3)=some (Value.tuple ⟨[Value.agg { toList := (lgC (n:Int) ((↑x_1q.fst:Nat).testBit)) },vi x_1q.snd.fst]⟩))∧Ob (0+9≤9)∧Ob (some (vi (n:Int))=some (vi (n:Int)))∧(∃ (yq:Ent (Fin 256) × Nat),Ob (yq.snd≤n∧∃ (rq:List (Ent (Fin 256))),List.Perm (x++yq.fst::rq) W)∧(Ob (womV8 n tk W c)∧Ob (AObj.map (ent (kL (n:Int)) W) c=AObj.map (List.map (fun (e:MapEntry)↦{ key := e.key,val := nmap2 (fun (b:Nat)↦b) e.val,born := e.born }) (ent (kL (n:Int)) W)) c∧AObj.sc 5 (AObj.map (ent (kL (n:Int)) W) c)=true)∧Ob (AObj.map (ent (kL (n:Int)) (outL n x).fst) (outL n x).snd=AObj.map (List.map (fun (e:MapEntry)↦{ key := e.key,val := nmap2 (fun (b:Nat)↦b) e.val,born := e.born }) (ent (kL (n:Int)) (addUp n yq.fst.fst yq.fst.snd.fst (outL n x) yq.snd).fst)) (addUp n yq.fst.fst yq.fst.snd.fst (outL n x) yq.snd).snd∧AObj.sc 5 (AObj.map (ent (kL (n:Int)) (addUp n yq.fst.fst yq.fst.snd.fst (outL n x) yq.snd).fst) (addUp n yq.fst.fst yq.fst.snd.fst (outL n x) yq.snd).snd)=true)∧Ob (AObj.iter 1 c { toList := bornsL x++[x_1q.snd.snd] } c=AObj.iter 1 c { toList := bornsL x++[yq.fst.snd.snd] } c∧true=true)∧Ob (AObj.rw (lgC (n:Int) ((↑x_1q.fst:Nat).testBit)) none=AObj.rw (lgC (n:Int) ((↑yq.fst.fst:Nat).testBit)) none∧true=true)∧True)∧Ob (womV12 n tk W c)∧Ob (ptr0 4=ptr0 4)∧Ob (x_1q.snd.fst=yq.fst.snd.fst)∧Ob (ptr0 3=ptr0 3)∧Ob ((n:Int)=(n:Int))∧Ob ((0:Int)=(yq.snd:Int))∧True)∧∀ (x_2q:Ent (Fin 256) × Nat),Ob (x_2q.snd≤n∧∃ (rqq:List (Ent (Fin 256))),List.Perm (x++x_2q.fst::rqq) W)→(decide ((x_2q.snd:Int)<(n:Int))=true→Ob (0+12≤12)∧Ob (([vi (x_2q.snd:Int)]=[vi (intOf (vi (x_2q.snd:Int)))]∧0+1≤1∧true=true)∧dropPre false (vi (n:Int)::T8 ((↑x_2q.fst.fst:Nat).testBit) [Value.slice none 0 0,vi (0:Int),vi (0:Int)]) (Value.func (Fn.func 77) ⟨[Value.agg { toList := (womV10 n tk W c x_2q) }]⟩ ⟨[]⟩) [intOf (vi (x_2q.snd:Int))]∧0<1∧some 6≠some 5)∧Ob (IntAt IntKind.i64 (womV2 n tk W c x_2q) (0+11))∧((getI (womV2 n tk W c x_2q) (0+11)==(0:Int))=true→Ob (aLookup Try.prog [AObj.rw (lgC (n:Int) tk) none,AObj.map (ent (kL (n:Int)) W) c,AObj.map (ent (kL (n:Int)) (womV3 n tk W c x x_2q).fst) (womV3 n tk W c x x_2q).snd,AObj.iter 1 c { toList := bornsL x++[x_2q.fst.snd.snd] } c,AObj.rw (womV10 n tk W c x_2q) none,AObj.rw (womV2 n tk W c x_2q) none,AObj.rw [vi (x_2q.snd:Int)] none,AObj.rw (womV11 n tk W c x_2q) (some 1)] 85 (Value.map (some 2)) (womV1 n tk W c x_2q) false=some (vi (lookL (womV5 n tk W c x x_2q) (uL (womV1 n tk W c x_2q)))))∧Ob (aMapEntry Try.prog [AObj.rw (lgC (n:Int) tk) none,AObj.map (ent (kL (n:Int)) W) c,AObj.map (ent (kL (n:Int)) (womV3 n tk W c x x_2q).fst) (womV3 n tk W c x x_2q).snd,AObj.iter 1 c { toList := bornsL x++[x_2q.fst.snd.snd] } c,AObj.rw (womV10 n tk W c x_2q) none,AObj.rw (womV2 n tk W c x_2q) none,AObj.rw [vi (x_2q.snd:Int)] none,AObj.rw (womV11 n tk W c x_2q) (some 1)] 85 (Value.map (some 2)) (womV1 n tk W c x_2q)=some (Value.tuple ⟨[vi (lookL (womV5 n tk W c x x_2q) (uL (womV1 n tk W c x_2q))),vi (womV9 n tk W c x x_2q)]⟩,[AObj.rw (lgC (n:Int) tk) none,AObj.map (ent (kL (n:Int)) W) c,AObj.map (womV4 n tk W c x x_2q) (womV6 n tk W c x x_2q),AObj.iter 1 c { toList := bornsL x++[x_2q.fst.snd.snd] } c,AObj.rw (womV10 n tk W c x_2q) none,AObj.rw (womV2 n tk W c x_2q) none,AObj.rw [vi (x_2q.snd:Int)] none,AObj.rw (womV11 n tk W c x_2q) (some 1)]))∧Ob ((AObj.sc 8 (AObj.map (womV4 n tk W c x x_2q) (womV6 n tk W c x x_2q))=true∧aLookup Try.prog [AObj.rw (lgC (n:Int) tk) none,AObj.map (ent (kL (n:Int)) W) c,AObj.map (womV4 n tk W c x x_2q) (womV6 n tk W c x x_2q),AObj.iter 1 c { toList := bornsL x++[x_2q.fst.snd.snd] } c,AObj.rw (womV10 n tk W c x_2q) none,AObj.rw (womV2 n tk W c x_2q) none,AObj.rw [vi (x_2q.snd:Int)] none,AObj.rw (womV11 n tk W c x_2q) (some 1)] 85 (Value.map (some 2)) (womV1 n tk W c x_2q) false=some (vi (lookL (un uL (womV4 n tk W c x x_2q)) (uL (womV1 n tk W c x_2q))))∧eqV (vi (lookL (un uL (womV4 n tk W c x x_2q)) (uL (womV1 n tk W c x_2q)))) (vi (lookL (womV5 n tk W c x x_2q) (uL (womV1 n tk W c x_2q))))=true)∧(AObj.sc 8 (AObj.map (womV4 n tk W c x x_2q) (womV6 n tk W c x x_2q))=true∧eqV (vi (womV7 n tk W c x x_2q)) (vi (womV7 n tk W c x x_2q))=true)∧True)∧Ob (aEntryStore [AObj.rw (lgC (n:Int) tk) none,AObj.map (ent (kL (n:Int)) W) c,AObj.map (womV4 n tk W c x x_2q) (womV6 n tk W c x x_2q),AObj.iter 1 c { toList := bornsL x++[x_2q.fst.snd.snd] } c,AObj.rw (womV10 n tk W c x_2q) none,AObj.rw (womV2 n tk W c x_2q) none,AObj.rw [vi (x_2q.snd:Int)] none,AObj.rw (womV11 n tk W c x_2q) (some 1)] (Value.map (some 2)) (vi (womV9 n tk W c x x_2q)) (vi (womV7 n tk W c x x_2q))=some [AObj.rw (lgC (n:Int) tk) none,AObj.map (ent (kL (n:Int)) W) c,AObj.map (ent (kL (n:Int)) (storeL (un uL (womV4 n tk W c x x_2q)) (womV9 n tk W c x x_2q).toNat (womV7 n tk W c x x_2q))) (womV6 n tk W c x x_2q),AObj.iter 1 c { toList := bornsL x++[x_2q.fst.snd.snd] } c,AObj.rw (womV10 n tk W c x_2q) none,AObj.rw (womV2 n tk W c x_2q) none,AObj.rw [vi (x_2q.snd:Int)] none,AObj.rw (womV11 n tk W c x_2q) (some 1)])∧∃ (yqq:Ent (Fin 256) × Nat),Ob (yqq.snd≤n∧∃ (rqqq:List (Ent (Fin 256))),List.Perm (x++yqq.fst::rqqq) W)∧Ob (n-yqq.snd<n-x_2q.snd)∧(Ob (womV8 n tk W c)∧Ob (AObj.map (ent (kL (n:Int)) W) c=AObj.map (List.map (fun (e:MapEntry)↦{ key := e.key,val := nmap2 (fun (b:Nat)↦b) e.val,born := e.born }) (ent (kL (n:Int)) W)) c∧AObj.sc 5 (AObj.map (ent (kL (n:Int)) W) c)=true)∧Ob (AObj.map (ent (kL (n:Int)) (storeL (un uL (womV4 n tk W c x x_2q)) (womV9 n tk W c x x_2q).toNat (womV7 n tk W c x x_2q))) (womV6 n tk W c x x_2q)=AObj.map (List.map (fun (e:MapEntry)↦{ key := e.key,val := nmap2 (fun (b:Nat)↦b) e.val,born := e.born }) (ent (kL (n:Int)) (addUp n yqq.fst.fst yqq.fst.snd.fst (outL n x) yqq.snd).fst)) (addUp n yqq.fst.fst yqq.fst.snd.fst (outL n x) yqq.snd).snd∧AObj.sc 5 (AObj.map (ent (kL (n:Int)) (addUp n yqq.fst.fst yqq.fst.snd.fst (outL n x) yqq.snd).fst) (addUp n yqq.fst.fst yqq.fst.snd.fst (outL n x) yqq.snd).snd)=true)∧Ob (AObj.iter 1 c { toList := bornsL x++[x_2q.fst.snd.snd] } c=AObj.iter 1 c { toList := bornsL x++[yqq.fst.snd.snd] } c∧true=true)∧Ob (AObj.rw (womV10 n tk W c x_2q) none=AObj.rw (lgC (n:Int) ((↑yqq.fst.fst:Nat).testBit)) none∧true=true)∧True)∧Ob (womV12 n tk W c)∧Ob (ptr0 4=ptr0 4)∧Ob (x_2q.fst.snd.fst=yqq.fst.snd.fst)∧Ob (ptr0 3=ptr0 3)∧Ob ((n:Int)=(n:Int))∧Ob (IntKind.i64.wrap ((x_2q.snd:Int)+(1:Int))=(yqq.snd:Int))∧True)∧((getI (womV2 n tk W c x_2q) (0+11)==(0:Int))=false→∃ (yqqq:Ent (Fin 256) × Nat),Ob (yqqq.snd≤n∧∃ (rqqqq:List (Ent (Fin 256))),List.Perm (x++yqqq.fst::rqqqq) W)∧Ob (n-yqqq.snd<n-x_2q.snd)∧(Ob (womV8 n tk W c)∧Ob (AObj.map (ent (kL (n:Int)) W) c=AObj.map (List.map (fun (e:MapEntry)↦{ key := e.key,val := nmap2 (fun (b:Nat)↦b) e.val,born := e.born }) (ent (kL (n:Int)) W)) c∧AObj.sc 5 (AObj.map (ent (kL (n:Int)) W) c)=true)∧Ob (AObj.map (ent (kL (n:Int)) (womV3 n tk W c x x_2q).fst) (womV3 n tk W c x x_2q).snd=AObj.map (List.map (fun (e:MapEntry)↦{ key := e.key,val := nmap2 (fun (b:Nat)↦b) e.val,born := e.born }) (ent (kL (n:Int)) (addUp n yqqq.fst.fst yqqq.fst.snd.fst (outL n x) yqqq.snd).fst)) (addUp n yqqq.fst.fst yqqq.fst.snd.fst (outL n x) yqqq.snd).snd∧AObj.sc 5 (AObj.map (ent (kL (n:Int)) (addUp n yqqq.fst.fst yqqq.fst.snd.fst (outL n x) yqqq.snd).fst) (addUp n yqqq.fst.fst yqqq.fst.snd.fst (outL n x) yqqq.snd).snd)=true)∧Ob (AObj.iter 1 c { toList := bornsL x++[x_2q.fst.snd.snd] } c=AObj.iter 1 c { toList := bornsL x++[yqqq.fst.snd.snd] } c∧true=true)∧Ob (AObj.rw (womV10 n tk W c x_2q) none=AObj.rw (lgC (n:Int) ((↑yqqq.fst.fst:Nat).testBit)) none∧true=true)∧True)∧Ob (womV12 n tk W c)∧Ob (ptr0 4=ptr0 4)∧Ob (x_2q.fst.snd.fst=yqqq.fst.snd.fst)∧Ob (ptr0 3=ptr0 3)∧Ob ((n:Int)=(n:Int))∧Ob (IntKind.i64.wrap ((x_2q.snd:Int)+(1:Int))=(yqqq.snd:Int))∧True))∧(decide ((x_2q.snd:Int)<(n:Int))=false→∃ (y:List (Ent (Fin 256))),Ob (∃ (r:EL),List.Perm (y++r) W)∧Ob (List.length W-y.length<List.length W-x.length)∧(Ob (womV8 n tk W c)∧Ob (AObj.map (ent (kL (n:Int)) W) c=AObj.map (List.map (fun (e:MapEntry)↦{ key := e.key,val := nmap2 (fun (b:Nat)↦b) e.val,born := e.born }) (ent (kL (n:Int)) W)) c∧AObj.sc 4 (AObj.map (ent (kL (n:Int)) W) c)=true)∧Ob (AObj.map (ent (kL (n:Int)) (womV3 n tk W c x x_2q).fst) (womV3 n tk W c x x_2q).snd=AObj.map (List.map (fun (e:MapEntry)↦{ key := e.key,val := nmap2 (fun (b:Nat)↦b) e.val,born := e.born }) (ent (kL (n:Int)) (outL n y).fst)) (outL n y).snd∧AObj.sc 4 (AObj.map (ent (kL (n:Int)) (outL n y).fst) (outL n y).snd)=true)∧Ob (AObj.iter 1 c { toList := bornsL x++[x_2q.fst.snd.snd] } c=AObj.iter 1 c { toList := bornsL y } c∧true=true)∧True)∧Ob (womV12 n tk W c)∧Ob (ptr0 3=ptr0 3)∧True)
theorem womV_eq : womV = fun (n : Nat) (tk : Nat→Bool) (W : EL) (c : Nat) => vc Try.prog (womE n) 2 42 true (womI n (.rw (lgC n tk) none) W c) womB [] (argFr 0 [.map (some 1)]) [.rw (lgC n tk) none,.map (ent (kL n) W) c] (retC Try.prog Try.f79 (womR n (.rw (lgC n tk) none) W c)) := by kernel_rfl
theorem T85 : Try.prog.underlying 85 = some (.map 62 2) := by kernel_rfl
theorem Z2 : zeroT Try.prog 2 = some (.int .i64 0) := by kernel_rfl
def sumV (L : EL) : Int := (L.map fun x => x.2.1).sum
def nonneg (L : EL) : Prop := ∀ x ∈ L,0≤x.2.1
theorem sumV_cons {x : Ent (Fin 256)} {L : EL} : sumV (x :: L) = x.2.1 + sumV L := by simp [sumV]
theorem sumV_append {L M : EL} : sumV (L ++ M) = sumV L + sumV M := by simp [sumV]
theorem sumV_nonneg : ∀ {L : EL},nonneg L→0≤sumV L
 | [],_ => by simp [sumV]
 | x :: L,h => by
   have h1 := h x List.mem_cons_self
   have h2 := sumV_nonneg fun y hy => h y (List.mem_cons_of_mem _ hy)
   rw [sumV_cons]; omega
theorem sumV_mem : ∀ {L : EL},nonneg L→∀ x ∈ L,x.2.1≤sumV L
 | [],_,x,hx => by cases hx
 | y :: L,h,x,hx => by
   have h1 := h y List.mem_cons_self
   have hL : nonneg L := fun z hz => h z (List.mem_cons_of_mem _ hz)
   have h2 := sumV_nonneg hL
   rw [sumV_cons]
   rcases List.mem_cons.1 hx with rfl | hx
   · omega
   · have := sumV_mem hL x hx; omega
theorem sumV_perm {L M : EL} (h : L.Perm M) : sumV L = sumV M := by
 induction h with
 | nil => rfl
 | cons x _ ih => rw [sumV_cons,sumV_cons,ih]
 | swap x y l => rw [sumV_cons,sumV_cons,sumV_cons,sumV_cons]; omega
 | trans _ _ h1 h2 => rw [h1,h2]
theorem upd_sum {k : Fin 256} {d : Int} : ∀ {L : EL},L.Pairwise (fun a b => a.1 ≠ b.1)→sumV (L.map fun x => if x.1 = k then (x.1,x.2.1 + d,x.2.2) else x) = sumV L + if (∃ x ∈ L,x.1 = k) then d else 0
 | [],_ => by simp [sumV]
 | y :: L,h => by
   obtain ⟨h1,h2⟩ := List.pairwise_cons.1 h
   rw [List.map_cons,sumV_cons,sumV_cons,upd_sum h2]
   by_cases e : y.1 = k
   · have hn : ¬ ∃ x ∈ L,x.1 = k := fun ⟨x,hx,hk⟩ => h1 x hx (e.trans hk.symm)
     rw [if_pos e,if_neg hn,if_pos ⟨y,List.mem_cons_self,e⟩]; simp only; omega
   · rw [if_neg e]
     by_cases hx : ∃ x ∈ L,x.1 = k
     · obtain ⟨x,hx1,hx2⟩ := hx
       rw [if_pos ⟨x,hx1,hx2⟩,if_pos ⟨x,List.mem_cons_of_mem _ hx1,hx2⟩]; omega
     · rw [if_neg hx, if_neg (fun ⟨x, hx1, hx2⟩ => by
         rcases List.mem_cons.1 hx1 with rfl | h3
         · exact e hx2
         · exact hx ⟨x,h3,hx2⟩)]; omega
theorem addL_sum {L : EL} {k : Fin 256} {d : Int} {c : Nat} (hw : WF gL L c) : sumV (addL L k d c) = sumV L + d := by
 unfold addL
 split
 · rename_i p hp
   obtain ⟨_,h2,h3⟩ := findK_some (i := p.1) (x := p.2) hp
   rw [upd_sum hw.keys,if_pos ⟨p.2,List.mem_of_getElem? h2,h3⟩]
 · rw [sumV_append]; simp [sumV]
theorem addL_nonneg {L : EL} {k : Fin 256} {d : Int} {c : Nat} (h : nonneg L) (hd : 0≤d) : nonneg (addL L k d c) := by
 unfold addL
 split
 · intro x hx
   obtain ⟨y,hy,rfl⟩ := List.mem_map.1 hx
   have := h y hy
   split
   · show 0≤y.2.1 + d; omega
   · exact this
 · intro x hx
   rcases List.mem_append.1 hx with hx | hx
   · exact h x hx
   · rw [List.mem_singleton.1 hx]; exact hd
theorem look_bd {L : EL} {k : Fin 256} (h : nonneg L) : 0≤lookL L k∧lookL L k≤sumV L := by
 unfold lookL
 split
 · rename_i i x hp
   obtain ⟨_,h2,h3⟩ := findK_some hp
   exact ⟨h _ (List.mem_of_getElem? h2),sumV_mem h _ (List.mem_of_getElem? h2)⟩
 · exact ⟨Int.le_refl _,sumV_nonneg h⟩
theorem addUp_ok {n : Nat} {k : Fin 256} {v : Int} {s : EL × Nat} (hw : WF gL s.1 s.2) (hs : nonneg s.1) (hv : 0≤v) : ∀ i : Nat,WF gL (addUp n k v s i).1 (addUp n k v s i).2∧nonneg (addUp n k v s i).1∧sumV (addUp n k v s i).1≤sumV s.1 + i * v
 | 0 => ⟨hw,hs,by simp [addUp]⟩
 | i + 1 => by
   obtain ⟨h1,h2,h3⟩ := addUp_ok (n := n) (k := k) hw hs hv i
   have e : ((i + 1 : Nat) : Int) * v = i * v + v := by push_cast; rw [Int.add_mul,Int.one_mul]
   rw [addUp]
   split
   · rename_i j _
     refine ⟨addL_wf h1 trivial,addL_nonneg h2 hv,?_⟩
     show sumV (addL _ _ _ _)≤_
     rw [addL_sum h1]; omega
   · exact ⟨h1,h2,by omega⟩
theorem outL_append {n : Nat} {D : EL} {x : Ent (Fin 256)} : outL n (D ++ [x]) = addUp n x.1 x.2.1 (outL n D) n := by
 unfold outL; rw [List.foldl_append]; rfl
theorem outL_ok {n : Nat} {D : EL} (h : nonneg D) : WF gL (outL n D).1 (outL n D).2∧nonneg (outL n D).1∧sumV (outL n D).1≤n * sumV D := by
 have key : ∀ (R : EL),nonneg R→WF gL (outL n R.reverse).1 (outL n R.reverse).2∧nonneg (outL n R.reverse).1∧sumV (outL n R.reverse).1≤n * sumV R.reverse := by
   intro R
   induction R with
   | nil => exact fun _ => ⟨⟨(fun x hx => by cases hx),List.Pairwise.nil,List.Pairwise.nil,(fun x hx => by cases hx)⟩,(fun x hx => by cases hx),by simp [outL,sumV]⟩
   | cons x R ih =>
     intro hR
     obtain ⟨h1,h2,h3⟩ := ih fun y hy => hR y (List.mem_cons_of_mem _ hy)
     rw [List.reverse_cons,outL_append]
     obtain ⟨k1,k2,k3⟩ := addUp_ok (n := n) (k := x.1) h1 h2 (hR x List.mem_cons_self) n
     refine ⟨k1,k2,?_⟩
     rw [sumV_append]
     have : sumV [x] = x.2.1 := by simp [sumV]
     rw [this,Int.mul_add]; omega
 have := key D.reverse fun x hx => h x (List.mem_reverse.1 hx)
 rw [List.reverse_reverse] at this
 exact this
theorem perm_more {D r W : EL} {x : Ent (Fin 256)} (h : (D ++ r).Perm W) (hx : x ∈ W) (hn : x.2.2 ∉ bornsL D) : ∃ r',(D ++ x :: r').Perm W := by
 have hm : x ∈ D ++ r := h.mem_iff.2 hx
 have hr : x ∈ r := by
   rcases List.mem_append.1 hm with h1 | h1
   · exact absurd (List.mem_map_of_mem h1) hn
   · exact h1
 obtain ⟨r',hp⟩ := List.perm_cons_erase hr |>.symm |> fun h => (⟨_,h⟩ : ∃ r',(x :: r').Perm r)
 exact ⟨r',((List.Perm.append_left D hp).trans h)⟩
theorem perm_done {D r W : EL} {c : Nat} (hw : WF gL W c) (h : (D ++ r).Perm W) (hd : ∀ x ∈ W,x.2.2 ∈ bornsL D) : D.Perm W := by
 cases r with
 | nil => rw [List.append_nil] at h; exact h
 | cons x r =>
   have hx : x ∈ W := h.mem_iff.1 (List.mem_append_right _ List.mem_cons_self)
   obtain ⟨y,hy,hyb⟩ := List.mem_map.1 (hd x hx)
   have hp : (D ++ x :: r).Pairwise fun a b => a.2.2 ≠ b.2.2 := (h.pairwise_iff (fun {a b} h e => h e.symm)).2 hw.borns
   exact absurd hyb ((List.pairwise_append.1 hp).2.2 y hy x List.mem_cons_self)
theorem touch_eq {L : EL} {k : Fin 256} {c : Nat} : touchL L k c = addL L k 0 c := by
 unfold touchL addL
 split
 · refine Eq.symm ((List.map_congr_left fun x _ => ?_).trans (List.map_id _))
   split
   · rw [Int.add_zero]; rfl
   · rfl
 · rfl
theorem slot_in {L : EL} {k : Fin 256} {c : Nat} : ∃ x ∈ touchL L k c,x.2.2 = slotL L k c := by
 unfold touchL slotL
 split
 · rename_i x h
   rw [h]
   obtain ⟨_,h2,_⟩ := findK_some (i := x.1) (x := x.2) h
   exact ⟨x.2,List.mem_of_getElem? h2,rfl⟩
 · rename_i h
   rw [h]
   exact ⟨_,List.mem_append_right _ List.mem_cons_self,rfl⟩
theorem womV_ok (n : Nat) (tk : Nat→Bool) (W : EL) (c : Nat) (hn : 1≤n∧n≤8) (hw : WF gL W c) (hp : nonneg W) (hs : sumV W≤1000000000000) : womV n tk W c := by
 unfold womV womV12 womV11 womV10 womV9 womV8 womV7 womV6 womV5 womV4 womV3 womV2 womV1 womV0
 simp only [SS,reduceCtorEq,Arg.list,Arg.num,Arg.flag,intOf,andP,Nat.reduceLeDiff,Nat.reduceAdd,Nat.reduceMul,Nat.reduceLT,un_kL,map_ent,sc_ent,fT_bits,fN_T8,fF_T8,T8_fT,AObj.map.injEq,AObj.iter.injEq,Array.mk.injEq,T8_getB]
 refine ⟨⟨[],⟨W,List.Perm.refl _⟩,⟨rfl,rfl⟩,rfl⟩,fun D ⟨r,hD⟩ => ⟨next_ok hw rfl rfl,fun h1 => ?_,fun x hx => ?_⟩⟩
 · exact ⟨D,perm_done hw hD h1,rfl,rfl⟩
 · obtain ⟨k0,v0,b0⟩ := x
   refine ⟨ent_ok (kv := kL n) (x := (k0,v0,b0)) hw.borns hx.1 rfl rfl,⟨((k0,v0,b0),0),⟨Nat.zero_le _,perm_more hD hx.1 hx.2⟩,⟨⟨rfl,rfl⟩,rfl,rfl⟩,rfl,rfl⟩,fun y ⟨hy1,r',hy2⟩ => ⟨fun hlt => ?_,fun hge => ?_⟩⟩
   · obtain ⟨⟨k,v,b⟩,i⟩ := y
     simp only at hy1 hy2 hlt ⊢
     have hin : i < n := by omega
     have hmem : (k,v,b) ∈ W := hy2.mem_iff.1 (List.mem_append_right _ List.mem_cons_self)
     have hv : 0≤v := hp _ hmem
     have hpD : nonneg D := fun z hz => hp z (hy2.mem_iff.1 (List.mem_append_left _ hz))
     have hsum : sumV D + v≤sumV W := by
       rw [← sumV_perm hy2,sumV_append,sumV_cons]
       have := sumV_nonneg (L := r') fun z hz => hp z (hy2.mem_iff.1 (List.mem_append_right _ (List.mem_cons_of_mem _ hz)))
       simp only
       omega
     obtain ⟨o1,o2,o3⟩ := outL_ok (n := n) hpD
     obtain ⟨u1,u2,u3⟩ := addUp_ok (n := n) (k := k) (v := v) o1 o2 hv i
     obtain ⟨j,hj⟩ : ∃ j,∀ h,(⟨maskOf (runP false n k.1.testBit [(i : Int)]).tk,h⟩ : Fin 256) = j := ⟨⟨maskOf (runP false n k.1.testBit [(i : Int)]).tk,mask_lt _⟩,fun _ => rfl⟩
     have hone : (runP false n k.1.testBit [(i : Int)]).fell = 0→addUp n k v (outL n D) (i + 1) = (addL (addUp n k v (outL n D) i).1 j v (addUp n k v (outL n D) i).2,touchC (addUp n k v (outL n D) i).1 j (addUp n k v (outL n D) i).2) := fun h => by
       rw [addUp]; unfold oneMore; rw [if_pos h,hj]
     have hone' : (runP false n k.1.testBit [(i : Int)]).fell ≠ 0→addUp n k v (outL n D) (i + 1) = addUp n k v (outL n D) i := fun h => by
       rw [addUp]; unfold oneMore; rw [if_neg h]
     have ek : Value.agg { toList := lgC n (runP false n k.1.testBit [(i : Int)]).tk } = kL n j := by rw [← hj (mask_lt _)]; exact kL_mask
     have hbd : sumV (addUp n k v (outL n D) i).1≤8 * 1000000000000 := by
       have h1 : (n : Int) * sumV D≤8 * sumV D := Int.mul_le_mul_of_nonneg_right (by omega) (sumV_nonneg hpD)
       have h2 : (i : Int) * v≤8 * v := Int.mul_le_mul_of_nonneg_right (by omega) hv
       omega
     generalize addUp n k v (outL n D) i = S at *
     generalize runP false n k.1.testBit [(i : Int)] = R at *
     refine ⟨⟨⟨rfl,rfl,by rw [fN_T8]; omega,by rw [fN_T8]; omega,(fun z hz => by rw [List.mem_singleton.1 hz,fN_T8]; omega),by simp⟩,by decide⟩,rfl,fun hf => ?_,fun hf => ?_⟩
     · have hone2 := hone hf
       have hD0 := sumV_nonneg hpD
       simp only [kL_uL,hj]
       simp only [ek]
       have b0 := look_bd (k := j) u2
       have e1 : IntKind.i64.wrap (lookL S.1 j + v) = lookL S.1 j + v := wrap_in (by omega) (by omega)
       have e2 : IntKind.i64.wrap ((i : Int) + 1) = ((i + 1 : Nat) : Int) := by rw [wrap_in (by omega) (by omega)]; push_cast; rfl
       have w2 : WF gL (touchL S.1 j S.2) (touchC S.1 j S.2) := by rw [touch_eq]; exact addL_wf u1 trivial
       have l2 : lookL (touchL S.1 j S.2) j = lookL S.1 j := by rw [touch_eq,look_add u1 trivial]; simp
       refine ⟨look_ok (keyOk n) T85 u1 Z2 rfl trivial,entry_ok (keyOk n) T85 u1 Z2 rfl trivial,⟨⟨look_ok (keyOk n) T85 w2 Z2 rfl trivial,by rw [l2]; unfold eqV; exact decide_eq_true rfl⟩,?_⟩,?_,((k,v,b),i + 1),⟨by omega,r',hy2⟩,?_⟩
       · unfold eqV; exact decide_eq_true rfl
       · rw [e1]
         exact store_ok w2.borns rfl slot_in
       · refine ⟨by simp only; omega,⟨⟨?_,?_⟩,rfl,rfl⟩,rfl,e2⟩
         · simp only [hone2,e1,store_touch u1]
         · simp only [hone2]
     · have hone2 := hone' hf
       have e2 : IntKind.i64.wrap ((i : Int) + 1) = ((i + 1 : Nat) : Int) := by rw [wrap_in (by omega) (by omega)]; push_cast; rfl
       refine ⟨((k,v,b),i + 1),⟨by omega,r',hy2⟩,by omega,⟨?_,rfl,rfl⟩,rfl,e2⟩
       simp only [hone2]
       exact ⟨trivial,trivial⟩
   · obtain ⟨⟨k,v,b⟩,i⟩ := y
     simp only at hy1 hy2 hge ⊢
     have hi : i = n := by omega
     subst hi
     refine ⟨D ++ [(k,v,b)],⟨r',by rw [List.append_assoc]; exact hy2⟩,?_,⟨?_,?_⟩,?_⟩
     · have := hy2.length_eq
       simp only [List.length_append,List.length_cons,List.length_nil] at this ⊢
       omega
     · rw [outL_append]
     · rw [outL_append]
     · simp [bornsL]
theorem womE_ok (n : Int) : VOk Try.prog (womE n) := ⟨CtOk.none.add dropA_ok,E0_ok.cc,E0_ok.yc,orcMap_ok⟩
theorem ofVcC {E : VEnv} (hct : VOk Try.prog E) {f : FuncId} {fn : Func} {c : Code} {args : List Value} {H : Heap} {inv : Nat→Option LInv} {R : Value→Heap→Prop} (hf : Try.prog.funcs[f]? = some fn) (hb : fn.body = some c)
   (h : vc Try.prog E H.length (args.length + (fn.ntmps - args.length)) true inv c [] (argFr 0 args) H (retC Try.prog fn R)) : Call Try.prog f args H R :=
 Call.ofBody hct mixed hf hb (fun x D F' H' hr => by
   have hr' : (x = .normal∨x = .ret)∧(match fresults Try.prog fn F' H' with | some (φ,v) => (match φ with | [] => R v H' | φ => AskAll φ∧R v H') | none => False) := by
     cases x with
     | normal => exact ⟨.inl rfl,hr⟩
     | ret => exact ⟨.inr rfl,hr⟩
     | exit id => exact hr.elim
   refine ⟨hr'.1,?_⟩
   have hr' := hr'.2
   split at hr'
   · rename_i φ v he
     refine ⟨φ,v,he,?_⟩
     split at hr'
     · exact ⟨trivial,hr'⟩
     · exact hr'
   · exact hr'.elim) h
theorem wom_call (n : Nat) (tk : Nat→Bool) (W : EL) (c : Nat) (hn : 1≤n∧n≤8) (hw : WF gL W c) (hp : nonneg W) (hs : sumV W≤1000000000000) :
   Call Try.prog 79 [.map (some 1)] [.rw (lgC n tk) none,.map (ent (kL n) W) c] fun v H' => ∃ D : EL,D.Perm W∧v = .map (some 2)∧H' = [.rw (lgC n tk) none,.map (ent (kL n) W) c,.map (ent (kL n) (outL n D).1) (outL n D).2] :=
 Call.anew ((ofVcC (womE_ok n) (c := womB) (inv := womI n (.rw (lgC n tk) none) W c) (H := [.rw (lgC n tk) none,.map (ent (kL n) W) c]) Try.func79 (by kernel_rfl) (cast (congrFun (congrFun (congrFun (congrFun womV_eq n) tk) W) c) (womV_ok n tk W c hn hw hp hs))).mono fun v H1 hr => by
   obtain ⟨D,hD,hr⟩ := hr
   obtain ⟨a,b⟩ := hr.anew
   obtain ⟨b1,b2⟩ := b 0 _ rfl
   exact ⟨_,_,_,a,Option.some.inj b1,b2,D,ob_iff.1 hD,rfl,rfl⟩)
def womPre (n : Nat) (o : AObj) (es : List MapEntry) (c : Nat) : Prop := (∃ tk,o = .rw (lgC n tk) none)∧(1≤n∧n≤8)∧es = ent (kL n) (un uL es)∧WF gL (un uL es) c∧nonneg (un uL es)∧sumV (un uL es)≤1000000000000
def ccWom (n : Nat) : Cc := fun f args H => match Nat.beq f 79,args,H with
 | true,[.map (some 1)],[o,.map es c] => some fun Q => Ob (womPre n o es c)∧∀ D : EL,Ob (D.Perm (un uL es))→Q (.map (some 2)) [o,.map es c,.map (ent (kL n) (outL n D).1) (outL n D).2]
 | _,_,_ => none
theorem ccWom_ok (n : Nat) : CcOk Try.prog (ccWom n) := fun f args H T h Q hT => by
 unfold ccWom at h
 split at h <;> cases h
 rename_i o es c hf
 rw [Nat.eq_of_beq_eq_true hf]
 obtain ⟨h0,h7⟩ := hT
 obtain ⟨⟨tk,h1⟩,h2,h3,h4,h5,h6⟩ := ob_iff.1 h0
 have := wom_call n tk (un uL es) c h2 h4 h5 h6
 rw [← h1,← h3] at this
 exact this.mono fun v H' ⟨D,hD,hv,hH⟩ => by rw [hv,hH]; exact h7 D (ob_iff.2 hD)
end Go.Pier.Lg
set_option maxRecDepth 100000
set_option linter.unusedVariables false
set_option linter.unusedSimpArgs false
namespace Go.Pier.Lg
open Go Go.Pier Go.Proofs
noncomputable def besB : Code := Try.f80.body.getD .skip
def aV (tk : Nat→Bool) : Value := .agg #[.bool (tk 0),.bool (tk 1),.bool (tk 2),.bool (tk 3),.bool (tk 4),.bool (tk 5),.bool (tk 6),.bool (tk 7)]
def besF (a b : Nat→Bool) (i j : Nat) : Bool := decide (j < i) && (a j && !b j)
def besI (a b : Nat→Bool) : Nat→Option LInv := invOf 0 (LInv.one Nat (fun i => i≤8)
 (fun i => [(2,ptr0 0),(3,ptr0 1),(4,ptr0 2),(5,ptr0 3),(7,vi i)]) (fun i => [.rw (T8 a []) none,.rw (T8 b []) none,.rw (T8 emp []) none,.rw (T8 (besF a b i) []) none]) (fun i => 8 - i))
noncomputable def besE : VEnv := { orc := orcB }
noncomputable def besV :=
fun (a b:Nat→Bool)↦(∃ (y:Nat),Ob (y≤8)∧(Ob (AObj.rw (T8 a []) none=AObj.rw (T8 a []) none∧true=true)∧Ob (AObj.rw (T8 b []) none=AObj.rw (T8 b []) none∧true=true)∧Ob (AObj.rw (T8 emp []) none=AObj.rw (T8 emp []) none∧true=true)∧Ob (AObj.rw (T8 emp []) none=AObj.rw (T8 (besF a b y) []) none∧true=true)∧True)∧Ob (ptr0 0=ptr0 0)∧Ob (ptr0 1=ptr0 1)∧Ob (ptr0 2=ptr0 2)∧Ob (ptr0 3=ptr0 3)∧Ob ((0:Int)=(y:Int))∧True)∧∀ (x:Nat),Ob (x≤8)→(decide ((x:Int)<(8:Int))=true→Ob ((0:Int)≤(x:Int)∧(x:Int)<(↑(8:Nat):Int))∧Ob (BoolAt (T8 a []) (0+(x:Int).toNat * 1))∧(getB (T8 a []) (0+(x:Int).toNat * 1)=true→Ob ((0:Int)≤(x:Int)∧(x:Int)<(↑(8:Nat):Int))∧Ob (BoolAt (T8 b []) (0+(x:Int).toNat * 1))∧Ob ((0:Int)≤(x:Int)∧(x:Int)<(↑(8:Nat):Int))∧Ob (BoolAt (T8 (besF a b x) []) (0+(x:Int).toNat * 1)∧some 1=some 1)∧∃ (y:Nat),Ob (y≤8)∧Ob (8-y<8-x)∧(Ob (AObj.rw (T8 a []) none=AObj.rw (T8 a []) none∧true=true)∧Ob (AObj.rw (T8 b []) none=AObj.rw (T8 b []) none∧true=true)∧Ob (AObj.rw (T8 emp []) none=AObj.rw (T8 emp []) none∧true=true)∧Ob (AObj.rw [Value.bool (bif Nat.beq 0 (0+(x:Int).toNat * 1) then !getB (T8 b []) (0+(x:Int).toNat * 1) else besF a b x 0),Value.bool (bif Nat.beq 1 (0+(x:Int).toNat * 1) then !getB (T8 b []) (0+(x:Int).toNat * 1) else besF a b x 1),Value.bool (bif Nat.beq 2 (0+(x:Int).toNat * 1) then !getB (T8 b []) (0+(x:Int).toNat * 1) else besF a b x 2),Value.bool (bif Nat.beq 3 (0+(x:Int).toNat * 1) then !getB (T8 b []) (0+(x:Int).toNat * 1) else besF a b x 3),Value.bool (bif Nat.beq 4 (0+(x:Int).toNat * 1) then !getB (T8 b []) (0+(x:Int).toNat * 1) else besF a b x 4),Value.bool (bif Nat.beq 5 (0+(x:Int).toNat * 1) then !getB (T8 b []) (0+(x:Int).toNat * 1) else besF a b x 5),Value.bool (bif Nat.beq 6 (0+(x:Int).toNat * 1) then !getB (T8 b []) (0+(x:Int).toNat * 1) else besF a b x 6),Value.bool (bif Nat.beq 7 (0+(x:Int).toNat * 1) then !getB (T8 b []) (0+(x:Int).toNat * 1) else besF a b x 7)] none=AObj.rw (T8 (besF a b y) []) none∧true=true)∧True)∧Ob (ptr0 0=ptr0 0)∧Ob (ptr0 1=ptr0 1)∧Ob (ptr0 2=ptr0 2)∧Ob (ptr0 3=ptr0 3)∧Ob (IntKind.i64.wrap ((x:Int)+(1:Int))=(y:Int))∧True)∧(getB (T8 a []) (0+(x:Int).toNat * 1)=false→Ob ((0:Int)≤(x:Int)∧(x:Int)<(↑(8:Nat):Int))∧Ob (BoolAt (T8 (besF a b x) []) (0+(x:Int).toNat * 1)∧some 1=some 1)∧∃ (y:Nat),Ob (y≤8)∧Ob (8-y<8-x)∧(Ob (AObj.rw (T8 a []) none=AObj.rw (T8 a []) none∧true=true)∧Ob (AObj.rw (T8 b []) none=AObj.rw (T8 b []) none∧true=true)∧Ob (AObj.rw (T8 emp []) none=AObj.rw (T8 emp []) none∧true=true)∧Ob (AObj.rw [Value.bool (bif Nat.beq 0 (0+(x:Int).toNat * 1) then false else besF a b x 0),Value.bool (bif Nat.beq 1 (0+(x:Int).toNat * 1) then false else besF a b x 1),Value.bool (bif Nat.beq 2 (0+(x:Int).toNat * 1) then false else besF a b x 2),Value.bool (bif Nat.beq 3 (0+(x:Int).toNat * 1) then false else besF a b x 3),Value.bool (bif Nat.beq 4 (0+(x:Int).toNat * 1) then false else besF a b x 4),Value.bool (bif Nat.beq 5 (0+(x:Int).toNat * 1) then false else besF a b x 5),Value.bool (bif Nat.beq 6 (0+(x:Int).toNat * 1) then false else besF a b x 6),Value.bool (bif Nat.beq 7 (0+(x:Int).toNat * 1) then false else besF a b x 7)] none=AObj.rw (T8 (besF a b y) []) none∧true=true)∧True)∧Ob (ptr0 0=ptr0 0)∧Ob (ptr0 1=ptr0 1)∧Ob (ptr0 2=ptr0 2)∧Ob (ptr0 3=ptr0 3)∧Ob (IntKind.i64.wrap ((x:Int)+(1:Int))=(y:Int))∧True))∧(decide ((x:Int)<(8:Int))=false→Ob (8≤8)∧True∧Ob (Value.agg { toList := (T8 (besF a b x) []) }=Value.agg { toList := (T8 (besF a b 8) []) })∧True)
theorem besV_eq : besV = fun (a b : Nat→Bool) => vc Try.prog besE 0 23 true (besI a b) besB [] (argFr 0 [aV a,aV b]) [] (retR Try.prog Try.f80 0 (fun b => b) (aV (besF a b 8)) []) := by kernel_rfl
theorem T80_getB {tk : Nat→Bool} {r : List Value} {a : Nat} (h : a < 8) : getB (T8 tk r) a = tk a := by
 rcases a with _ | _ | _ | _ | _ | _ | _ | _ | a <;> first | rfl | omega
theorem T80_boolAt {tk : Nat→Bool} {r : List Value} {a : Nat} (h : a < 8) : BoolAt (T8 tk r) a := by
 rcases a with _ | _ | _ | _ | _ | _ | _ | _ | a <;> first | rfl | omega
theorem bes_step {a b : Nat→Bool} {x j : Nat} {v : Bool} (h : v = (a x && !b x)) : (bif Nat.beq j x then v else besF a b x j) = besF a b (x + 1) j := by
 by_cases e : j = x
 · subst e; rw [Nat.beq_refl,h]; simp [besF]
 · have : Nat.beq j x = false := by
     cases hb : Nat.beq j x with
     | false => rfl
     | true => exact absurd (Nat.eq_of_beq_eq_true hb) e
   rw [this]
   by_cases h1 : j < x
   · simp [besF,h1,show j < x + 1 by omega]
   · simp [besF,h1,show ¬ j < x + 1 by omega]
theorem besV_ok (a b : Nat→Bool) : besV a b := by
 unfold besV
 simp only [SS,reduceCtorEq,Arg.list,Arg.num,Arg.flag,intOf,andP,Nat.reduceLeDiff,Nat.reduceAdd,Nat.reduceMul,Nat.reduceLT]
 refine ⟨⟨0,Nat.zero_le _,?_⟩,fun x hx => ⟨fun h => ?_,fun h => ?_⟩⟩
 · refine ⟨?_,rfl⟩
   simp [T8,emp,besF]
 · have hx8 : x < 8 := by omega
   have ew : IntKind.i64.wrap ((x : Int) + 1) = ((x + 1 : Nat) : Int) := by rw [wrap_in (by omega) (by omega)]; push_cast; rfl
   rw [T80_getB hx8,T80_getB hx8]
   refine ⟨⟨by omega,by omega⟩,T80_boolAt hx8,fun ha => ⟨⟨by omega,by omega⟩,T80_boolAt hx8,⟨by omega,by omega⟩,T80_boolAt hx8,x + 1,by omega,by omega,?_,ew⟩,fun ha => ⟨⟨by omega,by omega⟩,T80_boolAt hx8,x + 1,by omega,by omega,?_,ew⟩⟩
   · have hv : (!b x) = (a x && !b x) := by rw [ha]; rfl
     simp only [bes_step hv]; rfl
   · have hv : false = (a x && !b x) := by rw [ha]; rfl
     simp only [bes_step hv]; rfl
 · rw [show x = 8 by omega]
theorem besE_ok : VOk Try.prog besE := ⟨CtOk.none,E0_ok.cc,E0_ok.yc,orcB_ok⟩
theorem bes_call (a b : Nat→Bool) : Call Try.prog 80 [aV a,aV b] [] fun v H' => v = aV (besF a b 8)∧H' = [] :=
 Call.ofVcR besE_ok mixed (c := besB) (inv := besI a b) Try.func80 (by kernel_rfl) (cast (congrFun (congrFun besV_eq a) b) (besV_ok a b))
def plainG (s : List Value→Option (Prop × Value)) : List Value→Heap→Option (Option Prop × Value × Heap × List Nat) := fun args H => match s args with
 | some (φ,v) => some (some φ,v,H,[])
 | none => none
def Plain (v : Value) : Prop := (∀ σ,nmap σ v = v)∧(∀ m,sc m v = true)∧∀ p,nm p v = true
theorem canon_vals {c : Nat→Nat} {m : Nat} : ∀ (l : List Value),canonA2 c m (l.map .val) = l
 | [] => rfl
 | a :: l => by rw [List.map_cons,canonA2,canon_vals l]
theorem canonH_vals : ∀ (l : List Value),canonH2 (l.map .val) = []
 | [] => rfl
 | a :: l => by rw [List.map_cons,canonH2,canonH_vals l]
theorem read_vals {H : Heap} {σ : Nat→Nat} {B : List Nat} {m : Nat} : ∀ (l : List Value),(∀ a ∈ l,Plain a)→ReadA2 H σ B m (l.map .val) l
 | [],_ => trivial
 | a :: l,h => ⟨((h a List.mem_cons_self).1 σ).symm,(h a List.mem_cons_self).2.1 m,read_vals l fun b hb => h b (List.mem_cons_of_mem _ hb)⟩
theorem plainG_ok {f : FuncId} {s : List Value→Option (Prop × Value)} (h : ∀ args φ v,s args = some (φ,v)→φ→(∀ a ∈ args,Plain a)∧Plain v∧Call Try.prog f args [] fun v' H' => v' = v∧H' = []) :
   ∀ args H φ v H' l,plainG s args H = some (φ,v,H',l)→Asks φ→Call Try.prog f args H (fun v' H2 => v' = v∧H2 = H')∧Kept H H' l := by
 intro args H φ v H' l hh hφ
 unfold plainG at hh
 split at hh <;> cases hh
 rename_i φ hs
 obtain ⟨h1,h2,h3⟩ := h args φ v hs hφ
 have := Call.frameL (P := Try.prog) (f := f) (H := H) (Et := []) (Ft := []) (N := []) (L := []) (ags := args.map .val) (vs := args) (v := v) rfl rfl (by simp) (fun _ h => by cases h)
   (fun c o h => by simp at h) (fun _ h => by cases h) (read_vals args h1) (fun caps => by rw [canon_vals,canonH_vals]; exact h3)
   (fun _ h => by cases h) (fun _ h => by cases h) (h2.2.2 _) (fun _ h => by cases h) (by rw [h2.1]; exact h2.2.1 _)
 rw [h2.1] at this
 simpa only [List.map_nil,List.append_nil,setL] using this
def fV (v : Value) : Nat→Bool := fun i => getB (aggC v) i
def besS : List Value→Option (Prop × Value) := fun args => match args with
 | [a,b] => some (a = aV (fV a)∧b = aV (fV b),aV (besF (fV a) (fV b) 8))
 | _ => none
theorem aV_plain {tk : Nat→Bool} : Plain (aV tk) := ⟨fun σ => by simp [aV,nmap,nmap2,nmap1,nmap0],fun m => by simp [aV,sc,sc2,sc1,sc0],fun p => by simp [aV,nm,nm2,nm1,nm0]⟩
theorem besG_ok : ∀ args H φ v H' l,plainG besS args H = some (φ,v,H',l)→Asks φ→Call Try.prog 80 args H (fun v' H2 => v' = v∧H2 = H')∧Kept H H' l :=
 plainG_ok fun args φ v hs hφ => by
   unfold besS at hs
   split at hs <;> cases hs
   rename_i a b
   obtain ⟨h1,h2⟩ := hφ
   have := bes_call (fV a) (fV b)
   rw [← h1,← h2] at this
   refine ⟨mem_two ?_ ?_,aV_plain,this⟩
   · rw [h1]; exact aV_plain
   · rw [h2]; exact aV_plain
end Go.Pier.Lg
set_option maxRecDepth 100000
set_option linter.unusedVariables false
set_option linter.unusedSimpArgs false
namespace Go.Pier.Lg
open Go Go.Pier Go.Proofs
theorem pow9 : ∀ q : Nat,q < 10→∀ x : Nat,x < 9→(0 : Int)≤(q : Int) ^ x∧(q : Int) ^ x≤43046721 := by decide +kernel
theorem pow9i {p : Int} {x : Nat} (h : 0≤p∧p < 10) (hx : x < 9) : 0≤p ^ x∧p ^ x≤43046721 := by
 obtain ⟨q,rfl⟩ := Int.eq_ofNat_of_zero_le h.1
 exact pow9 q (by omega) x hx
end Go.Pier.Lg
set_option maxRecDepth 100000
set_option linter.unusedVariables false
set_option linter.unusedSimpArgs false
namespace Go.Pier.Lg
open Go Go.Pier Go.Proofs
noncomputable def lvB : Code := Try.f69.body.getD .skip
def eq8 (a b : Value) : Bool := (List.range' 0 8).all fun i => fV a i == fV b i
def orcN : Orc := fun env H o => match o.op with
 | .binOp .neq t x y _ => match Nat.beq t 60,env x,env y with
   | true,some a,some b => some (a = aV (fV a)∧b = aV (fV b),some (.bool (!eq8 a b)),H)
   | _,_,_ => none
 | _ => none
def subG (goal : Nat→Bool) (k : Fin 256) : Bool := (List.range 8).all fun j => !k.1.testBit j || goal j
def stepL (n : Nat) (goal : Nat→Bool) (W : EL) : EL × Nat := ((outL n W).1.filter (fun x => subG goal x.1),(outL n W).2)
def iterL (n : Nat) (goal : Nat→Bool) : Nat→EL × Nat
 | 0 => ([(0,1,0)],1)
 | i + 1 => stepL n goal (iterL n goal i).1
def keyF (goal : Nat→Bool) : Fin 256 := ⟨maskOf goal,mask_lt _⟩
def leaveS (n : Nat) (goal : Nat→Bool) (m : Nat) : Int := lookL (iterL n goal m).1 (keyF goal)
def remV (goal : Nat→Bool) (V N : EL) : EL := N.filter fun x => subG goal x.1 || !decide (x.2.2 ∈ bornsL V)
def lvI2 (n m : Nat) (goal : Nat→Bool) (i : Nat) (W : EL) (c : Nat) : LInv := LInv.one (EL × EL) (fun p => p.1.Perm W∧∃ r,(p.2 ++ r).Perm (outL n p.1).1)
 (fun _ => [(2,ptr0 0),(4,vi 0),(5,.map (some 2)),(12,vi m),(13,vi i),(18,ptr0 3)])
 (fun p => [.rw (lgC n goal) none,.map (ent (kL n) W) c,.map (ent (kL n) (remV goal p.2 (outL n p.1).1)) (outL n p.1).2,.iter 2 (outL n p.1).2 (bornsL p.2).toArray (outL n p.1).2]) (fun p => (outL n p.1).1.length - p.2.length)
def lvI (n m : Nat) (goal : Nat→Bool) : Nat→Option LInv := invOf 0 (.mk [⟨Nat × EL × Nat,fun p => p.1≤m∧WF gL p.2.1 p.2.2∧nonneg p.2.1∧sumV p.2.1≤8 ^ p.1∧∀ j,lookL p.2.1 j = lookL (iterL n goal p.1).1 j,
   fun p => [(2,ptr0 0),(4,vi 0),(5,.map (some 1)),(12,vi m),(13,vi p.1)],fun p => [.rw (lgC n goal) none,.map (ent (kL n) p.2.1) p.2.2],fun p => m - p.1,fun p => invOf 2 (lvI2 n m goal p.1 p.2.1 p.2.2)⟩]
 (fun _ b => b) (fun _ _ => [nsub 1 2]))
noncomputable def lvE (n : Nat) : VEnv := { ct := Ct.none.add 80 (plainG besS),cc := ccWom n,orc := orcOr orcN (orcMap Try.prog (kL n) uL 19),nx := nxMap (kL n) uL }
noncomputable def lvV0 (n m:Nat) (goal:Nat→Bool) (x_2q:Fin 256 × Int × Nat):Array Value := ⟨[Value.bool (besF (fV (Value.agg ⟨[Value.bool ((↑x_2q.fst:Nat).testBit 0),Value.bool ((↑x_2q.fst:Nat).testBit 1),Value.bool ((↑x_2q.fst:Nat).testBit 2),Value.bool ((↑x_2q.fst:Nat).testBit 3),Value.bool ((↑x_2q.fst:Nat).testBit 4),Value.bool ((↑x_2q.fst:Nat).testBit 5),Value.bool ((↑x_2q.fst:Nat).testBit 6),Value.bool ((↑x_2q.fst:Nat).testBit 7)]⟩)) (fV (Value.agg ⟨[Value.bool (goal 0),Value.bool (goal 1),Value.bool (goal 2),Value.bool (goal 3),Value.bool (goal 4),Value.bool (goal 5),Value.bool (goal 6),Value.bool (goal 7)]⟩)) 8 0),Value.bool (besF (fV (Value.agg ⟨[Value.bool ((↑x_2q.fst:Nat).testBit 0),Value.bool ((↑x_2q.fst:Nat).testBit 1),Value.bool ((↑x_2q.fst:Nat).testBit 2),Value.bool ((↑x_2q.fst:Nat).testBit 3),Value.bool ((↑x_2q.fst:Nat).testBit 4),Value.bool ((↑x_2q.fst:Nat).testBit 5),Value.bool ((↑x_2q.fst:Nat).testBit 6),Value.bool ((↑x_2q.fst:Nat).testBit 7)]⟩)) (fV (Value.agg ⟨[Value.bool (goal 0),Value.bool (goal 1),Value.bool (goal 2),Value.bool (goal 3),Value.bool (goal 4),Value.bool (goal 5),Value.bool (goal 6),Value.bool (goal 7)]⟩)) 8 1),Value.bool (besF (fV (Value.agg ⟨[Value.bool ((↑x_2q.fst:Nat).testBit 0),Value.bool ((↑x_2q.fst:Nat).testBit 1),Value.bool ((↑x_2q.fst:Nat).testBit 2),Value.bool ((↑x_2q.fst:Nat).testBit 3),Value.bool ((↑x_2q.fst:Nat).testBit 4),Value.bool ((↑x_2q.fst:Nat).testBit 5),Value.bool ((↑x_2q.fst:Nat).testBit 6),Value.bool ((↑x_2q.fst:Nat).testBit 7)]⟩)) (fV (Value.agg ⟨[Value.bool (goal 0),Value.bool (goal 1),Value.bool (goal 2),Value.bool (goal 3),Value.bool (goal 4),Value.bool (goal 5),Value.bool (goal 6),Value.bool (goal 7)]⟩)) 8 2),Value.bool (besF (fV (Value.agg ⟨[Value.bool ((↑x_2q.fst:Nat).testBit 0),Value.bool ((↑x_2q.fst:Nat).testBit 1),Value.bool ((↑x_2q.fst:Nat).testBit 2),Value.bool ((↑x_2q.fst:Nat).testBit 3),Value.bool ((↑x_2q.fst:Nat).testBit 4),Value.bool ((↑x_2q.fst:Nat).testBit 5),Value.bool ((↑x_2q.fst:Nat).testBit 6),Value.bool ((↑x_2q.fst:Nat).testBit 7)]⟩)) (fV (Value.agg ⟨[Value.bool (goal 0),Value.bool (goal 1),Value.bool (goal 2),Value.bool (goal 3),Value.bool (goal 4),Value.bool (goal 5),Value.bool (goal 6),Value.bool (goal 7)]⟩)) 8 3),Value.bool (besF (fV (Value.agg ⟨[Value.bool ((↑x_2q.fst:Nat).testBit 0),Value.bool ((↑x_2q.fst:Nat).testBit 1),Value.bool ((↑x_2q.fst:Nat).testBit 2),Value.bool ((↑x_2q.fst:Nat).testBit 3),Value.bool ((↑x_2q.fst:Nat).testBit 4),Value.bool ((↑x_2q.fst:Nat).testBit 5),Value.bool ((↑x_2q.fst:Nat).testBit 6),Value.bool ((↑x_2q.fst:Nat).testBit 7)]⟩)) (fV (Value.agg ⟨[Value.bool (goal 0),Value.bool (goal 1),Value.bool (goal 2),Value.bool (goal 3),Value.bool (goal 4),Value.bool (goal 5),Value.bool (goal 6),Value.bool (goal 7)]⟩)) 8 4),Value.bool (besF (fV (Value.agg ⟨[Value.bool ((↑x_2q.fst:Nat).testBit 0),Value.bool ((↑x_2q.fst:Nat).testBit 1),Value.bool ((↑x_2q.fst:Nat).testBit 2),Value.bool ((↑x_2q.fst:Nat).testBit 3),Value.bool ((↑x_2q.fst:Nat).testBit 4),Value.bool ((↑x_2q.fst:Nat).testBit 5),Value.bool ((↑x_2q.fst:Nat).testBit 6),Value.bool ((↑x_2q.fst:Nat).testBit 7)]⟩)) (fV (Value.agg ⟨[Value.bool (goal 0),Value.bool (goal 1),Value.bool (goal 2),Value.bool (goal 3),Value.bool (goal 4),Value.bool (goal 5),Value.bool (goal 6),Value.bool (goal 7)]⟩)) 8 5),Value.bool (besF (fV (Value.agg ⟨[Value.bool ((↑x_2q.fst:Nat).testBit 0),Value.bool ((↑x_2q.fst:Nat).testBit 1),Value.bool ((↑x_2q.fst:Nat).testBit 2),Value.bool ((↑x_2q.fst:Nat).testBit 3),Value.bool ((↑x_2q.fst:Nat).testBit 4),Value.bool ((↑x_2q.fst:Nat).testBit 5),Value.bool ((↑x_2q.fst:Nat).testBit 6),Value.bool ((↑x_2q.fst:Nat).testBit 7)]⟩)) (fV (Value.agg ⟨[Value.bool (goal 0),Value.bool (goal 1),Value.bool (goal 2),Value.bool (goal 3),Value.bool (goal 4),Value.bool (goal 5),Value.bool (goal 6),Value.bool (goal 7)]⟩)) 8 6),Value.bool (besF (fV (Value.agg ⟨[Value.bool ((↑x_2q.fst:Nat).testBit 0),Value.bool ((↑x_2q.fst:Nat).testBit 1),Value.bool ((↑x_2q.fst:Nat).testBit 2),Value.bool ((↑x_2q.fst:Nat).testBit 3),Value.bool ((↑x_2q.fst:Nat).testBit 4),Value.bool ((↑x_2q.fst:Nat).testBit 5),Value.bool ((↑x_2q.fst:Nat).testBit 6),Value.bool ((↑x_2q.fst:Nat).testBit 7)]⟩)) (fV (Value.agg ⟨[Value.bool (goal 0),Value.bool (goal 1),Value.bool (goal 2),Value.bool (goal 3),Value.bool (goal 4),Value.bool (goal 5),Value.bool (goal 6),Value.bool (goal 7)]⟩)) 8 7)]⟩
noncomputable def lvV1 (n m:Nat) (goal:Nat→Bool) (x_2q:Fin 256 × Int × Nat):Array Value := ⟨[Value.bool ((↑x_2q.fst:Nat).testBit 0),Value.bool ((↑x_2q.fst:Nat).testBit 1),Value.bool ((↑x_2q.fst:Nat).testBit 2),Value.bool ((↑x_2q.fst:Nat).testBit 3),Value.bool ((↑x_2q.fst:Nat).testBit 4),Value.bool ((↑x_2q.fst:Nat).testBit 5),Value.bool ((↑x_2q.fst:Nat).testBit 6),Value.bool ((↑x_2q.fst:Nat).testBit 7)]⟩
noncomputable def lvV2 (n m:Nat) (goal:Nat→Bool):Array Value := ⟨[Value.bool (goal 0),Value.bool (goal 1),Value.bool (goal 2),Value.bool (goal 3),Value.bool (goal 4),Value.bool (goal 5),Value.bool (goal 6),Value.bool (goal 7)]⟩
noncomputable def lvV3 (n m:Nat) (goal:Nat→Bool) (x_1:EL × EL) := (ent (kL (n:Int)) (remV goal x_1.snd (outL n x_1.fst).fst))
noncomputable def lvV4 (n m:Nat) (goal:Nat→Bool):Array Value := ⟨[Value.bool false,Value.bool false,Value.bool false,Value.bool false,Value.bool false,Value.bool false,Value.bool false,Value.bool false]⟩
noncomputable def lvV5 (n m:Nat) (goal:Nat→Bool):Prop := (AObj.rw (lgC (n:Int) goal) none=AObj.rw (lgC (n:Int) goal) none∧true=true)
noncomputable def lvV6 (n m:Nat) (goal:Nat→Bool) (x:Nat × EL × Nat) := (ent (kL (n:Int)) x.snd.fst)
noncomputable def lvV :=
fun (n m:Nat) (goal:Nat→Bool)↦Ob (some (vi (n:Int))=some (vi (n:Int)))∧(∃ (y:Nat × EL × Nat),Ob (y.fst≤m∧WF gL y.snd.fst y.snd.snd∧nonneg y.snd.fst∧sumV y.snd.fst≤(8:Int) ^ y.fst∧∀ (j:Fin 256),lookL y.snd.fst j=lookL (iterL n goal y.fst).fst j)∧(Ob (lvV5 n m goal)∧Ob (AObj.map [{ key := Value.agg { toList := (lgC (n:Int) emp) },val := vi (1:Int),born := 0 }] 1=AObj.map (List.map (fun (e:MapEntry)↦{ key := e.key,val := nmap2 (fun (b:Nat)↦b) e.val,born := e.born }) (ent (kL (n:Int)) y.snd.fst)) y.snd.snd∧AObj.sc 2 (AObj.map (ent (kL (n:Int)) y.snd.fst) y.snd.snd)=true)∧True)∧Ob (ptr0 0=ptr0 0)∧Ob ((0:Int)=(0:Int))∧Ob (Value.map (some 1)=Value.map (some 1))∧Ob ((m:Int)=(m:Int))∧Ob ((0:Int)=(y.fst:Int))∧True)∧∀ (x:Nat × EL × Nat),Ob (x.fst≤m∧WF gL x.snd.fst x.snd.snd∧nonneg x.snd.fst∧sumV x.snd.fst≤(8:Int) ^ x.fst∧∀ (j:Fin 256),lookL x.snd.fst j=lookL (iterL n goal x.fst).fst j)→(decide ((x.fst:Int)<(m:Int))=true→Ob (womPre n (AObj.rw (lgC (n:Int) goal) none) (lvV6 n m goal x) x.snd.snd)∧∀ (D:List (Ent (Fin 256))),Ob (D.Perm (un uL (lvV6 n m goal x)))→(∃ (yq:EL × EL),Ob (List.Perm yq.fst x.snd.fst∧∃ (r:EL),List.Perm (yq.snd++r) (outL n yq.fst).fst)∧(Ob (lvV5 n m goal)∧Ob (AObj.map (lvV6 n m goal x) x.snd.snd=AObj.map (List.map (fun (e:MapEntry)↦{ key := e.key,val := nmap2 (fun (b:Nat)↦b) e.val,born := e.born }) (lvV6 n m goal x)) x.snd.snd∧AObj.sc 4 (AObj.map (lvV6 n m goal x) x.snd.snd)=true)∧Ob (AObj.map (ent (kL (n:Int)) (outL n D).fst) (outL n D).snd=AObj.map (List.map (fun (e:MapEntry)↦{ key := e.key,val := nmap2 (fun (b:Nat)↦b) e.val,born := e.born }) (ent (kL (n:Int)) (remV goal yq.snd (outL n yq.fst).fst))) (outL n yq.fst).snd∧AObj.sc 4 (AObj.map (ent (kL (n:Int)) (remV goal yq.snd (outL n yq.fst).fst)) (outL n yq.fst).snd)=true)∧Ob (AObj.iter 2 (outL n D).snd ⟨[]⟩ (outL n D).snd=AObj.iter 2 (outL n yq.fst).snd { toList := bornsL yq.snd } (outL n yq.fst).snd∧true=true)∧True)∧Ob (ptr0 0=ptr0 0)∧Ob ((0:Int)=(0:Int))∧Ob (Value.map (some 2)=Value.map (some 2))∧Ob ((m:Int)=(m:Int))∧Ob ((x.fst:Int)=(x.fst:Int))∧Ob (ptr0 3=ptr0 3)∧True)∧∀ (x_1:EL × EL),Ob (List.Perm x_1.fst x.snd.fst∧∃ (r:EL),List.Perm (x_1.snd++r) (outL n x_1.fst).fst)→Ob (NextOk [AObj.rw (lgC (n:Int) goal) none,AObj.map (lvV6 n m goal x) x.snd.snd,AObj.map (lvV3 n m goal x_1) (outL n x_1.fst).snd,AObj.iter 2 (outL n x_1.fst).snd { toList := bornsL x_1.snd } (outL n x_1.fst).snd] (ptr0 3) [doneS [AObj.rw (lgC (n:Int) goal) none,AObj.map (lvV6 n m goal x) x.snd.snd,AObj.map (lvV3 n m goal x_1) (outL n x_1.fst).snd,AObj.iter 2 (outL n x_1.fst).snd { toList := bornsL x_1.snd } (outL n x_1.fst).snd] (un uL (lvV3 n m goal x_1)) (bornsL x_1.snd),moreS (kL (n:Int)) [AObj.rw (lgC (n:Int) goal) none,AObj.map (lvV6 n m goal x) x.snd.snd,AObj.map (lvV3 n m goal x_1) (outL n x_1.fst).snd,AObj.iter 2 (outL n x_1.fst).snd { toList := bornsL x_1.snd } (outL n x_1.fst).snd] 3 2 (outL n x_1.fst).snd (un uL (lvV3 n m goal x_1)) (bornsL x_1.snd) (outL n x_1.fst).snd])∧(∀ (x_2:Unit),Ob (∀ (xq:Ent (Fin 256)),xq∈un uL (lvV3 n m goal x_1)→xq.snd.snd∈bornsL x_1.snd)→∃ (y:Nat × EL × Nat),Ob (y.fst≤m∧WF gL y.snd.fst y.snd.snd∧nonneg y.snd.fst∧sumV y.snd.fst≤(8:Int) ^ y.fst∧∀ (j:Fin 256),lookL y.snd.fst j=lookL (iterL n goal y.fst).fst j)∧Ob (m-y.fst<m-x.fst)∧(Ob (lvV5 n m goal)∧Ob (AObj.map (lvV3 n m goal x_1) (outL n x_1.fst).snd=AObj.map (List.map (fun (e:MapEntry)↦{ key := e.key,val := nmap2 (nsub 1 2) e.val,born := e.born }) (ent (kL (n:Int)) y.snd.fst)) y.snd.snd∧AObj.sc 2 (AObj.map (ent (kL (n:Int)) y.snd.fst) y.snd.snd)=true)∧True)∧Ob (ptr0 0=ptr0 0)∧Ob ((0:Int)=(0:Int))∧Ob (Value.map (some 2)=Value.map (some 2))∧Ob ((m:Int)=(m:Int))∧Ob (IntKind.i64.wrap ((x.fst:Int)+(1:Int))=(y.fst:Int))∧True)∧∀ (x_2q:Fin 256 × Int × Nat),Ob (x_2q∈un uL (lvV3 n m goal x_1)∧¬x_2q.snd.snd∈bornsL x_1.snd)→Ob (aEntry [AObj.rw (lgC (n:Int) goal) none,AObj.map (lvV6 n m goal x) x.snd.snd,AObj.map (lvV3 n m goal x_1) (outL n x_1.fst).snd,AObj.iter 2 (outL n x_1.fst).snd { toList := bornsL x_1.snd++[x_2q.snd.snd] } (outL n x_1.fst).snd] (ptr0 3)=some (Value.tuple ⟨[Value.agg { toList := (lgC (n:Int) ((↑x_2q.fst:Nat).testBit)) },vi x_2q.snd.fst]⟩))∧Ob (0+9≤9)∧Ob (Value.agg (lvV1 n m goal x_2q)=Value.agg ⟨[Value.bool (fV (Value.agg (lvV1 n m goal x_2q)) 0),Value.bool (fV (Value.agg (lvV1 n m goal x_2q)) 1),Value.bool (fV (Value.agg (lvV1 n m goal x_2q)) 2),Value.bool (fV (Value.agg (lvV1 n m goal x_2q)) 3),Value.bool (fV (Value.agg (lvV1 n m goal x_2q)) 4),Value.bool (fV (Value.agg (lvV1 n m goal x_2q)) 5),Value.bool (fV (Value.agg (lvV1 n m goal x_2q)) 6),Value.bool (fV (Value.agg (lvV1 n m goal x_2q)) 7)]⟩∧Value.agg (lvV2 n m goal)=Value.agg ⟨[Value.bool (fV (Value.agg (lvV2 n m goal)) 0),Value.bool (fV (Value.agg (lvV2 n m goal)) 1),Value.bool (fV (Value.agg (lvV2 n m goal)) 2),Value.bool (fV (Value.agg (lvV2 n m goal)) 3),Value.bool (fV (Value.agg (lvV2 n m goal)) 4),Value.bool (fV (Value.agg (lvV2 n m goal)) 5),Value.bool (fV (Value.agg (lvV2 n m goal)) 6),Value.bool (fV (Value.agg (lvV2 n m goal)) 7)]⟩)∧Ob (Value.agg (lvV0 n m goal x_2q)=Value.agg ⟨[Value.bool (fV (Value.agg (lvV0 n m goal x_2q)) 0),Value.bool (fV (Value.agg (lvV0 n m goal x_2q)) 1),Value.bool (fV (Value.agg (lvV0 n m goal x_2q)) 2),Value.bool (fV (Value.agg (lvV0 n m goal x_2q)) 3),Value.bool (fV (Value.agg (lvV0 n m goal x_2q)) 4),Value.bool (fV (Value.agg (lvV0 n m goal x_2q)) 5),Value.bool (fV (Value.agg (lvV0 n m goal x_2q)) 6),Value.bool (fV (Value.agg (lvV0 n m goal x_2q)) 7)]⟩∧Value.agg (lvV4 n m goal)=Value.agg (lvV4 n m goal))∧((!eq8 (Value.agg (lvV0 n m goal x_2q)) (Value.agg (lvV4 n m goal)))=true→Ob (aDelete Try.prog [AObj.rw (lgC (n:Int) goal) none,AObj.map (lvV6 n m goal x) x.snd.snd,AObj.map (lvV3 n m goal x_1) (outL n x_1.fst).snd,AObj.iter 2 (outL n x_1.fst).snd { toList := bornsL x_1.snd++[x_2q.snd.snd] } (outL n x_1.fst).snd,AObj.rw (lgC (n:Int) ((↑x_2q.fst:Nat).testBit)) none] ⟨[85,62]⟩ (Value.map (some 2)) (Value.agg { toList := (lgC (n:Int) ((↑x_2q.fst:Nat).testBit)) })=some [AObj.rw (lgC (n:Int) goal) none,AObj.map (lvV6 n m goal x) x.snd.snd,AObj.map (ent (kL (n:Int)) (delL (un uL (lvV3 n m goal x_1)) (uL (Value.agg { toList := (lgC (n:Int) ((↑x_2q.fst:Nat).testBit)) })))) (outL n x_1.fst).snd,AObj.iter 2 (outL n x_1.fst).snd { toList := bornsL x_1.snd++[x_2q.snd.snd] } (outL n x_1.fst).snd,AObj.rw (lgC (n:Int) ((↑x_2q.fst:Nat).testBit)) none])∧∃ (yqq:EL × EL),Ob (List.Perm yqq.fst x.snd.fst∧∃ (r:EL),List.Perm (yqq.snd++r) (outL n yqq.fst).fst)∧Ob (List.length (outL n yqq.fst).fst-List.length yqq.snd<List.length (outL n x_1.fst).fst-List.length x_1.snd)∧(Ob (lvV5 n m goal)∧Ob (AObj.map (lvV6 n m goal x) x.snd.snd=AObj.map (List.map (fun (e:MapEntry)↦{ key := e.key,val := nmap2 (fun (b:Nat)↦b) e.val,born := e.born }) (lvV6 n m goal x)) x.snd.snd∧AObj.sc 4 (AObj.map (lvV6 n m goal x) x.snd.snd)=true)∧Ob (AObj.map (ent (kL (n:Int)) (delL (un uL (lvV3 n m goal x_1)) (uL (Value.agg { toList := (lgC (n:Int) ((↑x_2q.fst:Nat).testBit)) })))) (outL n x_1.fst).snd=AObj.map (List.map (fun (e:MapEntry)↦{ key := e.key,val := nmap2 (fun (b:Nat)↦b) e.val,born := e.born }) (ent (kL (n:Int)) (remV goal yqq.snd (outL n yqq.fst).fst))) (outL n yqq.fst).snd∧AObj.sc 4 (AObj.map (ent (kL (n:Int)) (remV goal yqq.snd (outL n yqq.fst).fst)) (outL n yqq.fst).snd)=true)∧Ob (AObj.iter 2 (outL n x_1.fst).snd { toList := bornsL x_1.snd++[x_2q.snd.snd] } (outL n x_1.fst).snd=AObj.iter 2 (outL n yqq.fst).snd { toList := bornsL yqq.snd } (outL n yqq.fst).snd∧true=true)∧True)∧Ob (ptr0 0=ptr0 0)∧Ob ((0:Int)=(0:Int))∧Ob (Value.map (some 2)=Value.map (some 2))∧Ob ((m:Int)=(m:Int))∧Ob ((x.fst:Int)=(x.fst:Int))∧Ob (ptr0 3=ptr0 3)∧True)∧((!eq8 (Value.agg (lvV0 n m goal x_2q)) (Value.agg (lvV4 n m goal)))=false→∃ (yqqq:EL × EL),Ob (List.Perm yqqq.fst x.snd.fst∧∃ (r:EL),List.Perm (yqqq.snd++r) (outL n yqqq.fst).fst)∧Ob (List.length (outL n yqqq.fst).fst-List.length yqqq.snd<List.length (outL n x_1.fst).fst-List.length x_1.snd)∧(Ob (lvV5 n m goal)∧Ob (AObj.map (lvV6 n m goal x) x.snd.snd=AObj.map (List.map (fun (e:MapEntry)↦{ key := e.key,val := nmap2 (fun (b:Nat)↦b) e.val,born := e.born }) (lvV6 n m goal x)) x.snd.snd∧AObj.sc 4 (AObj.map (lvV6 n m goal x) x.snd.snd)=true)∧Ob (AObj.map (lvV3 n m goal x_1) (outL n x_1.fst).snd=AObj.map (List.map (fun (e:MapEntry)↦{ key := e.key,val := nmap2 (fun (b:Nat)↦b) e.val,born := e.born }) (ent (kL (n:Int)) (remV goal yqqq.snd (outL n yqqq.fst).fst))) (outL n yqqq.fst).snd∧AObj.sc 4 (AObj.map (ent (kL (n:Int)) (remV goal yqqq.snd (outL n yqqq.fst).fst)) (outL n yqqq.fst).snd)=true)∧Ob (AObj.iter 2 (outL n x_1.fst).snd { toList := bornsL x_1.snd++[x_2q.snd.snd] } (outL n x_1.fst).snd=AObj.iter 2 (outL n yqqq.fst).snd { toList := bornsL yqqq.snd } (outL n yqqq.fst).snd∧true=true)∧True)∧Ob (ptr0 0=ptr0 0)∧Ob ((0:Int)=(0:Int))∧Ob (Value.map (some 2)=Value.map (some 2))∧Ob ((m:Int)=(m:Int))∧Ob ((x.fst:Int)=(x.fst:Int))∧Ob (ptr0 3=ptr0 3)∧True))∧(decide ((x.fst:Int)<(m:Int))=false→Ob (aLookup Try.prog [AObj.rw (lgC (n:Int) goal) none,AObj.map (lvV6 n m goal x) x.snd.snd] 85 (Value.map (some 1)) (Value.agg { toList := (lgC (n:Int) goal) }) false=some (vi (lookL (un uL (lvV6 n m goal x)) (uL (Value.agg { toList := (lgC (n:Int) goal) })))))∧True∧Ob (lookL (un uL (lvV6 n m goal x)) (uL (Value.agg { toList := (lgC (n:Int) goal) }))=leaveS n goal m)∧True)
theorem lvV_eq : lvV = fun (n m : Nat) (goal : Nat→Bool) => vc Try.prog (lvE n) 0 36 true (lvI n m goal) lvB [] (argFr 0 [lgV n goal,vi m]) [] (retR Try.prog Try.f69 0 (fun b => b) (vi (leaveS n goal m)) []) := by kernel_rfl
theorem eq8_ok (d : Nat) (f g : Nat→Bool) : pureRun Try.prog (Op.equalIn (d + 2) 60 (aV f) (aV g)) = some (eq8 (aV f) (aV g)) := eqArr d (f 0) (f 1) (f 2) (f 3) (f 4) (f 5) (f 6) (f 7) (g 0) (g 1) (g 2) (g 3) (g 4) (g 5) (g 6) (g 7)
theorem orcN_ok : OrcOk Try.prog orcN := fun env H o φ v H' h hφ => by
 unfold orcN at h
 split at h <;> try (cases h; done)
 rename_i t x y yt hop
 split at h <;> cases h
 rename_i a b ht ha hb
 obtain ⟨h1,h2⟩ := hφ
 have ht' := Nat.eq_of_beq_eq_true ht
 unfold evOp
 rw [hop]
 simp only [ha,hb]
 have : evBin Try.prog .neq t x y a b = some (.bool (!eq8 a b)) := by
   rw [ht']
   unfold evBin
   rw [h1,h2,if_pos ⟨aV_plain.2.1 0,aV_plain.2.1 0⟩]
   rw [pureRun_bind (show pureRun Try.prog (eqGuard .neq 60 x y (aV (fV a)) (aV (fV b))) = some () from rfl)]
   have : pureRun Try.prog (binOp .neq 60 (aV (fV a)) (aV (fV b))) = some (.bool (!eq8 (aV (fV a)) (aV (fV b)))) := by
     show pureRun Try.prog (Op.equalIn (9998 + 2) 60 (aV (fV a)) (aV (fV b)) >>= fun r => (pure (Value.bool (!r)) : Sem Value)) = _
     rw [pureRun_bind (eq8_ok 9998 (fV a) (fV b))]; rfl
   rw [this]; rfl
 rw [this]; rfl
theorem lvE_ok (n : Nat) : VOk Try.prog (lvE n) := ⟨CtOk.none.add besG_ok,ccWom_ok n,E0_ok.yc,orcOr_ok orcN_ok orcMap_ok⟩
def cntJ (n : Nat) (k j : Fin 256) : Nat→Int
 | 0 => 0
 | i + 1 => cntJ n k j i + if oneMore n k i = some j then 1 else 0
def wsum (f : Fin 256→Int) (L : EL) : Int := (L.map fun x => x.2.1 * f x.1).sum
theorem addUp_look {n : Nat} {k : Fin 256} {v : Int} {s : EL × Nat} (hw : WF gL s.1 s.2) (hs : nonneg s.1) (hv : 0≤v) (j : Fin 256) : ∀ i : Nat,lookL (addUp n k v s i).1 j = lookL s.1 j + v * cntJ n k j i
 | 0 => by simp [addUp,cntJ]
 | i + 1 => by
   have ih := addUp_look (n := n) (k := k) hw hs hv j i
   obtain ⟨h1,_,_⟩ := addUp_ok (n := n) (k := k) hw hs hv i
   rw [addUp,cntJ]
   split
   · rename_i q hq
     show lookL (addL _ _ _ _) _ = _
     rw [look_add h1 trivial,ih,hq,Int.mul_add]
     by_cases e : q = j
     · rw [if_pos e,if_pos (by rw [e])]; omega
     · rw [if_neg e,if_neg (fun h => e (Option.some.inj h))]; omega
   · rename_i hq
     rw [ih,hq,if_neg (by simp)]; simp
theorem wsum_cons {f : Fin 256→Int} {x : Ent (Fin 256)} {L : EL} : wsum f (x :: L) = x.2.1 * f x.1 + wsum f L := by simp [wsum]
theorem wsum_append {f : Fin 256→Int} {L M : EL} : wsum f (L ++ M) = wsum f L + wsum f M := by simp [wsum]
theorem outL_look {n : Nat} {D : EL} (h : nonneg D) (j : Fin 256) : lookL (outL n D).1 j = wsum (fun k => cntJ n k j n) D := by
 have key : ∀ (R : EL),nonneg R→lookL (outL n R.reverse).1 j = wsum (fun k => cntJ n k j n) R.reverse := by
   intro R
   induction R with
   | nil => exact fun _ => rfl
   | cons x R ih =>
     intro hR
     have hR' : nonneg R.reverse := fun y hy => hR y (List.mem_cons_of_mem _ (List.mem_reverse.1 hy))
     obtain ⟨h1,h2,_⟩ := outL_ok (n := n) hR'
     rw [List.reverse_cons,outL_append,addUp_look h1 h2 (hR x List.mem_cons_self),ih fun y hy => hR y (List.mem_cons_of_mem _ hy),wsum_append,wsum_cons]
     simp [wsum]
 have := key D.reverse fun x hx => h x (List.mem_reverse.1 hx)
 rw [List.reverse_reverse] at this
 exact this
theorem sum_swap {a b : Fin 256→Int} {k : Fin 256} : ∀ {K : List (Fin 256)},K.Nodup→(K.map fun i => if k = i then a i else b i).sum = (K.map b).sum + if k ∈ K then a k - b k else 0
 | [],_ => by simp
 | i :: K,h => by
   obtain ⟨h1,h2⟩ := List.nodup_cons.1 h
   rw [List.map_cons,List.sum_cons,List.map_cons,List.sum_cons,sum_swap h2]
   by_cases e : k = i
   · subst e
     rw [if_pos rfl,if_neg h1,if_pos List.mem_cons_self]; omega
   · rw [if_neg e]
     by_cases hk : k ∈ K
     · rw [if_pos hk,if_pos (List.mem_cons_of_mem _ hk)]; omega
     · rw [if_neg hk,if_neg (by simp [e,hk])]; omega
def tsum (f : Fin 256→Int) (L : EL) : Int := ((List.finRange 256).map fun k => lookL L k * f k).sum
theorem look_cons {x : Ent (Fin 256)} {L : EL} (h : (x :: L).Pairwise fun a b => a.1 ≠ b.1) {k : Fin 256} : lookL (x :: L) k = if x.1 = k then x.2.1 else lookL L k := by
 by_cases e : x.1 = k
 · rw [if_pos e,← e,look_mem h List.mem_cons_self]
 · rw [if_neg e]
   by_cases hk : ∃ y ∈ L,y.1 = k
   · obtain ⟨y,hy,rfl⟩ := hk
     rw [look_mem h (List.mem_cons_of_mem _ hy),look_mem (List.pairwise_cons.1 h).2 hy]
   · rw [look_none fun y hy hyk => hk ⟨y,hy,hyk⟩,look_none fun y hy hyk => ?_]
     rcases List.mem_cons.1 hy with rfl | hy
     · exact e hyk
     · exact hk ⟨y,hy,hyk⟩
theorem wsum_tsum {f : Fin 256→Int} : ∀ {L : EL},L.Pairwise (fun a b => a.1 ≠ b.1)→wsum f L = tsum f L
 | [],_ => by
   unfold wsum tsum
   have : (fun k : Fin 256 => lookL ([] : EL) k * f k) = fun _ => 0 := by funext k; rw [show lookL ([] : EL) k = 0 from rfl,Int.zero_mul]
   rw [this]
   have z : ∀ K : List (Fin 256),(K.map fun _ => (0 : Int)).sum = 0 := fun K => by induction K with | nil => rfl | cons a K ih => rw [List.map_cons,List.sum_cons,ih]; rfl
   exact (z _).symm
 | x :: L,h => by
   obtain ⟨h1,h2⟩ := List.pairwise_cons.1 h
   rw [wsum_cons,wsum_tsum h2]
   unfold tsum
   have : (fun k : Fin 256 => lookL (x :: L) k * f k) = fun k => if x.1 = k then x.2.1 * f k else lookL L k * f k := by
     funext k; rw [look_cons h]; split <;> rfl
   rw [this,sum_swap (List.nodup_finRange 256),if_pos (List.mem_finRange _),look_none (L := L) (k := x.1) fun y hy e => h1 y hy e.symm]
   omega
theorem tsum_congr {f : Fin 256→Int} {L M : EL} (h : ∀ k,lookL L k = lookL M k) : tsum f L = tsum f M := by
 unfold tsum; simp only [h]
theorem look_filter {g : Fin 256→Bool} {L : EL} (h : L.Pairwise fun a b => a.1 ≠ b.1) {k : Fin 256} : lookL (L.filter fun x => g x.1) k = if g k = true then lookL L k else 0 := by
 by_cases hk : ∃ y ∈ L,y.1 = k
 · obtain ⟨y,hy,rfl⟩ := hk
   by_cases hg : g y.1 = true
   · rw [if_pos hg,look_mem h hy,look_mem (h.sublist List.filter_sublist) (List.mem_filter.2 ⟨hy,hg⟩)]
   · rw [if_neg hg,look_none fun z hz hzk => ?_]
     have := (List.mem_filter.1 hz).2
     rw [hzk] at this
     exact hg this
 · rw [look_none fun y hy hyk => hk ⟨y,(List.mem_filter.1 hy).1,hyk⟩,look_none fun y hy hyk => hk ⟨y,hy,hyk⟩]; simp
theorem look_perm {D W : EL} (h : D.Perm W) (hw : W.Pairwise fun a b => a.1 ≠ b.1) (k : Fin 256) : lookL D k = lookL W k := by
 have hd : D.Pairwise fun a b => a.1 ≠ b.1 := (h.pairwise_iff (fun {a b} h e => h e.symm)).2 hw
 by_cases hk : ∃ y ∈ W,y.1 = k
 · obtain ⟨y,hy,rfl⟩ := hk
   rw [look_mem hw hy,look_mem hd (h.mem_iff.2 hy)]
 · rw [look_none fun y hy hyk => hk ⟨y,hy,hyk⟩,look_none fun y hy hyk => hk ⟨y,h.mem_iff.1 hy,hyk⟩]
theorem sumV_filter {g : Ent (Fin 256)→Bool} : ∀ {L : EL},nonneg L→sumV (L.filter g)≤sumV L
 | [],_ => Int.le_refl _
 | x :: L,h => by
   have h1 := h x List.mem_cons_self
   have h2 := sumV_filter (g := g) (L := L) fun y hy => h y (List.mem_cons_of_mem _ hy)
   rw [List.filter_cons]
   split
   · rw [sumV_cons,sumV_cons]; omega
   · rw [sumV_cons]; omega
theorem start_ok : WF gL [((0 : Fin 256),(1 : Int),0)] 1∧nonneg [((0 : Fin 256),(1 : Int),0)]∧sumV [((0 : Fin 256),(1 : Int),0)] = 1 :=
 ⟨⟨fun _ _ => trivial,by simp,by simp,fun x hx => by rw [List.mem_singleton.1 hx]; exact Nat.zero_lt_one⟩,fun x hx => by rw [List.mem_singleton.1 hx]; exact Int.zero_le_ofNat 1,rfl⟩
theorem iter_ok {n : Nat} {goal : Nat→Bool} : ∀ i : Nat,WF gL (iterL n goal i).1 (iterL n goal i).2∧nonneg (iterL n goal i).1
 | 0 => ⟨start_ok.1,start_ok.2.1⟩
 | i + 1 => by
   obtain ⟨_,h2⟩ := iter_ok (n := n) (goal := goal) i
   obtain ⟨k1,k2,_⟩ := outL_ok (n := n) h2
   rw [iterL,stepL]
   exact ⟨k1.sub List.filter_sublist,fun x hx => k2 x (List.mem_filter.1 hx).1⟩
theorem perm_nonneg {D W : EL} (h : D.Perm W) (hw : nonneg W) : nonneg D := fun x hx => hw x (h.mem_iff.1 hx)
theorem step_look {n : Nat} {goal : Nat→Bool} {i c : Nat} {D W : EL} (hD : D.Perm W) (hw : WF gL W c) (hp : nonneg W) (h : ∀ j,lookL W j = lookL (iterL n goal i).1 j) (j : Fin 256) :
   lookL ((outL n D).1.filter fun x => subG goal x.1) j = lookL (iterL n goal (i + 1)).1 j := by
 obtain ⟨w1,w2⟩ := iter_ok (n := n) (goal := goal) i
 have hDp := perm_nonneg hD hp
 have hDk : D.Pairwise fun a b => a.1 ≠ b.1 := (hD.pairwise_iff (fun {a b} h e => h e.symm)).2 hw.keys
 rw [iterL,stepL]
 show _ = lookL ((outL n (iterL n goal i).1).1.filter fun x => subG goal x.1) j
 rw [look_filter (outL_ok (n := n) hDp).1.keys,look_filter (outL_ok (n := n) w2).1.keys,outL_look hDp,outL_look w2,wsum_tsum hDk,wsum_tsum w1.keys,tsum_congr fun k => (look_perm hD hw.keys k).trans (h k)]
theorem borns_append {V : EL} {y : Ent (Fin 256)} : bornsL (V ++ [y]) = bornsL V ++ [y.2.2] := by simp [bornsL]
theorem remV_nil {goal : Nat→Bool} {N : EL} : remV goal [] N = N := by
 unfold remV
 rw [List.filter_eq_self]
 intro x _
 simp [bornsL]
theorem remV_done {goal : Nat→Bool} {V N : EL} (h : ∀ x ∈ remV goal V N,x.2.2 ∈ bornsL V) : remV goal V N = N.filter fun x => subG goal x.1 := by
 unfold remV at h ⊢
 apply List.filter_congr
 intro x hx
 by_cases hv : x.2.2 ∈ bornsL V
 · simp [hv]
 · exact absurd (h x (List.mem_filter.2 ⟨hx,by simp [hv]⟩)) hv
theorem remV_keep {goal : Nat→Bool} {V N : EL} {y : Ent (Fin 256)} (hb : N.Pairwise fun a b => a.2.2 ≠ b.2.2) (hy : y ∈ N) (hs : subG goal y.1 = true) : remV goal (V ++ [y]) N = remV goal V N := by
 unfold remV
 apply List.filter_congr
 intro x hx
 by_cases e : x.2.2 = y.2.2
 · rw [inj_of (f := fun x : Ent (Fin 256) => x.2.2) hb hx hy e]; simp [hs]
 · rw [borns_append]; simp [e]
theorem remV_del {goal : Nat→Bool} {V N : EL} {y : Ent (Fin 256)} (hk : N.Pairwise fun a b => a.1 ≠ b.1) (hb : N.Pairwise fun a b => a.2.2 ≠ b.2.2) (hy : y ∈ N) (hs : subG goal y.1 = false) : delL (remV goal V N) y.1 = remV goal (V ++ [y]) N := by
 unfold delL remV
 rw [List.filter_filter]
 apply List.filter_congr
 intro x hx
 by_cases e : x.2.2 = y.2.2
 · have := inj_of (f := fun x : Ent (Fin 256) => x.2.2) hb hx hy e
   subst this
   rw [borns_append]; simp [hs]
 · have e2 : x.1 ≠ y.1 := fun h => e (by rw [inj_of (f := fun x : Ent (Fin 256) => x.1) hk hx hy h])
   rw [borns_append]; simp [e,e2]
theorem fV_aV {f : Nat→Bool} {i : Nat} (h : i < 8) : fV (aV f) i = f i := by
 rcases i with _ | _ | _ | _ | _ | _ | _ | _ | i <;> first | rfl | omega
theorem eq8_sub {k : Fin 256} {goal : Nat→Bool} : eq8 (aV (besF (fV (aV k.1.testBit)) (fV (aV goal)) 8)) (aV emp) = subG goal k := by
 unfold eq8 subG
 rw [show List.range' 0 8 = List.range 8 from rfl,Bool.eq_iff_iff,List.all_eq_true,List.all_eq_true]
 refine forall_congr' fun i => ?_
 constructor
 · intro h hi
   have h8 := List.mem_range.1 hi
   have := h hi
   rw [fV_aV h8,fV_aV h8] at this
   unfold besF at this
   rw [fV_aV h8,fV_aV h8] at this
   simp only [h8,emp] at this
   revert this
   cases k.1.testBit i <;> cases goal i <;> decide
 · intro h hi
   have h8 := List.mem_range.1 hi
   have := h hi
   rw [fV_aV h8,fV_aV h8]
   unfold besF
   rw [fV_aV h8,fV_aV h8]
   simp only [h8,emp]
   revert this
   cases k.1.testBit i <;> cases goal i <;> decide
theorem lvV_ok (n m : Nat) (goal : Nat→Bool) (hn : 1≤n∧n≤8) (hm : m≤8) : lvV n m goal := by
 unfold lvV lvV6 lvV5 lvV4 lvV3 lvV2 lvV1 lvV0
 simp only [SS,reduceCtorEq,Arg.list,Arg.num,Arg.flag,intOf,andP,Nat.reduceLeDiff,Nat.reduceAdd,Nat.reduceMul,Nat.reduceLT,un_kL,map_ent,sc_ent,fT_bits,fN_T8,fF_T8,T8_fT,AObj.map.injEq,AObj.iter.injEq,Array.mk.injEq,T8_getB,kL_uL]
 refine ⟨⟨(0,[(0,1,0)],1),?_⟩,fun x hx => ⟨fun hlt => ⟨?_,fun D hD => ⟨?_,fun p hp => ⟨?_,fun hdone => ?_,fun y hy => ⟨?_,?_,?_,fun hq => ?_,fun hq => ?_⟩⟩⟩⟩,fun hge => ?_⟩⟩
 · exact ⟨⟨Nat.zero_le _,start_ok.1,start_ok.2.1,Int.le_of_eq start_ok.2.2,fun j => rfl⟩,⟨rfl,rfl⟩,rfl⟩
 · have b := pow9i (p := 8) (x := x.1) (by omega) (by omega)
   have := hx.2.2.2.1
   unfold womPre
   rw [un_kL]
   exact ⟨⟨goal,rfl⟩,hn,rfl,hx.2.1,hx.2.2.1,by omega⟩
 · exact ⟨(D,[]),⟨hD,(outL n D).1,List.Perm.refl _⟩,⟨by rw [remV_nil],rfl⟩,rfl,rfl,rfl⟩
 · have hp1 := perm_nonneg hp.1 hx.2.2.1
   exact next_ok ((outL_ok (n := n) hp1).1.sub List.filter_sublist) rfl rfl
 · have hp1 := perm_nonneg hp.1 hx.2.2.1
   obtain ⟨o1,o2,o3⟩ := outL_ok (n := n) hp1
   have e := remV_done hdone
   have b := pow9i (p := 8) (x := x.1) (by omega) (by omega)
   have hs : sumV p.1≤8 ^ x.1 := by rw [sumV_perm hp.1]; exact hx.2.2.2.1
   have hs0 := sumV_nonneg hp1
   have h8 : (n : Int) * sumV p.1≤8 * sumV p.1 := Int.mul_le_mul_of_nonneg_right (by omega) hs0
   have ep : (8 : Int) ^ (x.1 + 1) = 8 ^ x.1 * 8 := Int.pow_succ _ _
   refine ⟨(x.1 + 1,remV goal p.2 (outL n p.1).1,(outL n p.1).2),⟨by simp only; omega,o1.sub List.filter_sublist,fun z hz => o2 z (List.mem_filter.1 hz).1,?_,fun j => ?_⟩,by simp only; omega,⟨rfl,rfl⟩,?_⟩
   · have := sumV_filter (g := fun x => subG goal x.1 || !decide (x.2.2 ∈ bornsL p.2)) o2
     show sumV (remV goal p.2 (outL n p.1).1)≤8 ^ (x.1 + 1)
     unfold remV
     omega
   · show lookL (remV goal p.2 (outL n p.1).1) j = _
     rw [e]
     exact step_look hp.1 hx.2.1 hx.2.2.1 hx.2.2.2.2 j
   · rw [wrap_in (by omega) (by omega)]; push_cast; rfl
 · have hp1 := perm_nonneg hp.1 hx.2.2.1
   exact ent_ok (kv := kL n) (x := y) ((outL_ok (n := n) hp1).1.sub List.filter_sublist).borns hy.1 rfl rfl
 · exact ⟨rfl,rfl⟩
 · exact rfl
 · have hq' : eq8 (aV (besF (fV (aV y.1.1.testBit)) (fV (aV goal)) 8)) (aV emp) = false := hq
   rw [eq8_sub] at hq'
   clear hq
   have hp1 := perm_nonneg hp.1 hx.2.2.1
   obtain ⟨r,hr⟩ := hp.2
   have o1 := (outL_ok (n := n) hp1).1
   have hyN : y ∈ (outL n p.1).1 := (List.mem_filter.1 hy.1).1
   have em : (⟨maskOf y.1.1.testBit,mask_lt _⟩ : Fin 256) = y.1 := Fin.ext (mask_own y.1.1 y.1.2)
   obtain ⟨r',hr'⟩ := perm_more hr hyN hy.2
   have hl := hr'.length_eq
   rw [List.length_append,List.length_cons] at hl
   rw [em]
   refine ⟨del_ok (keyOk n) T85 (o1.sub List.filter_sublist) rfl rfl trivial,(p.1,p.2 ++ [y]),⟨hp.1,r',by rw [List.append_assoc]; exact hr'⟩,?_,⟨?_,rfl⟩,rfl,borns_append.symm,rfl⟩
   · show (outL n p.1).1.length - (p.2 ++ [y]).length < _
     rw [List.length_append,List.length_singleton]; omega
   · rw [remV_del o1.keys o1.borns hyN hq']
 · have hq' : eq8 (aV (besF (fV (aV y.1.1.testBit)) (fV (aV goal)) 8)) (aV emp) = true := hq
   rw [eq8_sub] at hq'
   clear hq
   have hp1 := perm_nonneg hp.1 hx.2.2.1
   obtain ⟨r,hr⟩ := hp.2
   have o1 := (outL_ok (n := n) hp1).1
   have hyN : y ∈ (outL n p.1).1 := (List.mem_filter.1 hy.1).1
   obtain ⟨r',hr'⟩ := perm_more hr hyN hy.2
   have hl := hr'.length_eq
   rw [List.length_append,List.length_cons] at hl
   refine ⟨(p.1,p.2 ++ [y]),⟨hp.1,r',by rw [List.append_assoc]; exact hr'⟩,?_,⟨?_,rfl⟩,rfl,borns_append.symm,rfl⟩
   · show (outL n p.1).1.length - (p.2 ++ [y]).length < _
     rw [List.length_append,List.length_singleton]; omega
   · rw [remV_keep o1.borns hyN hq']
 · have ex : x.1 = m := by omega
   have ek : Value.agg { toList := lgC n goal } = kL n (keyF goal) := kL_mask
   refine ⟨?_,?_⟩
   · rw [ek]; exact look_ok (keyOk n) T85 hx.2.1 Z2 rfl trivial
   · unfold leaveS; rw [← ex]; exact hx.2.2.2.2 _
theorem leave_call (n m : Nat) (goal : Nat→Bool) (hn : 1≤n∧n≤8) (hm : m≤8) : Call Try.prog 69 [lgV n goal,vi m] [] fun v H' => v = vi (leaveS n goal m)∧H' = [] :=
 Call.ofVcR (lvE_ok n) mixed (c := lvB) (inv := lvI n m goal) Try.func69 (by kernel_rfl) (cast (congrFun (congrFun (congrFun lvV_eq n) m) goal) (lvV_ok n m goal hn hm))
theorem vi_plain {n : Int} : Plain (vi n) := ⟨fun σ => by simp [nmap,nmap2,nmap1,nmap0],fun m => by simp [sc,sc2,sc1,sc0],fun p => by simp [nm,nm2,nm1,nm0]⟩
theorem lgV_plain {n : Int} {tk : Nat→Bool} : Plain (lgV n tk) := ⟨fun σ => lgV_nmap,fun m => lgV_sc,fun p => by simp [lgV,lgC,T8,nm,nm2,nm1,nm0]⟩
end Go.Pier.Lg
set_option maxRecDepth 100000
set_option linter.unusedVariables false
set_option linter.unusedSimpArgs false
namespace Go.Pier.Lg
open Go Go.Pier Go.Proofs
def bAt : List Bool→Nat→Bool
 | [],_ => false
 | b :: _,0 => b
 | _ :: r,i + 1 => bAt r i
def forceI : Int→Value
 | .ofNat k => vi (.ofNat k)
 | .negSucc k => vi (.negSucc k)
def leaveT : List Value→Heap→Option (Value × Heap × List Nat) := fun args H => match args with
 | [.agg cs,.int .i64 m] => match cs.toList with
   | [.int .i64 n,.bool a0,.bool a1,.bool a2,.bool a3,.bool a4,.bool a5,.bool a6,.bool a7] =>
     match decide (1≤n) && (decide (n≤8) && (decide (0≤m) && decide (m≤8))) with
     | true => some (forceI (leaveS n.toNat (bAt [a0,a1,a2,a3,a4,a5,a6,a7]) m.toNat),H,[])
     | false => none
   | _ => none
 | _ => none
noncomputable def tl : Tbl := fun f => match Nat.beq f 69 with | true => some leaveT | false => none
theorem forceI_eq {i : Int} : forceI i = vi i := by cases i <;> rfl
theorem leaveT_ok {args : List Value} {H H' : Heap} {v : Value} {l : List Nat} (h : leaveT args H = some (v,H',l)) : Call Try.prog 69 args H (fun v' H2 => v' = v∧H2 = H')∧Kept H H' l := by
 unfold leaveT at h
 split at h <;> try (cases h; done)
 rename_i cs m
 split at h <;> try (cases h; done)
 rename_i n a0 a1 a2 a3 a4 a5 a6 a7 hc
 split at h <;> cases h
 rename_i hd
 simp only [Bool.and_eq_true,decide_eq_true_eq] at hd
 obtain ⟨h1,h2,h3,h4⟩ := hd
 obtain ⟨n,rfl⟩ := Int.eq_ofNat_of_zero_le (show 0≤n by omega)
 obtain ⟨m,rfl⟩ := Int.eq_ofNat_of_zero_le h3
 rw [forceI_eq]
 have e : Value.agg cs = lgV n (bAt [a0,a1,a2,a3,a4,a5,a6,a7]) := by
   have : cs = (lgC n (bAt [a0,a1,a2,a3,a4,a5,a6,a7])).toArray := by
     rw [← Array.toList_inj,hc]; rfl
   rw [this]; rfl
 rw [e]
 generalize bAt [a0,a1,a2,a3,a4,a5,a6,a7] = tk
 exact plainG_ok (f := 69) (s := fun args => match args with | [lv,.int .i64 q] => some (lv = lgV n tk∧q = m,vi (leaveS n tk m)) | _ => none) (fun args φ v hs hφ => by
   split at hs <;> cases hs
   rename_i lv q
   rw [hφ.1,hφ.2]
   exact ⟨mem_two lgV_plain vi_plain,vi_plain,leave_call n m tk (by omega) (by omega)⟩) _ _ (some (lgV n tk = lgV n tk∧(m : Int) = m)) _ _ _ rfl ⟨rfl,rfl⟩
theorem tl_ok : TblOk Try.prog tl := by
 intro f g hg args H v H' l h
 unfold tl at hg
 split at hg
 · rename_i hf
   cases hg
   rw [Nat.eq_of_beq_eq_true hf]
   exact leaveT_ok h
 · cases hg
end Go.Pier.Lg
