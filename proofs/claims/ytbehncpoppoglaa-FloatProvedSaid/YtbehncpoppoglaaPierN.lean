import Derived.Test.YtbehncpoppoglaaPierM
set_option linter.unusedSimpArgs false
set_option linter.unusedVariables false
namespace Go.Pier
open Go
variable {P : Program} {H H' : Heap} {env : Operand→Option Value}
def logBuiltin (b : Builtin) (args : List Value) : List Nat :=
 match b,args with
 | .append,[.slice (some a) n c,.slice _ m _] => match a.spot with
   | some _ => match c with | 0 => [a.block] | _ + 1 => []
   | none => if n + m≤c then [a.block] else []
 | .copy,.slice (some a) _ _ :: _ => [a.block]
 | .clear,[.slice (some a) _ _] => [a.block]
 | .clear,[.map (some r)] => [r]
 | .delete,.map (some r) :: _ => [r]
 | _,_ => []
def evLog (env : Operand→Option Value) (o : Oper) : List Nat :=
 match o.op with
 | .store _ x _ => match env x with | some (.pointer (some a)) => [a.block] | _ => []
 | .mapUpdate _ m _ _ | .insert _ m _ _ | .mapEntry _ m _ | .entryStore _ m _ _ => match env m with | some (.map (some r)) => [r] | _ => []
 | .next x _ => match env x with | some (.pointer (some a)) => [a.block] | _ => []
 | .call c => match c.callee with
   | .builtin b => match envs env c.args.toList with | some args => logBuiltin b args | none => []
   | _ => []
 | .slice _ x lo hi mx => match popForm lo hi mx with
   | true => match env x with | some (.slice (some a) 1 0) => [a.block] | _ => []
   | false => []
 | _ => []
def Kept (H H' : Heap) (l : List Nat) : Prop := H.length≤H'.length∧∀ b,b < H.length→b ∉ l→H'[b]? = H[b]?
theorem Kept.refl (H : Heap) (l : List Nat) : Kept H H l := ⟨Nat.le_refl _,fun _ _ _ => rfl⟩
theorem Kept.append (H : Heap) (x : List AObj) (l : List Nat) : Kept H (H ++ x) l := ⟨by simp,fun b hb _ => List.getElem?_append_left hb⟩
theorem Kept.set (H : Heap) (b : Nat) (o : AObj) : Kept H (H.set b o) [b] := ⟨by simp,fun c _ hc => List.getElem?_set_ne (by simp at hc; exact Ne.symm hc)⟩
theorem Kept.trans {H1 : Heap} {l l' : List Nat} (h : Kept H H1 l) (k : Kept H1 H' l') : Kept H H' (l ++ l') :=
 ⟨Nat.le_trans h.1 k.1,fun b hb hn => by
   rw [List.mem_append,not_or] at hn
   rw [k.2 b (Nat.lt_of_lt_of_le hb h.1) hn.2,h.2 b hb hn.1]⟩
theorem Kept.mono {l l' : List Nat} (h : Kept H H' l) (hl : ∀ b ∈ l,b ∈ l') : Kept H H' l' := ⟨h.1,fun b hb hn => h.2 b hb fun hm => hn (hl b hm)⟩
theorem Kept.setAppend (H : Heap) (b : Nat) (o : AObj) (x : List AObj) : Kept H (H.set b o ++ x) [b] :=
 (Kept.set H b o).trans (Kept.append _ x []) |>.mono (by simp)
theorem aPop_kept {P : Program} {t : TypeId} {x v : Value} (h : aPop P H t x = some (v,H')) : Kept H H' (match some x with | some (.slice (some a) 1 0) => [a.block] | _ => []) := by
 unfold aPop at h
 split at h <;> try (cases h; done)
 split at h <;> try (cases h; done)
 simp only [Option.bind_eq_some_iff] at h
 obtain ⟨s,_,h⟩ := h
 split at h <;> try (cases h; done)
 split at h <;> cases h
 exact Kept.setAppend _ _ _ _
theorem astore_kept {a : Addr} {vs : List Value} (h : astore H a vs = some H') : Kept H H' [a.block] := by
 unfold astore at h
 split at h
 · cases h; exact Kept.refl _ _
 · split at h
   · split at h
     · cases h; exact Kept.set _ _ _
     · cases h
   · cases h
theorem append_kept {tys : Array TypeId} {s x v : Value} (h : aAppend P H tys s x = some (v,H')) : Kept H H' (logBuiltin .append [s,x]) := by
 unfold aAppend at h
 split at h <;> try (cases h; done)
 split at h <;> try (cases h; done)
 rename_i elem e1 bs sLen sCap xb n xc hu0 hu1
 simp only [Option.bind_eq_some_iff] at h
 obtain ⟨i,hi,z,hz,new,hnew,h⟩ := h
 split at h <;> try (cases h; done)
 cases bs with
 | none =>
   simp only at h
   split at h
   · cases h; exact Kept.refl _ _
   · split at h
     · cases h; exact Kept.append _ _ _
     · cases h
 | some a =>
   simp only at h
   split at h
   · rename_i hsp
     split at h
     · rename_i hle
       simp only [Option.map_eq_some_iff] at h
       obtain ⟨H1,hst,he⟩ := h
       cases he
       have := astore_kept hst
       simp only [logBuiltin,hsp,if_pos hle]
       rw [block_add] at this
       exact this
     · rename_i hle
       simp only [Option.bind_eq_some_iff] at h
       obtain ⟨old,hold,h⟩ := h
       split at h
       · cases h
         simp only [logBuiltin,hsp,if_neg hle]
         exact Kept.append _ _ _
       · cases h
   · rename_i k hsp
     split at h <;> try (cases h; done)
     split at h
     · rename_i hcc
       obtain ⟨_,_,_,_,_,rfl⟩ := hcc
       cases h
       simp only [logBuiltin,hsp]
       exact Kept.setAppend _ _ _ _
     split at h
     · rename_i hcc
       obtain ⟨_,_,_,_,_,rfl⟩ := hcc
       simp only [Option.map_eq_some_iff] at h
       obtain ⟨H1,hst,he⟩ := h
       cases he
       simp only [logBuiltin,hsp]
       have := astore_kept hst
       exact this
     split at h
     · rename_i hcc
       obtain ⟨_,_,_,_,rfl⟩ := hcc
       cases h
       simp only [logBuiltin,hsp]
       exact Kept.setAppend _ _ _ _
     · cases h
     split at h
     · cases h
       exact ⟨by simp,fun b hb _ => List.getElem?_append_left hb⟩
     · cases h
theorem builtin_kept {b : Builtin} {tys : Array TypeId} {ty : TypeId} {args : List Value} {v : Value} (h : evBuiltin P H b tys ty args = some (v,H')) : Kept H H' (logBuiltin b args) := by
 unfold evBuiltin at h
 split at h
 · simp only [Option.map_eq_some_iff,Prod.mk.injEq] at h
   obtain ⟨_,_,_,rfl⟩ := h
   exact Kept.refl _ _
 · split at h
   · rename_i r hr
     cases h
     exact append_kept hr
   · unfold aAppendZ at h
     split at h <;> try (cases h; done)
     split at h <;> try (cases h; done)
     simp only [Option.bind_eq_some_iff] at h
     obtain ⟨i,hi,z,hz,h⟩ := h
     split at h <;> cases h
     exact Kept.append _ _ _
 · simp only [Option.map_eq_some_iff,Prod.mk.injEq] at h
   obtain ⟨_,_,_,rfl⟩ := h
   exact Kept.refl _ _
 · unfold aCopy at h
   split at h <;> try (cases h; done)
   rename_i bs dLen dc xb m xc h0
   split at h <;> try (cases h; done)
   simp only [Option.bind_eq_some_iff] at h
   obtain ⟨s,hs,cells,hc,h⟩ := h
   cases bs with
   | none => cases h; exact Kept.refl _ _
   | some a =>
     simp only at h
     split at h <;> try (cases h; done)
     simp only [Option.map_eq_some_iff] at h
     obtain ⟨H1,hst,he⟩ := h
     cases he
     exact (astore_kept hst : Kept _ _ [(base a).block])
 · simp only [Option.map_eq_some_iff,Prod.mk.injEq] at h
   obtain ⟨H1,h,_,rfl⟩ := h
   unfold aClear at h
   split at h <;> try (cases h; done)
   split at h <;> try (cases h; done)
   · cases h; exact Kept.refl _ _
   · simp only [Option.bind_eq_some_iff] at h
     obtain ⟨z,hz,h⟩ := h
     split at h
     · cases h; exact Kept.refl _ _
     · split at h <;> try (cases h; done)
       have := astore_kept h
       exact this
   · split at h <;> try (cases h; done)
     cases h; exact Kept.set _ _ _
 · simp only [Option.map_eq_some_iff,Prod.mk.injEq] at h
   obtain ⟨H1,h,_,rfl⟩ := h
   unfold aDelete at h
   split at h <;> try (cases h; done)
   split at h <;> try (cases h; done)
   split at h <;> try (cases h; done)
   split at h <;> try (cases h; done)
   simp only [Option.bind_eq_some_iff,Option.map_eq_some_iff] at h
   obtain ⟨u,hck,q,hq,h⟩ := h
   subst h
   split <;> exact Kept.set _ _ _
 · split at h
   · simp only [Option.bind_eq_some_iff] at h
     obtain ⟨u,_,h⟩ := h
     split at h <;> cases h
     exact Kept.refl _ _
   · cases h
 · split at h
   · simp only [Option.bind_eq_some_iff] at h
     obtain ⟨u,_,h⟩ := h
     split at h <;> cases h
     exact Kept.refl _ _
   · cases h
 · cases h
theorem mapUpdate_kept {t : TypeId} {x k v : Value} (h : aMapUpdate P H t x k v = some H') : ∃ r,x = .map (some r)∧Kept H H' [r] := by
 unfold aMapUpdate at h
 split at h <;> try (cases h; done)
 rename_i kt et r hu
 refine ⟨r,rfl,?_⟩
 split at h <;> try (cases h; done)
 split at h <;> try (cases h; done)
 simp only [Option.bind_eq_some_iff] at h
 obtain ⟨u,hck,q,hq,h⟩ := h
 split at h
 · split at h
   · split at h <;> cases h
     exact Kept.set _ _ _
   · cases h
 · cases h; exact Kept.set _ _ _
theorem mapEntry_kept {t : TypeId} {x k v : Value} (h : aMapEntry P H t x k = some (v,H')) : ∃ r,x = .map (some r)∧Kept H H' [r] := by
 unfold aMapEntry at h
 split at h <;> try (cases h; done)
 rename_i kt et r hu
 refine ⟨r,rfl,?_⟩
 split at h <;> try (cases h; done)
 split at h <;> try (cases h; done)
 simp only [Option.bind_eq_some_iff] at h
 obtain ⟨u,hck,q,hq,h⟩ := h
 split at h
 · split at h
   · split at h <;> cases h
     exact Kept.set _ _ _
   · cases h
 · simp only [Option.map_eq_some_iff,Prod.mk.injEq] at h
   obtain ⟨z,_,_,rfl⟩ := h
   exact Kept.set _ _ _
theorem entryStore_kept {x s v : Value} (h : aEntryStore H x s v = some H') : ∃ r,x = .map (some r)∧Kept H H' [r] := by
 unfold aEntryStore at h
 split at h <;> try (cases h; done)
 rename_i r k n
 refine ⟨r,rfl,?_⟩
 split at h <;> try (cases h; done)
 split at h <;> try (cases h; done)
 split at h <;> cases h
 exact Kept.set _ _ _
theorem aMixes_kept {cs : List MCell} : ∀ (n x : Nat) {H H' : Heap} {vs : List Value},aMixes cs x n H = some (vs,H')→Kept H H' []
 | 0,x,H,H',vs,h => by cases h; exact Kept.refl _ _
 | n + 1,x,H,H',vs,h => by
   unfold aMixes at h
   split at h <;> try (cases h; done)
   rename_i m _
   split at h <;> cases h
   rename_i vs' hr
   have h1 : Kept H (aMix H m).2 [] := by cases m <;> first | exact Kept.refl _ _ | exact Kept.append _ _ _
   exact h1.trans (aMixes_kept n (x + 1) hr)
theorem rowOf_kept {env : Operand→Option Value} {o : Oper} {v : Value} (h : rowOf P env H o = some (v,H')) : Kept H H' [] := by
 unfold rowOf at h
 split at h <;> try (cases h; done)
 · simp only [Option.bind_eq_some_iff] at h
   obtain ⟨_,_,_,_,_,_,_,_,h⟩ := h
   unfold aSliceEnd at h
   split at h <;> try (cases h; done)
   split at h <;> try (cases h; done)
   simp only [Option.bind_eq_some_iff] at h
   obtain ⟨_,_,h⟩ := h
   split at h <;> try (cases h; done)
   simp only [Option.bind_eq_some_iff] at h
   obtain ⟨⟨_,_,_⟩,_,h⟩ := h
   simp only at h
   split at h <;> try (cases h; done)
   split at h <;> cases h
   exact Kept.append _ _ _
 split at h <;> try (cases h; done)
 split at h <;> try (cases h; done)
 · simp only [Option.map_eq_some_iff] at h
   obtain ⟨c,_,he⟩ := h
   cases c <;> cases he <;> first | exact Kept.refl _ _ | exact Kept.append _ _ _
 · unfold aMixAgg at h
   split at h <;> try (cases h; done)
   simp only [Option.bind_eq_some_iff,Option.map_eq_some_iff] at h
   obtain ⟨n,_,⟨vs,H1⟩,hm,he⟩ := h
   cases he
   exact aMixes_kept n _ hm
theorem evOp_kept {o : Oper} {r : ONext} (h : evOp P env H o = some (r,H')) : Kept H H' (evLog env o) := by
 unfold evOp at h
 unfold evLog
 generalize o.op = op at h ⊢
 cases op <;> simp only at h ⊢ <;> try (cases h; done)
 case alloc t =>
   simp only [Option.map_eq_some_iff,Prod.mk.injEq] at h
   obtain ⟨_,_,_,rfl⟩ := h
   exact Kept.append _ _ _
 case box t x =>
   simp only [Option.bind_eq_some_iff] at h
   obtain ⟨v,h1,h⟩ := h
   split at h <;> cases h
   exact Kept.append _ _ _
 case buildSlice t len parts =>
   simp only [Option.bind_eq_some_iff,Option.map_eq_some_iff,Prod.mk.injEq] at h
   obtain ⟨ps,h1,⟨v,H1⟩,h2,rfl,rfl⟩ := h
   unfold aBuildSlice at h2
   split at h2 <;> try (cases h2; done)
   simp only [Option.bind_eq_some_iff] at h2
   obtain ⟨s,hs,h2⟩ := h2
   split at h2 <;> try (cases h2; done)
   simp only [Option.bind_eq_some_iff,Option.map_eq_some_iff] at h2
   obtain ⟨_,_,_,_,he⟩ := h2
   cases he
   exact Kept.append _ _ _
 case store t x y =>
   split at h <;> try (cases h; done)
   rename_i a v h1 h2
   simp only [Option.map_eq_some_iff,Prod.mk.injEq] at h
   obtain ⟨H1,h3,rfl,rfl⟩ := h
   rw [h1]
   unfold astoreVar at h3
   split at h3
   · exact astore_kept h3
   · cases h3
 case makeMap t r =>
   cases r <;> simp only at h <;> try (cases h; done)
   cases h
   exact Kept.append _ _ _
 case makeSlice t l c =>
   split at h <;> try (cases h; done)
   rename_i lv cv h1 h2
   simp only [Option.map_eq_some_iff,Prod.mk.injEq] at h
   obtain ⟨⟨v,H1⟩,h3,rfl,rfl⟩ := h
   unfold aMakeSlice at h3
   split at h3 <;> try (cases h3; done)
   simp only [Option.bind_eq_some_iff] at h3
   obtain ⟨s,hs,bytes,hb,h3⟩ := h3
   split at h3 <;> try (cases h3; done)
   simp only [Option.map_eq_some_iff] at h3
   obtain ⟨z,hz,he⟩ := h3
   cases he
   exact Kept.append _ _ _
 case mapUpdate t m k x =>
   split at h <;> try (cases h; done)
   rename_i a b c h1 h2 h3
   simp only [Option.map_eq_some_iff,Prod.mk.injEq] at h
   obtain ⟨H1,h4,rfl,rfl⟩ := h
   obtain ⟨r,rfl,hk⟩ := mapUpdate_kept h4
   rw [h1]; exact hk
 case insert t m k x =>
   split at h <;> try (cases h; done)
   rename_i a b c h1 h2 h3
   simp only [Option.map_eq_some_iff,Prod.mk.injEq] at h
   obtain ⟨H1,h4,rfl,rfl⟩ := h
   obtain ⟨r,rfl,hk⟩ := mapUpdate_kept h4
   rw [h1]; exact hk
 case mapEntry t m k =>
   split at h <;> try (cases h; done)
   rename_i a b h1 h2
   simp only [Option.map_eq_some_iff,Prod.mk.injEq] at h
   obtain ⟨⟨v,H1⟩,h4,rfl,rfl⟩ := h
   obtain ⟨r,rfl,hk⟩ := mapEntry_kept h4
   rw [h1]; exact hk
 case entryStore t m s x =>
   split at h <;> try (cases h; done)
   rename_i a b c h1 h2 h3
   simp only [Option.map_eq_some_iff,Prod.mk.injEq] at h
   obtain ⟨H1,h4,rfl,rfl⟩ := h
   obtain ⟨r,rfl,hk⟩ := entryStore_kept h4
   rw [h1]; exact hk
 case range t x =>
   simp only [Option.bind_eq_some_iff,Option.map_eq_some_iff,Prod.mk.injEq] at h
   obtain ⟨v,h1,⟨u,H1⟩,h2,rfl,rfl⟩ := h
   unfold aRange at h2
   split at h2 <;> try (cases h2; done)
   split at h2 <;> try (cases h2; done)
   cases h2
   exact Kept.append _ _ _
 case next x b =>
   cases b <;> simp only at h <;> try (cases h; done)
   simp only [Option.bind_eq_some_iff] at h
   obtain ⟨v,h1,outs,h2,h⟩ := h
   obtain ⟨q,rfl,h⟩ := oneOf_some h
   cases h
   unfold aNext at h2
   split at h2 <;> try (cases h2; done)
   rename_i a
   split at h2 <;> try (cases h2; done)
   split at h2 <;> try (cases h2; done)
   split at h2 <;> try (cases h2; done)
   split at h2 <;> try (cases h2; done)
   simp only [Option.some.injEq] at h2
   rw [h1]
   have hq : q ∈ [q] := List.mem_singleton.2 rfl
   rw [← h2,List.mem_map] at hq
   obtain ⟨c,_,rfl⟩ := hq
   cases c with
   | none => exact Kept.refl _ _
   | some e => exact Kept.set _ _ _
 case call c =>
   simp only [evCall,Option.bind_eq_some_iff] at h
   obtain ⟨args,ha,h⟩ := h
   cases hcal : c.callee with
   | builtin b =>
     rw [hcal] at h
     simp only [Option.map_eq_some_iff,Prod.mk.injEq] at h
     obtain ⟨⟨v,H1⟩,h1,rfl,rfl⟩ := h
     simp only [ha]
     exact builtin_kept h1
   | value f =>
     rw [hcal] at h
     simp only [Option.bind_eq_some_iff,Option.map_eq_some_iff,Prod.mk.injEq] at h
     obtain ⟨fv,hf,r',h1,rfl,rfl⟩ := h
     exact Kept.refl _ _
   | invoke x m => rw [hcal] at h; cases h
 case makeFunc fn first captured =>
   cases fn <;> simp only at h <;> try (cases h; done)
   simp only [Option.bind_eq_some_iff] at h
   obtain ⟨a,h1,b,h2,h⟩ := h
   split at h <;> cases h
   exact Kept.refl _ _
 case pick c a b =>
   split at h <;> cases h
   exact Kept.refl _ _
 case load t x =>
   split at h <;> try (cases h; done)
   simp only [Option.map_eq_some_iff,Prod.mk.injEq] at h
   obtain ⟨_,_,_,rfl⟩ := h
   exact Kept.refl _ _
 case extract x i =>
   split at h <;> try (cases h; done)
   simp only [Option.map_eq_some_iff,Prod.mk.injEq] at h
   obtain ⟨_,_,_,rfl⟩ := h
   exact Kept.refl _ _
 case move x =>
   simp only [Option.map_eq_some_iff,Prod.mk.injEq] at h
   obtain ⟨_,_,_,rfl⟩ := h
   exact Kept.refl _ _
 case assign x =>
   simp only [Option.map_eq_some_iff,Prod.mk.injEq] at h
   obtain ⟨_,_,_,rfl⟩ := h
   exact Kept.refl _ _
 case slice t x lo hi mx =>
   simp only [Option.bind_eq_some_iff,Option.map_eq_some_iff,Prod.mk.injEq] at h
   obtain ⟨v,h1,los,h2,his,h3,mxs,h4,h⟩ := h
   split at h
   · cases h; exact Kept.refl _ _
   · split at h <;> try (cases h; done)
     rename_i hpf
     split at h <;> try (cases h; done)
     simp only [Option.map_eq_some_iff,Prod.mk.injEq] at h
     obtain ⟨⟨v',H1⟩,h5,_,rfl⟩ := h
     simp only [hpf,h1]
     exact aPop_kept h5
 case binOp op t x y yt =>
   split at h <;> try (cases h; done)
   simp only [Option.map_eq_some_iff,Prod.mk.injEq] at h
   obtain ⟨_,_,_,rfl⟩ := h
   exact Kept.refl _ _
 case indexAddr t x ix =>
   split at h <;> try (cases h; done)
   simp only [Option.map_eq_some_iff,Prod.mk.injEq] at h
   obtain ⟨_,_,_,rfl⟩ := h
   exact Kept.refl _ _
 case index t x ix =>
   split at h <;> try (cases h; done)
   simp only [Option.map_eq_some_iff,Prod.mk.injEq] at h
   obtain ⟨_,_,_,rfl⟩ := h
   exact Kept.refl _ _
 case lookup t x ix ok =>
   split at h <;> try (cases h; done)
   simp only [Option.map_eq_some_iff,Prod.mk.injEq] at h
   obtain ⟨_,_,_,rfl⟩ := h
   exact Kept.refl _ _
 all_goals
   simp only [Option.bind_eq_some_iff,Option.map_eq_some_iff,Prod.mk.injEq] at h
   obtain ⟨_,_,_,_,_,rfl⟩ := h
   exact Kept.refl _ _
def maskH : Heap→List Nat→Heap
 | H,[] => H
 | H,b :: l => maskH (H.set b .gone) l
def showH (G : Heap) : Heap→List Nat→Heap
 | F,[] => F
 | F,b :: l => showH G (match G[b]? with | some o => F.set b o | none => F) l
theorem maskH_length : ∀ (l : List Nat) (H : Heap),(maskH H l).length = H.length
 | [],_ => rfl
 | b :: l,H => by simp [maskH,maskH_length l]
theorem maskH_in : ∀ (l : List Nat) (H : Heap) (b : Nat),b ∈ l→b < H.length→(maskH H l)[b]? = some .gone
 | [],_,_,h,_ => by cases h
 | c :: l,H,b,h,hb => by
   simp only [maskH]
   by_cases hl : b ∈ l
   · exact maskH_in l _ b hl (by simpa using hb)
   · have hbc : b = c := by rcases List.mem_cons.1 h with h | h; exact h; exact absurd h hl
     have key : ∀ (l : List Nat) (H : Heap),b ∉ l→(maskH H l)[b]? = H[b]? := by
       intro l
       induction l with
       | nil => intro H _; rfl
       | cons a l ih =>
         intro H hn
         simp only [List.mem_cons,not_or] at hn
         simp only [maskH]
         rw [ih _ hn.2,List.getElem?_set_ne (Ne.symm hn.1)]
     rw [key l _ hl,← hbc]
     simp [hb]
theorem maskH_out : ∀ (l : List Nat) (H : Heap) (b : Nat),b ∉ l→(maskH H l)[b]? = H[b]?
 | [],_,_,_ => rfl
 | c :: l,H,b,h => by
   simp only [List.mem_cons,not_or] at h
   simp only [maskH]
   rw [maskH_out l _ b h.2,List.getElem?_set_ne (Ne.symm h.1)]
theorem showH_length (G : Heap) : ∀ (l : List Nat) (F : Heap),(showH G F l).length = F.length
 | [],_ => rfl
 | b :: l,F => by
   simp only [showH]
   rw [showH_length G l]
   split <;> simp
theorem showH_out (G : Heap) : ∀ (l : List Nat) (F : Heap) (b : Nat),b ∉ l→(showH G F l)[b]? = F[b]?
 | [],_,_,_ => rfl
 | c :: l,F,b,h => by
   simp only [List.mem_cons,not_or] at h
   simp only [showH]
   rw [showH_out G l _ b h.2]
   split
   · rw [List.getElem?_set_ne (Ne.symm h.1)]
   · rfl
theorem showH_in (G : Heap) : ∀ (l : List Nat) (F : Heap) (b : Nat),b ∈ l→b < G.length→b < F.length→(showH G F l)[b]? = G[b]?
 | [],_,_,h,_,_ => by cases h
 | c :: l,F,b,h,hG,hF => by
   simp only [showH]
   by_cases hl : b ∈ l
   · exact showH_in G l _ b hl hG (by split <;> simpa using hF)
   · have hbc : b = c := by rcases List.mem_cons.1 h with h | h; exact h; exact absurd h hl
     rw [showH_out G l _ b hl]
     subst hbc
     rw [List.getElem?_eq_getElem hG]
     simp [hF]
end Go.Pier
