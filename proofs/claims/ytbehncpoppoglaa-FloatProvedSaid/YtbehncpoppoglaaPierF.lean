import Derived.Test.YtbehncpoppoglaaPierE
set_option linter.unusedSimpArgs false
set_option linter.unusedVariables false
namespace Go.Pier
open Go
variable {P : Program} {ρ : Ren} {H H' : Heap} {w : World} {env : Operand→Option Value} {ρC : Operand→Value}
theorem ren_pointer (ρ : Ren) (a : Addr) : ren ρ (.pointer (some a)) = .pointer (some (ρ.addr a)) := rfl
theorem sc_pointer {n : Nat} {a : Addr} : sc n (.pointer (some a)) = (decide (a.block < n) && a.spot.isNone) := rfl
theorem sc_slice {n : Nat} {a : Addr} {l c : Nat} : sc n (.slice (some a) l c) = decide (a.block < n) := rfl
def base (a : Addr) : Addr := ⟨a.block,a.off,none⟩
theorem addr_base (ρ : Ren) (a : Addr) : ρ.addr (base a) = ρ.addr a := rfl
theorem block_add (a : Addr) (k : Nat) : (a.add k).block = a.block := by unfold Addr.add; split <;> rfl
theorem sc_base_add {n : Nat} {a : Addr} {k : Nat} (h : decide (a.block < n) = true) : (decide (((base a).add k).block < n) && ((base a).add k).spot.isNone) = true := by
 unfold Addr.add
 split
 · show (decide (a.block < n) && true) = true; rw [h]; rfl
 · show (decide (a.block < n) && true) = true; rw [h]; rfl
theorem sc_add {n : Nat} {a : Addr} {k : Nat} (h : (decide (a.block < n) && a.spot.isNone) = true) : (decide ((a.add k).block < n) && (a.add k).spot.isNone) = true := by
 unfold Addr.add
 split
 · exact h
 · simp only [Bool.and_eq_true] at h ⊢; exact ⟨h.1,rfl⟩
def aFieldAddr (P : Program) (s : TypeId) (x : Value) (f : Nat) : Option Value :=
 match P.underlying s,x with
 | some (.struct fields),.pointer (some a) => (fields[f]?).bind fun fd => (sizeT P fd.type).bind fun n => if n = 0 then none else some (.pointer (some (a.add fd.offset)))
 | _,_ => none
theorem aFieldAddr_sound {n : Nat} {s : TypeId} {x v : Value} {f : Nat} (h : aFieldAddr P s x f = some v) (hs : sc n x = true) :
   (Instr.fieldAt s (ren ρ x) f).run P w = .ok (ren ρ v) w∧sc n v = true := by
 unfold aFieldAddr at h
 split at h
 · rename_i fields a hu
   simp only [Option.bind_eq_some_iff] at h
   obtain ⟨fd,hf,m,hm,h⟩ := h
   split at h
   · cases h
   · rename_i h0
     cases h
     refine ⟨?_,sc_add hs⟩
     simp only [Instr.fieldAt,Sem.run_bind,run_underlying hu,Result.andThen_ok,hf,ren_pointer,Instr.sureAddr,fieldPlace,run_sizeOf hm]
     simp [h0,addr_add]
 · cases h
def aIndexAddr (P : Program) (t : TypeId) (x ix : Value) : Option Value :=
 match P.underlying t,x,ix with
 | some (.array len elem),.pointer (some a),.int _ i => if 0≤i∧i < len then (sizeT P elem).map fun s => .pointer (some (a.add (i.toNat * s))) else none
 | some (.slice elem),.slice (some a) len cap,.int _ i => if 0≤i∧i < len∧std a cap = true then (sizeT P elem).map fun s => .pointer (some ((base a).add (i.toNat * s))) else none
 | _,_,_ => none
theorem aIndexAddr_sound {n : Nat} {t : TypeId} {x ix v : Value} (h : aIndexAddr P t x ix = some v) (hs : sc n x = true) :
   (Instr.indexAt t (ren ρ x) (ren ρ ix)).run P w = .ok (ren ρ v) w∧sc n v = true := by
 unfold aIndexAddr at h
 split at h
 · rename_i len elem a k i hu
   split at h
   · rename_i hc
     simp only [Option.map_eq_some_iff] at h
     obtain ⟨s,hz,rfl⟩ := h
     refine ⟨?_,sc_add hs⟩
     simp [Instr.indexAt,ren,ren2,ren1,ren0,asIntOf,run_underlying hu,Instr.sureAddr,hc,run_sizeOf hz,addr_add]
   · cases h
 · rename_i elem a len c k i hu
   split at h
   · rename_i hc
     simp only [Option.map_eq_some_iff] at h
     obtain ⟨s,hz,rfl⟩ := h
     refine ⟨?_,sc_base_add hs⟩
     simp [Instr.indexAt,ren,ren2,ren1,ren0,asIntOf,run_underlying hu,hc,run_sizeOf hz,adr_std hc.2.2,← addr_add,addr_base]
   · cases h
 · cases h
def bnd (x : Value) (y : Nat) : Option Nat := match x with | .int _ i => if 0≤i∧i≤y then some i.toNat else none | _ => none
theorem bnd_sound {x : Value} {y m : Nat} (code : BoundsCode) (y' : Nat) (h : bnd x y = some m) (hy : y≤y') : (Instr.sliceBound (ren ρ x) y' code).run P w = .ok m w∧m≤y := by
 unfold bnd at h
 split at h
 · rename_i k i
   split at h
   · rename_i hc
     cases h
     have hc' : 0≤i∧i≤(y' : Int) := ⟨hc.1,by have := hc.2; omega⟩
     exact ⟨by simp [Instr.sliceBound,ren,ren2,ren1,ren0,asIntOf,hc'],by omega⟩
   · cases h
 · cases h
def aBounds (len room : Nat) (lo hi mx : Option Value) : Option (Nat × Nat × Option Nat) :=
 match mx with
 | some v => (bnd v room).bind fun m => match hi with
   | some u => (bnd u m).bind fun h => match lo with
     | some x => (bnd x h).map fun l => (l,h,some m)
     | none => some (0,h,some m)
   | none => none
 | none => match hi with
   | some u => (bnd u room).bind fun h => match lo with
     | some x => (bnd x h).map fun l => (l,h,none)
     | none => some (0,h,none)
   | none => match lo with
     | some x => (bnd x len).map fun l => (l,len,none)
     | none => some (0,len,none)
theorem aBounds_sound {len room : Nat} {lo hi mx : Option Value} {l h : Nat} {m : Option Nat} (isSlice : Bool) (cap : Nat) (hr : room≤cap) (hlen : len≤room) (e : aBounds len room lo hi mx = some (l,h,m)) :
   (Instr.sliceBounds isSlice len cap (lo.map (ren ρ)) (hi.map (ren ρ)) (mx.map (ren ρ))).run P w = .ok (l,h,m.getD cap) w∧l≤h∧h≤room∧(∀ k,m = some k→h≤k∧k≤room)∧(hi = none→h = len) := by
 unfold aBounds at e
 split at e
 · rename_i v
   simp only [Option.bind_eq_some_iff] at e
   obtain ⟨m',hm,e⟩ := e
   obtain ⟨k1,k2⟩ := bnd_sound (P := P) (ρ := ρ) (w := w) (if isSlice then .slice3Acap else .slice3Alen) cap hm hr
   split at e
   · rename_i u
     simp only [Option.bind_eq_some_iff] at e
     obtain ⟨h',hh,e⟩ := e
     obtain ⟨k3,k4⟩ := bnd_sound (P := P) (ρ := ρ) (w := w) .slice3B m' hh (Nat.le_refl _)
     split at e
     · rename_i x
       simp only [Option.map_eq_some_iff] at e
       obtain ⟨l',hl,e⟩ := e
       cases e
       obtain ⟨k5,k6⟩ := bnd_sound (P := P) (ρ := ρ) (w := w) .slice3C h hl (Nat.le_refl _)
       exact ⟨by simp [Instr.sliceBounds,k1,k3,k5],k6,by omega,(fun k hk => by cases hk; omega),(fun e => nomatch e)⟩
     · cases e
       exact ⟨by simp [Instr.sliceBounds,k1,k3],Nat.zero_le _,by omega,(fun k hk => by cases hk; omega),(fun e => nomatch e)⟩
   · cases e
 · split at e
   · rename_i u
     simp only [Option.bind_eq_some_iff] at e
     obtain ⟨h',hh,e⟩ := e
     obtain ⟨k3,k4⟩ := bnd_sound (P := P) (ρ := ρ) (w := w) (if isSlice then .sliceAcap else .sliceAlen) cap hh hr
     split at e
     · rename_i x
       simp only [Option.map_eq_some_iff] at e
       obtain ⟨l',hl,e⟩ := e
       cases e
       obtain ⟨k5,k6⟩ := bnd_sound (P := P) (ρ := ρ) (w := w) .sliceB _ hl (Nat.le_refl _)
       exact ⟨by simp [Instr.sliceBounds,k3,k5],k6,by omega,(fun k hk => nomatch hk),(fun e => nomatch e)⟩
     · cases e
       exact ⟨by simp [Instr.sliceBounds,k3],Nat.zero_le _,by omega,(fun k hk => nomatch hk),(fun e => nomatch e)⟩
   · split at e
     · rename_i x
       simp only [Option.map_eq_some_iff] at e
       obtain ⟨l',hl,e⟩ := e
       cases e
       obtain ⟨k5,k6⟩ := bnd_sound (P := P) (ρ := ρ) (w := w) .sliceB _ hl (Nat.le_refl _)
       exact ⟨by simp [Instr.sliceBounds,k5],k6,by omega,(fun k hk => nomatch hk),(fun _ => rfl)⟩
     · cases e
       exact ⟨by simp [Instr.sliceBounds],Nat.zero_le _,by omega,(fun k hk => nomatch hk),(fun _ => rfl)⟩
def openAt (H : Heap) (a : Addr) (s k len : Nat) : Bool :=
 match H[a.block]? with
 | some (.rw cs (some s')) => s' == s && decide (0 < s) && decide (a.off = k * s) && decide ((k + len) * s≤cs.length)
 | _ => false
theorem openAt_room (R : Rel ρ H w) {a : Addr} {s k len : Nat} (h : openAt H a s k len = true) : k + len≤ρ.κ a.block := by
 unfold openAt at h
 split at h
 · rename_i cs s' hb
   simp only [Bool.and_eq_true,beq_iff_eq,decide_eq_true_eq] at h
   obtain ⟨⟨⟨rfl,h0⟩,h1⟩,h2⟩ := h
   obtain ⟨_,cs',t,_,_,h3,h4⟩ := R.obj _ _ hb
   have : (k + len) * s'≤ρ.κ a.block * s' := by omega
   exact Nat.le_of_mul_le_mul_right this h0
 · cases h
def withSpot (a : Addr) (k : Nat) : Addr := ⟨a.block,a.off,some k⟩
def aSlice0 (P : Program) (H : Heap) (t : TypeId) (x : Value) (lo hi mx : Option Value) : Option Value :=
 match P.underlying t,x with
 | some (.array n elem),.pointer (some a) =>
   (aBounds n n lo hi mx).bind fun (l,h,m) => (sizeT P elem).map fun s => .slice (some (if m.getD n = l then base a else (base a).add (l * s))) (h - l) (m.getD n - l)
 | some (.slice elem),.slice none len cap =>
   if len≤cap then (aBounds len cap lo hi mx).bind fun (l,h,m) => (sizeT P elem).map fun _ => .slice none (h - l) (m.getD cap - l) else none
 | some (.slice elem),.slice (some a) len cap =>
   match a.spot with
   | none =>
     if len≤cap then (aBounds len cap lo hi mx).bind fun (l,h,m) => (sizeT P elem).map fun s => .slice (some (if m.getD cap = l then base a else (base a).add (l * s))) (h - l) (m.getD cap - l) else none
   | some k => (sizeT P elem).bind fun s => if cap = 0 ∧ openAt H a s k len = true then
       (aBounds len len lo hi mx).bind fun (l,h,m) => match m with
         | some m => some (.slice (some (if m = l then base a else (base a).add (l * s))) (h - l) (m - l))
         | none => if l = 0∨l < len then some (.slice (some (withSpot ((base a).add (l * s)) (k + l))) (h - l) 0) else none
     else if 0 < cap∧len = 0 then (aBounds 0 0 lo hi mx).map fun _ => .slice (some a) 0 cap else none
 | _,_ => none
theorem add_zero_mul (a : Addr) (s : Nat) : a.add (0 * s) = a := by simp [Addr.add]
theorem spot_base_add (a : Addr) (k : Nat) : ((base a).add k).spot = none := by unfold Addr.add; split <;> rfl
theorem ren_slice_base {ρ : Ren} {a : Addr} {n c : Nat} : ren ρ (.slice (some (base a)) n c) = .slice (some (ρ.addr a)) n c := rfl
theorem ren_slice_add {ρ : Ren} {a : Addr} {n c k : Nat} : ren ρ (.slice (some ((base a).add k)) n c) = .slice (some ((ρ.addr a).add k)) n c := by
 simp only [ren,ren2,ren1,ren0,Ren.cap,Ren.adr,spot_base_add,← addr_add,addr_base]
theorem ren_slice_none {ρ : Ren} {a : Addr} {n c : Nat} (h : a.spot = none) : ren ρ (.slice (some a) n c) = .slice (some (ρ.addr a)) n c := by
 simp only [ren,ren2,ren1,ren0,Ren.cap,Ren.adr,h]
theorem ren_slice_some {ρ : Ren} {a : Addr} {n k : Nat} (h : a.spot = some k) : ren ρ (.slice (some a) n 0) = .slice (some (ρ.addr a)) n (ρ.κ a.block - k) := by
 simp only [ren,ren2,ren1,ren0,Ren.cap,Ren.adr,h]
theorem sc_slice_base {n : Nat} {a : Addr} {l c : Nat} (h : decide (a.block < n) = true) : sc n (.slice (some (base a)) l c) = true := h
theorem sc_slice_add {n : Nat} {a : Addr} {l c k : Nat} (h : decide (a.block < n) = true) : sc n (.slice (some ((base a).add k)) l c) = true := by
 rw [sc_slice,block_add]; exact h
theorem aSlice0_sound (R : Rel ρ H w) {t : TypeId} {x v : Value} {lo hi mx : Option Value} (h : aSlice0 P H t x lo hi mx = some v) (hs : sc H.length x = true) :
   (Instr.sliceAt t (ren ρ x) (lo.map (ren ρ)) (hi.map (ren ρ)) (mx.map (ren ρ))).run P w = .ok (ren ρ v) w∧sc H.length v = true := by
 unfold aSlice0 at h
 split at h
 · rename_i n elem a hu
   simp only [Option.bind_eq_some_iff,Option.map_eq_some_iff] at h
   obtain ⟨⟨l,h',m⟩,hb,s,hz,rfl⟩ := h
   obtain ⟨k1,k2,k3,k4,_⟩ := aBounds_sound (P := P) (ρ := ρ) (w := w) false n (Nat.le_refl _) (Nat.le_refl _) hb
   have hs' : decide (a.block < H.length) = true := by rw [sc_pointer] at hs; simp only [Bool.and_eq_true] at hs; exact hs.1
   refine ⟨?_,?_⟩
   · simp only [Instr.sliceAt,Sem.run_bind,run_underlying hu,Result.andThen_ok,ren_pointer,Instr.sureAddr,k1,run_sizeOf hz,Sem.run_pure]
     split
     · rw [ren_slice_base]
     · rw [ren_slice_add]
   · split
     · exact sc_slice_base hs'
     · exact sc_slice_add hs'
 · rename_i elem len cap hu
   split at h
   · rename_i hc
     simp only [Option.bind_eq_some_iff,Option.map_eq_some_iff] at h
     obtain ⟨⟨l,h',m⟩,hb,s,hz,rfl⟩ := h
     obtain ⟨k1,k2,k3,k4,_⟩ := aBounds_sound (P := P) (ρ := ρ) (w := w) true cap (Nat.le_refl _) hc hb
     refine ⟨?_,rfl⟩
     simp only [Instr.sliceAt,Instr.slice,Sem.run_bind,run_underlying hu,Result.andThen_ok,ren,ren2,ren1,ren0,k1,run_sizeOf hz]
     simp
   · cases h
 · rename_i elem a len cap hu
   have hs' : decide (a.block < H.length) = true := hs
   split at h
   · rename_i hsp
     split at h
     · rename_i hlc
       simp only [Option.bind_eq_some_iff,Option.map_eq_some_iff] at h
       obtain ⟨⟨l,h',m⟩,hb,s,hz,rfl⟩ := h
       obtain ⟨k1,k2,k3,k4,_⟩ := aBounds_sound (P := P) (ρ := ρ) (w := w) true cap (Nat.le_refl _) hlc hb
       refine ⟨?_,?_⟩
       · simp only [Instr.sliceAt,Instr.slice,Sem.run_bind,run_underlying hu,Result.andThen_ok,ren_slice_none hsp,k1,run_sizeOf hz,Sem.run_pure]
         split
         · rw [ren_slice_base]
         · rw [ren_slice_add]; rfl
       · split
         · exact sc_slice_base hs'
         · exact sc_slice_add hs'
     · cases h
   · rename_i k hsp
     simp only [Option.bind_eq_some_iff] at h
     obtain ⟨s,hz,h⟩ := h
     split at h
     · rename_i ho
       obtain ⟨rfl,ho⟩ := ho
       have hroom := openAt_room R ho
       simp only [Option.bind_eq_some_iff] at h
       obtain ⟨⟨l,h',m⟩,hb,h⟩ := h
       obtain ⟨k1,k2,k3,k4,_⟩ := aBounds_sound (P := P) (ρ := ρ) (w := w) true (ρ.κ a.block - k) (by omega) (Nat.le_refl _) hb
       cases m with
       | some m =>
         simp only [Option.some.injEq] at h
         subst h
         refine ⟨?_,?_⟩
         · simp only [Instr.sliceAt,Instr.slice,Sem.run_bind,run_underlying hu,Result.andThen_ok,ren_slice_some hsp,k1,run_sizeOf hz,Option.getD_some,Sem.run_pure]
           split
           · rw [ren_slice_base]
           · rw [ren_slice_add]; rfl
         · split
           · exact sc_slice_base hs'
           · exact sc_slice_add hs'
       | none =>
         simp only at h
         split at h
         · rename_i hl
           cases h
           refine ⟨?_,by rw [sc_slice]; show decide (((base a).add (l * s)).block < H.length) = true; rw [block_add]; exact hs'⟩
           have e1 : (if ρ.κ a.block - k = l then some (ρ.addr a) else (some (ρ.addr a)).map fun x => x.add (l * s)) = some ((ρ.addr a).add (l * s)) := by
             by_cases hl0 : l = 0
             · subst hl0; rw [add_zero_mul]; simp [Addr.add]
             · rw [if_neg (by omega)]; rfl
           have e2 : ρ.κ a.block - k - l = ρ.κ a.block - (k + l) := by omega
           have e3 : ren ρ (.slice (some (withSpot ((base a).add (l * s)) (k + l))) (h' - l) 0) = .slice (some ((ρ.addr a).add (l * s))) (h' - l) (ρ.κ a.block - (k + l)) := by
             rw [ren_slice_some (k := k + l) rfl]
             show Value.slice (some (ρ.addr ((base a).add (l * s)))) _ (ρ.κ ((base a).add (l * s)).block - _) = _
             rw [block_add,← addr_add,addr_base]; rfl
           simp only [Instr.sliceAt,Instr.slice,Sem.run_bind,run_underlying hu,Result.andThen_ok,ren_slice_some hsp,k1,run_sizeOf hz,Option.getD_none,Sem.run_pure,e3]
           rw [e1,e2]
         · cases h
     · split at h
       · rename_i hcl
         obtain ⟨hcap,rfl⟩ := hcl
         simp only [Option.map_eq_some_iff] at h
         obtain ⟨⟨l,h',m⟩,hb,rfl⟩ := h
         obtain ⟨k1,k2,k3,k4,_⟩ := aBounds_sound (P := P) (ρ := ρ) (w := w) true 0 (Nat.le_refl _) (Nat.le_refl _) hb
         refine ⟨?_,hs'⟩
         have hm : m.getD 0 = 0 := by
           cases m with
           | none => rfl
           | some m => have := (k4 m rfl).2; simp; omega
         have hl : l = 0 := by omega
         have hh : h' = 0 := by omega
         cases cap with
         | zero => omega
         | succ c =>
           have e : ren ρ (.slice (some a) 0 (c + 1)) = .slice (some (ρ.adr a (c + 1))) 0 0 := by simp only [ren,ren2,ren1,ren0,Ren.cap,hsp]
           rw [e]
           simp only [Instr.sliceAt,Instr.slice,Sem.run_bind,run_underlying hu,Result.andThen_ok,k1,run_sizeOf hz,hm,hl,hh,Sem.run_pure]
           rfl
       · cases h
 · cases h
def aBehind (P : Program) (H : Heap) (t : TypeId) (x : Value) (lo hi mx : Option Value) : Option Value :=
 match P.underlying t,x,mx with
 | some (.slice elem),.slice (some a) len 0,none => match a.spot with
   | some k => (sizeT P elem).bind fun s => match H[a.block]? with
     | some (.rw cs _) => if openAt H a s k (cs.length / s - k) = true ∧ len ≤ cs.length / s - k then
         (aBounds len (cs.length / s - k) lo hi none).bind fun (l,h,_) => if l < h then some (.slice (some (withSpot ((base a).add (l * s)) (k + l))) (h - l) 0) else none
       else none
     | _ => none
   | none => none
 | _,_,_ => none
theorem aBehind_sound (R : Rel ρ H w) {t : TypeId} {x v : Value} {lo hi mx : Option Value} (h : aBehind P H t x lo hi mx = some v) (hs : sc H.length x = true) :
   (Instr.sliceAt t (ren ρ x) (lo.map (ren ρ)) (hi.map (ren ρ)) (mx.map (ren ρ))).run P w = .ok (ren ρ v) w∧sc H.length v = true := by
 unfold aBehind at h
 split at h <;> try (cases h; done)
 rename_i elem a len hu
 have hs' : decide (a.block < H.length) = true := hs
 split at h <;> try (cases h; done)
 rename_i k hsp
 simp only [Option.bind_eq_some_iff] at h
 obtain ⟨s,hz,h⟩ := h
 split at h <;> try (cases h; done)
 rename_i cs r hb
 split at h <;> try (cases h; done)
 rename_i hc
 obtain ⟨ho,hlen⟩ := hc
 generalize cs.length / s - k = ext at ho hlen h
 have hroom := openAt_room R ho
 simp only [Option.bind_eq_some_iff] at h
 obtain ⟨⟨l,h',m⟩,hbd,h⟩ := h
 obtain ⟨k1,k2,k3,k4,_⟩ := aBounds_sound (P := P) (ρ := ρ) (w := w) true (ρ.κ a.block - k) (by omega) hlen hbd
 simp only at h
 split at h <;> cases h
 rename_i hl
 have hm : m = none := by
   cases hi with
   | none => cases lo with
     | none => simp only [aBounds,Option.some.injEq,Prod.mk.injEq] at hbd; exact hbd.2.2.symm
     | some x => simp only [aBounds,Option.map_eq_some_iff,Prod.mk.injEq] at hbd; obtain ⟨_,_,_,_,h3⟩ := hbd; exact h3.symm
   | some u => cases lo with
     | none => simp only [aBounds,Option.bind_eq_some_iff,Option.some.injEq,Prod.mk.injEq] at hbd; obtain ⟨_,_,_,_,h3⟩ := hbd; exact h3.symm
     | some x => simp only [aBounds,Option.bind_eq_some_iff,Option.map_eq_some_iff,Prod.mk.injEq] at hbd; obtain ⟨_,_,_,_,_,_,h3⟩ := hbd; exact h3.symm
 subst hm
 refine ⟨?_,by rw [sc_slice]; show decide (((base a).add (l * s)).block < H.length) = true; rw [block_add]; exact hs'⟩
 have e1 : (if ρ.κ a.block - k = l then some (ρ.addr a) else (some (ρ.addr a)).map fun x => x.add (l * s)) = some ((ρ.addr a).add (l * s)) := by
   rw [if_neg (by omega)]; rfl
 have e2 : ρ.κ a.block - k - l = ρ.κ a.block - (k + l) := by omega
 have e3 : ren ρ (.slice (some (withSpot ((base a).add (l * s)) (k + l))) (h' - l) 0) = .slice (some ((ρ.addr a).add (l * s))) (h' - l) (ρ.κ a.block - (k + l)) := by
   rw [ren_slice_some (k := k + l) rfl]
   show Value.slice (some (ρ.addr ((base a).add (l * s)))) _ (ρ.κ ((base a).add (l * s)).block - _) = _
   rw [block_add,← addr_add,addr_base]; rfl
 simp only [Option.map_none] at k1
 simp only [Instr.sliceAt,Instr.slice,Sem.run_bind,run_underlying hu,Result.andThen_ok,ren_slice_some hsp,Option.map_none,k1,run_sizeOf hz,Option.getD_none,Sem.run_pure,e3]
 rw [e1,e2]
def aSlice (P : Program) (H : Heap) (t : TypeId) (x : Value) (lo hi mx : Option Value) : Option Value :=
 match aSlice0 P H t x lo hi mx with
 | some v => some v
 | none => aBehind P H t x lo hi mx
theorem aSlice_of0 {t : TypeId} {x v : Value} {lo hi mx : Option Value} (h : aSlice0 P H t x lo hi mx = some v) : aSlice P H t x lo hi mx = some v := by
 unfold aSlice
 rw [h]
theorem aSlice_sound (R : Rel ρ H w) {t : TypeId} {x v : Value} {lo hi mx : Option Value} (h : aSlice P H t x lo hi mx = some v) (hs : sc H.length x = true) :
   (Instr.sliceAt t (ren ρ x) (lo.map (ren ρ)) (hi.map (ren ρ)) (mx.map (ren ρ))).run P w = .ok (ren ρ v) w∧sc H.length v = true := by
 unfold aSlice at h
 split at h
 · rename_i h0
   cases h
   exact aSlice0_sound R h0 hs
 · exact aBehind_sound R h hs
end Go.Pier
