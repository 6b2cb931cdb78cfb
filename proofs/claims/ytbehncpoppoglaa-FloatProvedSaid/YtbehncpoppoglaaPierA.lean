import Derived.Orders
import Derived.Scope
import Derived.Laws.World
import Derived.Laws.Cells
set_option linter.unusedSimpArgs false
set_option linter.unusedVariables false
namespace Go.Pier
open Go
structure Ren where
 φ : Nat→Nat
 δ : Nat→Nat
 κ : Nat→Nat
def Ren.addr (ρ : Ren) (a : Addr) : Addr := ⟨ρ.φ a.block,ρ.δ a.block + a.off,none⟩
def Ren.cap (ρ : Ren) (a : Addr) (c : Nat) : Nat := match a.spot,c with | none,c => c | some k,0 => ρ.κ a.block - k | some _,_ + 1 => 0
def Ren.adr (ρ : Ren) (a : Addr) (c : Nat) : Addr := match a.spot,c with | some _,_ + 1 => ⟨ρ.φ a.block,ρ.δ a.block + a.off,some (ρ.κ a.block)⟩ | _,_ => ρ.addr a
def std (a : Addr) (c : Nat) : Bool := match a.spot,c with | some _,_ + 1 => false | _,_ => true
theorem adr_std {ρ : Ren} {a : Addr} {c : Nat} (h : std a c = true) : ρ.adr a c = ρ.addr a := by
 unfold std at h
 unfold Ren.adr
 cases hs : a.spot with
 | none => rfl
 | some k => cases c with
   | zero => rfl
   | succ c => rw [hs] at h; cases h
theorem std_none {a : Addr} {c : Nat} (h : a.spot = none) : std a c = true := by simp [std,h]
def ren0 (ρ : Ren) : Value→Value
 | .pointer (some a) => .pointer (some (ρ.addr a))
 | .slice (some a) n c => .slice (some (ρ.adr a c)) n (ρ.cap a c)
 | .map (some r) => .map (some (ρ.φ r))
 | v => v
def renFn (ρ : Ren) : Fn→Fn
 | .yield l => .yield (ρ.φ l)
 | f => f
@[simp] theorem renFn_func (ρ : Ren) (g : FuncId) : renFn ρ (.func g) = .func g := rfl
@[simp] theorem renFn_yield (ρ : Ren) (l : Nat) : renFn ρ (.yield l) = .yield (ρ.φ l) := rfl
def renA (ρ : Ren) : Value→Value
 | .agg cs => .agg (cs.map (ren0 ρ))
 | v => ren0 ρ v
def ren1 (ρ : Ren) : Value→Value
 | .func f a b => .func (renFn ρ f) (a.map (renA ρ)) (b.map (ren0 ρ))
 | v => ren0 ρ v
def ren2 (ρ : Ren) : Value→Value
 | .agg cs => .agg (cs.map (ren1 ρ))
 | v => ren1 ρ v
def ren (ρ : Ren) : Value→Value
 | .tuple vs => .tuple (vs.map (ren2 ρ))
 | v => ren2 ρ v
def sc0 (n : Nat) : Value→Bool
 | .pointer (some a) => decide (a.block < n) && a.spot.isNone
 | .slice (some a) _ _ => decide (a.block < n)
 | .map (some r) => decide (r < n)
 | .bool _ | .int _ _ | .string _ | .pointer none | .slice none _ _ | .map none | .nilFunc | .nilIface | .float _ _ => true
 | _ => false
def aggAll (n : Nat) : Value→Bool
 | .agg cs => cs.all (sc0 n)
 | _ => false
def scA (n : Nat) (v : Value) : Bool := sc0 n v || aggAll n v
theorem renA_of_sc0 {ρ : Ren} {n : Nat} {v : Value} (h : sc0 n v = true) : renA ρ v = ren0 ρ v := by
 cases v <;> first | rfl | (simp [sc0] at h)
def sc1 (n : Nat) : Value→Bool
 | .func (.func _) a b => a.all (scA n) && b.all (sc0 n)
 | .func (.yield l) a b => decide (l < n) && (a.all (sc0 n) && b.all (sc0 n))
 | v => sc0 n v
def sc2 (n : Nat) : Value→Bool
 | .agg cs => cs.all (sc1 n)
 | v => sc1 n v
def sc (n : Nat) : Value→Bool
 | .tuple vs => vs.all (sc2 n)
 | v => sc2 n v
def Agree (n : Nat) (ρ ρ' : Ren) : Prop := ∀ b,b < n→ρ'.φ b = ρ.φ b∧ρ'.δ b = ρ.δ b∧ρ'.κ b = ρ.κ b
theorem Agree.refl (n : Nat) (ρ : Ren) : Agree n ρ ρ := fun _ _ => ⟨rfl,rfl,rfl⟩
theorem Agree.trans {n m : Nat} {a b c : Ren} (h : Agree n a b) (k : Agree m b c) (hm : n≤m) : Agree n a c := fun i hi =>
 ⟨(k i (Nat.lt_of_lt_of_le hi hm)).1.trans (h i hi).1,(k i (Nat.lt_of_lt_of_le hi hm)).2.1.trans (h i hi).2.1,(k i (Nat.lt_of_lt_of_le hi hm)).2.2.trans (h i hi).2.2⟩
theorem Agree.mono {n m : Nat} {a b : Ren} (h : Agree m a b) (hm : n≤m) : Agree n a b := fun i hi => h i (Nat.lt_of_lt_of_le hi hm)
theorem ren0_agree {n : Nat} {ρ ρ' : Ren} (h : Agree n ρ ρ') {v : Value} (hv : sc0 n v = true) : ren0 ρ' v = ren0 ρ v := by
 unfold sc0 at hv
 split at hv <;> simp_all [ren0]
 · have := h _ hv.1; simp [Ren.addr,this]
 · have := h _ hv; simp [Ren.adr,Ren.addr,Ren.cap,this]
 · have := h _ hv; simp [this]
theorem map_congr_all {f g : Value→Value} {p : Value→Bool} (hp : ∀ v,p v = true→f v = g v) (a : Array Value) (h : a.all p = true) : a.map f = a.map g := by
 apply Array.map_congr_left
 intro v hv
 exact hp v (by simpa using Array.all_eq_true'.1 h v hv)
theorem renA_agree {n : Nat} {ρ ρ' : Ren} (h : Agree n ρ ρ') {v : Value} (hv : scA n v = true) : renA ρ' v = renA ρ v := by
 simp only [scA,Bool.or_eq_true] at hv
 rcases hv with hv | hv
 · rw [renA_of_sc0 hv,renA_of_sc0 hv,ren0_agree h hv]
 · cases v <;> simp only [aggAll,Bool.false_eq_true] at hv
   simp only [renA]
   rw [map_congr_all (fun v hv => ren0_agree h hv) _ hv]
theorem scA_of_sc0 {n : Nat} {v : Value} (h : sc0 n v = true) : scA n v = true := by simp [scA,h]
theorem ren1_agree {n : Nat} {ρ ρ' : Ren} (h : Agree n ρ ρ') {v : Value} (hv : sc1 n v = true) : ren1 ρ' v = ren1 ρ v := by
 unfold sc1 at hv
 split at hv
 · simp only [Bool.and_eq_true] at hv
   simp only [ren1,renFn_func]
   rw [map_congr_all (fun v hv => renA_agree h hv) _ hv.1,map_congr_all (fun v hv => ren0_agree h hv) _ hv.2]
 · simp only [Bool.and_eq_true,decide_eq_true_eq] at hv
   simp only [ren1,renFn_yield]
   rw [map_congr_all (fun v hv => renA_agree h (scA_of_sc0 hv)) _ hv.2.1,map_congr_all (fun v hv => ren0_agree h hv) _ hv.2.2,(h _ hv.1).1]
 · rename_i h1
   have := ren0_agree h hv
   cases v <;> first | exact this | (simp [sc0] at hv)
theorem ren2_agree {n : Nat} {ρ ρ' : Ren} (h : Agree n ρ ρ') {v : Value} (hv : sc2 n v = true) : ren2 ρ' v = ren2 ρ v := by
 unfold sc2 at hv
 split at hv
 · simp only [ren2]
   rw [map_congr_all (fun v hv => ren1_agree h hv) _ hv]
 · have := ren1_agree h hv
   cases v <;> first | exact this | (rename_i _ h1; exact absurd rfl (h1 _))
theorem ren_agree {n : Nat} {ρ ρ' : Ren} (h : Agree n ρ ρ') {v : Value} (hv : sc n v = true) : ren ρ' v = ren ρ v := by
 unfold sc at hv
 split at hv
 · simp only [ren]
   rw [map_congr_all (fun v hv => ren2_agree h hv) _ hv]
 · have := ren2_agree h hv
   cases v <;> first | exact this | (rename_i _ h1; exact absurd rfl (h1 _))
theorem sc0_mono {n m : Nat} (hm : n≤m) {v : Value} (hv : sc0 n v = true) : sc0 m v = true := by
 unfold sc0 at hv
 split at hv <;> simp_all [sc0] <;> omega
theorem all_mono {p q : Value→Bool} (h : ∀ v,p v = true→q v = true) (a : Array Value) (ha : a.all p = true) : a.all q = true :=
 Array.all_eq_true'.2 fun v hv => h v (by simpa using Array.all_eq_true'.1 ha v hv)
theorem scA_mono {n m : Nat} (hm : n≤m) {v : Value} (hv : scA n v = true) : scA m v = true := by
 simp only [scA,Bool.or_eq_true] at hv ⊢
 refine hv.imp (sc0_mono hm) fun hv => ?_
 cases v <;> simp only [aggAll,Bool.false_eq_true] at hv
 exact all_mono (fun _ => sc0_mono hm) _ hv
theorem sc1_mono {n m : Nat} (hm : n≤m) {v : Value} (hv : sc1 n v = true) : sc1 m v = true := by
 unfold sc1 at hv
 split at hv
 · simp only [Bool.and_eq_true] at hv
   simp only [sc1,Bool.and_eq_true]
   exact ⟨all_mono (fun _ => scA_mono hm) _ hv.1,all_mono (fun _ => sc0_mono hm) _ hv.2⟩
 · simp only [Bool.and_eq_true,decide_eq_true_eq] at hv
   simp only [sc1,Bool.and_eq_true,decide_eq_true_eq]
   exact ⟨by omega,all_mono (fun _ => sc0_mono hm) _ hv.2.1,all_mono (fun _ => sc0_mono hm) _ hv.2.2⟩
 · have := sc0_mono hm hv
   cases v <;> first | exact this | (simp [sc0] at hv)
theorem sc2_mono {n m : Nat} (hm : n≤m) {v : Value} (hv : sc2 n v = true) : sc2 m v = true := by
 unfold sc2 at hv
 split at hv
 · exact all_mono (fun _ => sc1_mono hm) _ hv
 · have := sc1_mono hm hv
   cases v <;> first | exact this | (rename_i _ h1; exact absurd rfl (h1 _))
theorem sc_mono {n m : Nat} (hm : n≤m) {v : Value} (hv : sc n v = true) : sc m v = true := by
 unfold sc at hv
 split at hv
 · exact all_mono (fun _ => sc2_mono hm) _ hv
 · have := sc2_mono hm hv
   cases v <;> first | exact this | (rename_i _ h1; exact absurd rfl (h1 _))
theorem sc_of_sc2 {n : Nat} {v : Value} (h : sc2 n v = true) : sc n v = true := by
 cases v <;> first | exact h | (simp [sc2,sc1,sc0] at h)
theorem sc2_of_sc1 {n : Nat} {v : Value} (h : sc1 n v = true) : sc2 n v = true := by
 cases v <;> first | exact h | (simp [sc1,sc0] at h)
theorem sc1_of_sc0 {n : Nat} {v : Value} (h : sc0 n v = true) : sc1 n v = true := by
 cases v <;> first | exact h | (simp [sc0] at h)
theorem ren_of_sc2 {n : Nat} {ρ : Ren} {v : Value} (h : sc2 n v = true) : ren ρ v = ren2 ρ v := by
 cases v <;> first | rfl | (simp [sc2,sc1,sc0] at h)
theorem ren2_of_sc1 {n : Nat} {ρ : Ren} {v : Value} (h : sc1 n v = true) : ren2 ρ v = ren1 ρ v := by
 cases v <;> first | rfl | (simp [sc1,sc0] at h)
theorem ren1_of_sc0 {n : Nat} {ρ : Ren} {v : Value} (h : sc0 n v = true) : ren1 ρ v = ren0 ρ v := by
 cases v <;> first | rfl | (simp [sc0] at h)
theorem ren0_closed {ρ : Ren} {v : Value} (h : sc0 0 v = true) : ren0 ρ v = v := by
 unfold sc0 at h
 split at h <;> simp_all [ren0]
theorem map_id_all {f : Value→Value} {p : Value→Bool} (hp : ∀ v,p v = true→f v = v) (a : Array Value) (h : a.all p = true) : a.map f = a := by
 have : a.map f = a.map id := Array.map_congr_left fun v hv => hp v (by simpa using Array.all_eq_true'.1 h v hv)
 rw [this]; simp
theorem renA_closed {ρ : Ren} {v : Value} (h : scA 0 v = true) : renA ρ v = v := by
 simp only [scA,Bool.or_eq_true] at h
 rcases h with h | h
 · rw [renA_of_sc0 h,ren0_closed h]
 · cases v <;> simp only [aggAll,Bool.false_eq_true] at h
   simp only [renA]
   rw [map_id_all (fun _ => ren0_closed) _ h]
theorem ren1_closed {ρ : Ren} {v : Value} (h : sc1 0 v = true) : ren1 ρ v = v := by
 unfold sc1 at h
 split at h
 · simp only [Bool.and_eq_true] at h
   simp only [ren1,renFn_func]
   rw [map_id_all (fun _ => renA_closed) _ h.1,map_id_all (fun _ => ren0_closed) _ h.2]
 · simp at h
 · have := ren0_closed (ρ := ρ) h
   cases v <;> first | exact this | (simp [sc0] at h)
theorem ren2_closed {ρ : Ren} {v : Value} (h : sc2 0 v = true) : ren2 ρ v = v := by
 unfold sc2 at h
 split at h
 · simp only [ren2]; rw [map_id_all (fun _ => ren1_closed) _ h]
 · have := ren1_closed (ρ := ρ) h
   cases v <;> first | exact this | (rename_i _ h1; exact absurd rfl (h1 _))
theorem ren_closed {ρ : Ren} {v : Value} (h : sc 0 v = true) : ren ρ v = v := by
 unfold sc at h
 split at h
 · simp only [ren]; rw [map_id_all (fun _ => ren2_closed) _ h]
 · have := ren2_closed (ρ := ρ) h
   cases v <;> first | exact this | (rename_i _ h1; exact absurd rfl (h1 _))
inductive MCell where
 | val (v : Value)
 | row (r : List Value) (n c : Nat)
 | spot
 | null
 | void (c : Nat)
 deriving Inhabited
inductive AObj where
 | gone
 | mix (cs : List MCell)
 | ro (cs : List Value)
 | rw (cs : List Value) (room : Option Nat)
 | map (es : List MapEntry) (clock : Nat)
 | iter (m since : Nat) (seen : Array Nat) (stepped : Nat)
 | loop (st : LoopState) (pend : Option Code) (t : Array Value) (ps : Array Tmp) (assign body : Code)
 deriving Inhabited
abbrev Heap := List AObj
def junk : Value := .tuple #[.agg #[]]
def isJunk : Value→Bool
 | .tuple vs => Nat.beq vs.size 1
 | _ => false
def TmOk (ρ : Ren) (t tm : Array Value) : Prop := tm.size = t.size∧∀ (k : Nat) (v : Value),t[k]? = some v→isJunk v = false→tm[k]? = some (ren ρ v)
theorem TmOk.map (ρ : Ren) (t : Array Value) : TmOk ρ t (t.map (ren ρ)) := ⟨by simp,fun k v hk _ => by rw [Array.getElem?_map,hk]; rfl⟩
theorem TmOk.eq {ρ : Ren} {t tm : Array Value} (h : TmOk ρ t tm) (hj : t.toList.all (fun v => !isJunk v) = true) : tm = t.map (ren ρ) := by
 apply Array.ext_getElem?
 intro k
 rw [Array.getElem?_map]
 cases hk : t[k]? with
 | none => rw [Array.getElem?_eq_none (by rw [h.1]; exact Array.getElem?_eq_none_iff.1 hk)]; rfl
 | some v => exact h.2 k v hk (by simpa using List.all_eq_true.1 hj v (Array.mem_def.1 (Array.mem_of_getElem? hk)))
theorem TmOk.move {ρ ρ' : Ren} {t tm : Array Value} (h : TmOk ρ t tm) (he : ∀ (k : Nat) (v : Value),t[k]? = some v→ren ρ' v = ren ρ v) : TmOk ρ' t tm :=
 ⟨h.1,fun k v hk hj => by rw [he k v hk]; exact h.2 k v hk hj⟩
def renE (ρ : Ren) (e : MapEntry) : MapEntry := { key := e.key,val := ren2 ρ e.val,born := e.born }
def AObj.sc (n : Nat) : AObj→Bool
 | .gone => true
 | .mix _ => true
 | .ro cs => cs.all (sc1 n)
 | .rw cs _ => cs.all (sc1 n)
 | .map es _ => es.all fun e => sc2 0 e.key && sc2 n e.val
 | .iter m _ _ _ => decide (m < n)
 | .loop _ _ t _ _ _ => t.all (Pier.sc n)
def MOk (B : Nat) (w : World) (a : Addr) : MCell→Prop
 | .val v => w.cell? a = some v∧sc1 0 v = true
 | .row r n c => ∃ q o,q < B∧w.cell? a = some (.slice (some ⟨q,o,none⟩) n c)∧∀ (j : Nat) (v : Value),r[j]? = some v→w.cell? ⟨q,o + j,none⟩ = some v∧sc1 0 v = true
 | .spot => ∃ q o k,w.cell? a = some (.slice (some ⟨q,o,some k⟩) 0 0)
 | .null => w.cell? a = some (.slice none 0 0)
 | .void c => ∃ q o,w.cell? a = some (.slice (some ⟨q,o,none⟩) 0 c)
def ObjOk (ρ : Ren) (b : Nat) (w : World) : AObj→Prop
 | .gone => True
 | .mix cs => ρ.φ b < ρ.κ b∧ρ.κ b≤w.heap.size∧∀ (i : Nat) (c : MCell),cs[i]? = some c→MOk (ρ.κ b) w ⟨ρ.φ b,ρ.δ b + i,none⟩ c
 | .ro cs => ρ.φ b < w.heap.size∧∀ (i : Nat) (v : Value),cs[i]? = some v→w.cell? ⟨ρ.φ b,ρ.δ b + i,none⟩ = some (ren1 ρ v)
 | .rw (cs : List Value) room => (room = none → ρ.δ b = 0) ∧ ∃ (cs' : Array Value) (t : TypeId), w.heap[ρ.φ b]? = some (.cells cs' t (0, 0)) ∧
     (∀ (i : Nat) (v : Value),cs[i]? = some v→cs'[ρ.δ b + i]? = some (ren1 ρ v)) ∧
     match room with | none => cs'.size = cs.length | some s => ρ.δ b + ρ.κ b * s≤cs'.size∧cs.length≤ρ.κ b * s
 | .map es clock => w.heap[ρ.φ b]? = some (.map (es.map (renE ρ)).toArray clock)
 | .iter m since seen st => ρ.δ b = 0∧w.heap[ρ.φ b]? = some (.mapIter (some (ρ.φ m)) since seen st)
 | .loop st pend t ps assign body => ∃ fn df tm,w.heap[ρ.φ b]? = some (.loop { state := st,pending := pend,fn := fn,tmps := tm,params := ps,assign := assign,body := body,defers := df })∧TmOk ρ t tm
def wr (H : Heap) (b : Nat) : Bool := match H[b]? with | some (.rw ..) | some (.map ..) | some (.iter ..) | some (.loop ..) => true | _ => false
def isRo (H : Heap) (b : Nat) : Bool := match H[b]? with | some (.ro ..) => true | _ => false
def isMix (H : Heap) (b : Nat) : Bool := match H[b]? with | some (.mix ..) => true | _ => false
structure Rel (ρ : Ren) (H : Heap) (w : World) : Prop where
 obj : ∀ (b : Nat) (o : AObj),H[b]? = some o→ObjOk ρ b w o
 inj : ∀ b b',wr H b = true→wr H b' = true→ρ.φ b = ρ.φ b'→b = b'
 sep : ∀ b b',isRo H b = true→wr H b' = true→ρ.φ b ≠ ρ.φ b'
 deep : ∀ b b',isMix H b = true→wr H b' = true→ρ.κ b≤ρ.φ b'
 scp : ∀ (b : Nat) (o : AObj),H[b]? = some o→o.sc H.length = true
structure Ext (ρ : Ren) (H : Heap) (w : World) (ρ' : Ren) (H' : Heap) (w' : World) : Prop where
 len : H.length≤H'.length
 agree : ∀ b,b < H.length∨H'.length≤b→ρ'.φ b = ρ.φ b∧ρ'.δ b = ρ.δ b∧ρ'.κ b = ρ.κ b
 size : w.heap.size≤w'.heap.size
 keep : ∀ k,k < w.heap.size→(∀ b,wr H b = true→ρ.φ b ≠ k)→w'.heap[k]? = w.heap[k]?
 wr : ∀ b,wr H' b = true→wr H b = true∨(H.length≤b∧(w.heap.size≤ρ'.φ b∨∃ b0,wr H b0 = true∧ρ'.φ b = ρ.φ b0))
 ro : ∀ b,isRo H' b = true→isRo H b = true∨(H.length≤b∧∃ b0,isMix H b0 = true∧ρ'.φ b < ρ.κ b0)
 mix : ∀ b,isMix H' b = true→isMix H b = true
 os : w'.os = w.os
 tape : w'.tape = w.tape
 output : w'.output = w.output
theorem wr_lt {H : Heap} {b : Nat} (h : wr H b = true) : b < H.length := by
 unfold wr at h
 split at h <;> first | exact (List.getElem?_eq_some_iff.1 ‹_›).1 | cases h
theorem isRo_lt {H : Heap} {b : Nat} (h : isRo H b = true) : b < H.length := by
 unfold isRo at h
 split at h <;> first | exact (List.getElem?_eq_some_iff.1 ‹_›).1 | cases h
theorem isMix_lt {H : Heap} {b : Nat} (h : isMix H b = true) : b < H.length := by
 unfold isMix at h
 split at h <;> first | exact (List.getElem?_eq_some_iff.1 ‹_›).1 | cases h
theorem Ext.agreeN {ρ ρ' : Ren} {H H' : Heap} {w w' : World} (h : Ext ρ H w ρ' H' w') : Agree H.length ρ ρ' := fun b hb => h.agree b (.inl hb)
theorem Ext.refl (ρ : Ren) (H : Heap) (w : World) : Ext ρ H w ρ H w :=
 ⟨Nat.le_refl _,fun _ _ => ⟨rfl,rfl,rfl⟩,Nat.le_refl _,fun _ _ _ => rfl,fun _ h => .inl h,fun _ h => .inl h,fun _ h => h,rfl,rfl,rfl⟩
theorem Ext.trans {ρ ρ1 ρ2 : Ren} {H H1 H2 : Heap} {w w1 w2 : World} (h : Ext ρ H w ρ1 H1 w1) (k : Ext ρ1 H1 w1 ρ2 H2 w2) : Ext ρ H w ρ2 H2 w2 where
 len := Nat.le_trans h.len k.len
 agree b hb := by
   have h1 := h.agree b (by have := k.len; omega)
   have h2 := k.agree b (by have := h.len; omega)
   exact ⟨h2.1.trans h1.1,h2.2.1.trans h1.2.1,h2.2.2.trans h1.2.2⟩
 size := Nat.le_trans h.size k.size
 keep i hi hn := by
   rw [k.keep i (Nat.lt_of_lt_of_le hi h.size) ?_,h.keep i hi hn]
   intro b hb he
   rcases h.wr b hb with h1 | ⟨_,h1 | ⟨b0,h1,h2⟩⟩
   · exact hn b h1 (by rw [← (h.agree b (.inl (wr_lt h1))).1]; exact he)
   · omega
   · exact hn b0 h1 (by omega)
 wr b hb := by
   rcases k.wr b hb with h1 | ⟨hl,h1 | ⟨b0,h1,h2⟩⟩
   · rcases h.wr b h1 with h3 | ⟨h4,h3 | ⟨b1,h5,h6⟩⟩
     · exact .inl h3
     · exact .inr ⟨h4,.inl (by rw [(k.agree b (.inl (wr_lt h1))).1]; exact h3)⟩
     · exact .inr ⟨h4,.inr ⟨b1,h5,by rw [(k.agree b (.inl (wr_lt h1))).1]; exact h6⟩⟩
   · exact .inr ⟨Nat.le_trans h.len hl,.inl (Nat.le_trans h.size h1)⟩
   · refine .inr ⟨Nat.le_trans h.len hl,?_⟩
     rcases h.wr b0 h1 with h3 | ⟨_,h3 | ⟨b1,h5,h6⟩⟩
     · exact .inr ⟨b0,h3,by rw [h2,(h.agree b0 (.inl (wr_lt h3))).1]⟩
     · exact .inl (by rw [h2]; exact h3)
     · exact .inr ⟨b1,h5,h2.trans h6⟩
 ro b hb := by
   rcases k.ro b hb with h1 | ⟨h1,b0,h2,h3⟩
   · rcases h.ro b h1 with h4 | ⟨h4,b1,h5,h6⟩
     · exact .inl h4
     · exact .inr ⟨h4,b1,h5,by rw [(k.agree b (.inl (isRo_lt h1))).1]; exact h6⟩
   · have h4 := h.mix b0 h2
     exact .inr ⟨Nat.le_trans h.len h1,b0,h4,by rw [← (h.agree b0 (.inl (isMix_lt h4))).2.2]; exact h3⟩
 mix b hb := h.mix b (k.mix b hb)
 os := k.os.trans h.os
 tape := k.tape.trans h.tape
 output := k.output.trans h.output
theorem Rel.drew {ρ : Ren} {H : Heap} {w : World} (h : Rel ρ H w) : Rel ρ H w.drew := by
 refine ⟨fun b o hb => ?_,h.inj,h.sep,h.deep,h.scp⟩
 have := h.obj b o hb
 cases o <;> exact this
theorem Ext.drew {ρ : Ren} {H : Heap} {w : World} : Ext ρ H w ρ H w.drew :=
 ⟨Nat.le_refl _,fun _ _ => ⟨rfl,rfl,rfl⟩,Nat.le_refl _,fun _ _ _ => rfl,fun _ h => .inl h,fun _ h => .inl h,fun _ h => h,rfl,rfl,rfl⟩
theorem AObj.sc_mono {n m : Nat} (hm : n≤m) {o : AObj} (h : o.sc n = true) : o.sc m = true := by
 cases o with
 | gone => rfl
 | mix cs => rfl
 | ro cs => exact List.all_eq_true.2 fun v hv => sc1_mono hm (List.all_eq_true.1 h v hv)
 | rw cs r => exact List.all_eq_true.2 fun v hv => sc1_mono hm (List.all_eq_true.1 h v hv)
 | map es c =>
   refine List.all_eq_true.2 fun e he => ?_
   have := List.all_eq_true.1 h e he
   simp only [Bool.and_eq_true] at this ⊢
   exact ⟨this.1,sc2_mono hm this.2⟩
 | iter m a b c => simp only [AObj.sc,decide_eq_true_eq] at h ⊢; omega
 | loop a b t c d e => exact all_mono (fun _ => Pier.sc_mono hm) t h
theorem cells_sc {n : Nat} {cs : List Value} (h : cs.all (sc1 n) = true) {i : Nat} {v : Value} (hi : cs[i]? = some v) : sc1 n v = true :=
 List.all_eq_true.1 h v (List.mem_of_getElem? hi)
theorem MOk.move {B B' : Nat} {w w' : World} {a : Addr} {c : MCell} (h : MOk B w a c) (hB : B≤B') (hw : ∀ k o v,k < B→w.cell? ⟨k,o,none⟩ = some v→w'.cell? ⟨k,o,none⟩ = some v) (ha : a.block < B) (hs : a.spot = none) : MOk B' w' a c := by
 obtain ⟨b,o,s⟩ := a
 simp only at ha hs
 subst hs
 cases c with
 | val v => exact ⟨hw b o _ ha h.1,h.2⟩
 | row r n c =>
   obtain ⟨q,o',h1,h2,h3⟩ := h
   exact ⟨q,o',by omega,hw b o _ ha h2,fun j v hj => ⟨hw q _ _ h1 (h3 j v hj).1,(h3 j v hj).2⟩⟩
 | spot =>
   obtain ⟨q,o',k,h⟩ := h
   exact ⟨q,o',k,hw b o _ ha h⟩
 | null => exact hw b o _ ha h
 | void c =>
   obtain ⟨q,o',h⟩ := h
   exact ⟨q,o',hw b o _ ha h⟩
def Below' (ρ : Ren) (b : Nat) (w w' : World) : AObj→Prop
 | .mix _ => w.heap.size≤w'.heap.size∧∀ k o v,k < ρ.κ b→w.cell? ⟨k,o,none⟩ = some v→w'.cell? ⟨k,o,none⟩ = some v
 | _ => True
theorem Below'.refl (ρ : Ren) (b : Nat) (w : World) (o : AObj) : Below' ρ b w w o := by
 cases o with
 | mix cs => exact ⟨Nat.le_refl _,fun _ _ _ _ h => h⟩
 | _ => trivial
theorem Below'.of {ρ : Ren} {b : Nat} {w w' : World} {o : AObj} (hs : w.heap.size≤w'.heap.size) (h : ∀ cs,o = .mix cs→∀ k,k < ρ.κ b→w'.heap[k]? = w.heap[k]?) : Below' ρ b w w' o := by
 cases o with
 | mix cs => exact ⟨hs,fun k o v hk hv => by simp only [World.cell?,h cs rfl k hk] at hv ⊢; exact hv⟩
 | _ => trivial
theorem ObjOk.move {n : Nat} {ρ ρ' : Ren} {b : Nat} {w w' : World} {o : AObj} (ha : Agree n ρ ρ') (hb : b < n) (hs : o.sc n = true)
   (hw : o = .gone∨w'.heap[ρ.φ b]? = w.heap[ρ.φ b]?) (hm : Below' ρ b w w' o) (h : ObjOk ρ b w o) : ObjOk ρ' b w' o := by
 obtain ⟨e1,e2,e3⟩ := ha b hb
 cases o with
 | gone => trivial
 | mix cs =>
   obtain ⟨h1,h2,h3⟩ := h
   exact ⟨by rw [e1,e3]; exact h1,by rw [e3]; exact Nat.le_trans h2 hm.1,fun i c hi => by
     rw [e1,e2,e3]
     exact (h3 i c hi).move (Nat.le_refl _) hm.2 h1 rfl⟩
 | ro cs =>
   have hw : w'.heap[ρ.φ b]? = w.heap[ρ.φ b]? := by simpa using hw
   refine ⟨?_,fun i v hi => ?_⟩
   · rw [e1]
     rw [Array.getElem?_eq_getElem h.1] at hw
     exact (Array.getElem?_eq_some_iff.1 hw).1
   · rw [e1,e2,ren1_agree ha (cells_sc hs hi),← h.2 i v hi]
     simp only [World.cell?,hw]
 | rw cs room =>
   have hw : w'.heap[ρ.φ b]? = w.heap[ρ.φ b]? := by simpa using hw
   obtain ⟨h0,cs',t,h1,h2,h3⟩ := h
   refine ⟨fun e => e2.trans (h0 e),cs',t,by rw [e1,hw]; exact h1,fun i v hi => ?_,?_⟩
   · rw [ren1_agree ha (cells_sc hs hi),e2]; exact h2 i v hi
   · cases room
     · exact h3
     · simp only [e2,e3]; exact h3
 | map es clock =>
   have hw : w'.heap[ρ.φ b]? = w.heap[ρ.φ b]? := by simpa using hw
   show w'.heap[ρ'.φ b]? = _
   rw [e1,hw,show w.heap[ρ.φ b]? = _ from h]
   congr 3
   apply List.map_congr_left
   intro e he
   have := List.all_eq_true.1 hs e he
   simp only [Bool.and_eq_true] at this
   simp only [renE]
   rw [ren2_agree ha this.2]
 | iter m since seen st =>
   have hw : w'.heap[ρ.φ b]? = w.heap[ρ.φ b]? := by simpa using hw
   simp only [AObj.sc,decide_eq_true_eq] at hs
   refine ⟨e2.trans h.1,?_⟩
   rw [e1,hw,(ha m hs).1]
   exact h.2
 | loop st pend t ps assign body =>
   have hw : w'.heap[ρ.φ b]? = w.heap[ρ.φ b]? := by simpa using hw
   obtain ⟨fn,df,tm,h,ht⟩ := h
   exact ⟨fn,df,tm,by rw [e1,hw,h],ht.move fun k v hk => ren_agree ha (Array.all_eq_true'.1 hs v (Array.mem_of_getElem? hk))⟩
end Go.Pier
