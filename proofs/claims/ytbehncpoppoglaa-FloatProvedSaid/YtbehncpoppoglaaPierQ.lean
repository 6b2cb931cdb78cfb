import Derived.Test.YtbehncpoppoglaaPierP
import Derived.IntWalk
set_option linter.unusedSimpArgs false
set_option linter.unusedVariables false
namespace Go.Pier
open Go
variable {P : Program}
inductive Tr where
 | nil
 | nd (l : Tr) (v : Value) (r : Tr)
noncomputable def Tr.get (t : Tr) : Nat→Value :=
 Tr.rec (motive := fun _ => Nat→Value) (fun _ => undef) (fun _ v _ gl gr k => Nat.rec (motive := fun _ => Value) v (fun k _ => bif Nat.beq (Nat.land k 1) 0 then gl (Nat.div k 2) else gr (Nat.div k 2)) k) t
noncomputable def Tr.set (t : Tr) : Nat→Value→Tr :=
 Tr.rec (motive := fun _ => Nat→Value→Tr) (fun _ _ => .nil)
   (fun l v r sl sr k x => Nat.rec (motive := fun _ => Tr) (.nd l x r) (fun k _ => bif Nat.beq (Nat.land k 1) 0 then .nd (sl (Nat.div k 2) x) v r else .nd l v (sr (Nat.div k 2) x)) k) t
theorem Tr.get_zero (l r : Tr) (v : Value) : (Tr.nd l v r).get 0 = v := rfl
theorem beq_odd (j : Nat) : Nat.beq (Nat.land (2 * j) 1) 0 = true := by
 have : Nat.land (2 * j) 1 = 0 := by show (2 * j) &&& 1 = 0; rw [Nat.and_one_is_mod]; omega
 rw [this]; rfl
theorem beq_even (j : Nat) : Nat.beq (Nat.land (2 * j + 1) 1) 0 = false := by
 have : Nat.land (2 * j + 1) 1 = 1 := by show (2 * j + 1) &&& 1 = 1; rw [Nat.and_one_is_mod]; omega
 rw [this]; rfl
theorem div_odd (j : Nat) : Nat.div (2 * j) 2 = j := by show (2 * j) / 2 = j; omega
theorem div_even (j : Nat) : Nat.div (2 * j + 1) 2 = j := by show (2 * j + 1) / 2 = j; omega
theorem Tr.get_odd (l r : Tr) (v : Value) (j : Nat) : (Tr.nd l v r).get (2 * j + 1) = l.get j := by
 show (bif Nat.beq (Nat.land (2 * j) 1) 0 then l.get (Nat.div (2 * j) 2) else r.get (Nat.div (2 * j) 2)) = _
 rw [beq_odd,div_odd]; rfl
theorem Tr.get_even (l r : Tr) (v : Value) (j : Nat) : (Tr.nd l v r).get (2 * j + 2) = r.get j := by
 show (bif Nat.beq (Nat.land (2 * j + 1) 1) 0 then l.get (Nat.div (2 * j + 1) 2) else r.get (Nat.div (2 * j + 1) 2)) = _
 rw [beq_even,div_even]; rfl
theorem Tr.set_odd (l r : Tr) (v x : Value) (j : Nat) : (Tr.nd l v r).set (2 * j + 1) x = .nd (l.set j x) v r := by
 show (bif Nat.beq (Nat.land (2 * j) 1) 0 then Tr.nd (l.set (Nat.div (2 * j) 2) x) v r else .nd l v (r.set (Nat.div (2 * j) 2) x)) = _
 rw [beq_odd,div_odd]; rfl
theorem Tr.set_even (l r : Tr) (v x : Value) (j : Nat) : (Tr.nd l v r).set (2 * j + 2) x = .nd l v (r.set j x) := by
 show (bif Nat.beq (Nat.land (2 * j + 1) 1) 0 then Tr.nd (l.set (Nat.div (2 * j + 1) 2) x) v r else .nd l v (r.set (Nat.div (2 * j + 1) 2) x)) = _
 rw [beq_even,div_even]; rfl
theorem Tr.set_zero (l r : Tr) (v x : Value) : (Tr.nd l v r).set 0 x = .nd l x r := rfl
theorem natCases (k : Nat) : k = 0∨(∃ j,k = 2 * j + 1)∨∃ j,k = 2 * j + 2 := by
 rcases Nat.mod_two_eq_zero_or_one k with h | h
 · rcases Nat.eq_zero_or_pos k with h0 | h0
   · exact .inl h0
   · exact .inr (.inr ⟨k / 2 - 1,by omega⟩)
 · exact .inr (.inl ⟨k / 2,by omega⟩)
def Tr.Full : Tr→Nat→Prop
 | .nil,n => n = 0
 | .nd l _ r,n => 0 < n∧l.Full (n / 2)∧r.Full ((n - 1) / 2)
theorem Tr.set_full : ∀ {T : Tr} {n : Nat},T.Full n→∀ k x,(T.set k x).Full n
 | .nil,_,h,_,_ => h
 | .nd l v r,n,⟨h0,hl,hr⟩,k,x => by
   rcases natCases k with rfl | ⟨j,rfl⟩ | ⟨j,rfl⟩
   · exact ⟨h0,hl,hr⟩
   · rw [Tr.set_odd]; exact ⟨h0,Tr.set_full hl j x,hr⟩
   · rw [Tr.set_even]; exact ⟨h0,hl,Tr.set_full hr j x⟩
theorem Tr.get_set : ∀ {T : Tr} {n : Nat},T.Full n→∀ k x j,(T.set k x).get j = if k = j∧k < n then x else T.get j
 | .nil,n,h,k,x,j => by
   have : n = 0 := h
   subst this
   rw [if_neg (by omega)]; rfl
 | .nd l v r,n,⟨h0,hl,hr⟩,k,x,j => by
   rcases natCases k with rfl | ⟨a,rfl⟩ | ⟨a,rfl⟩ <;> rcases natCases j with rfl | ⟨b,rfl⟩ | ⟨b,rfl⟩
   · rw [Tr.set_zero,Tr.get_zero,if_pos ⟨rfl,h0⟩]
   · rw [Tr.set_zero,Tr.get_odd,Tr.get_odd,if_neg (by omega)]
   · rw [Tr.set_zero,Tr.get_even,Tr.get_even,if_neg (by omega)]
   · rw [Tr.set_odd,Tr.get_zero,Tr.get_zero,if_neg (by omega)]
   · rw [Tr.set_odd,Tr.get_odd,Tr.get_odd,Tr.get_set hl]
     by_cases hh : a = b∧a < n / 2
     · rw [if_pos hh,if_pos (by omega)]
     · rw [if_neg hh,if_neg (by omega)]
   · rw [Tr.set_odd,Tr.get_even,Tr.get_even,if_neg (by omega)]
   · rw [Tr.set_even,Tr.get_zero,Tr.get_zero,if_neg (by omega)]
   · rw [Tr.set_even,Tr.get_odd,Tr.get_odd,if_neg (by omega)]
   · rw [Tr.set_even,Tr.get_even,Tr.get_even,Tr.get_set hr]
     by_cases hh : a = b∧a < (n - 1) / 2
     · rw [if_pos hh,if_pos (by omega)]
     · rw [if_neg hh,if_neg (by omega)]
noncomputable def Tr.mk (f : Nat) : Nat→Tr :=
 Nat.rec (motive := fun _ => Nat→Tr) (fun _ => .nil) (fun _ ih n => Nat.rec (motive := fun _ => Tr) .nil (fun m _ => .nd (ih (Nat.div (m + 1) 2)) undef (ih (Nat.div m 2))) n) f
theorem Tr.mk_full : ∀ (f n : Nat),n≤f→(Tr.mk f n).Full n
 | 0, n, h => by have : n = 0 := by omega
                 subst this; exact rfl
 | f + 1,0,_ => rfl
 | f + 1,m + 1,h => ⟨by omega,Tr.mk_full f _ (by show (m + 1) / 2≤f; omega),Tr.mk_full f _ (by show m / 2≤f; omega)⟩
theorem Tr.mk_get : ∀ (f n k : Nat),(Tr.mk f n).get k = undef
 | 0,n,k => rfl
 | f + 1,0,k => rfl
 | f + 1,m + 1,k => by
   show (Tr.nd (Tr.mk f (Nat.div (m + 1) 2)) undef (Tr.mk f (Nat.div m 2))).get k = undef
   rcases natCases k with rfl | ⟨a,rfl⟩ | ⟨a,rfl⟩
   · rfl
   · rw [Tr.get_odd]; exact Tr.mk_get _ _ _
   · rw [Tr.get_even]; exact Tr.mk_get _ _ _
def FR (T : Tr) (t : Array Value) : Prop := T.Full t.size∧∀ k,T.get k = t.getD k undef
theorem FR.set {T : Tr} {t : Array Value} (h : FR T t) (k : Nat) (x : Value) : FR (T.set k x) (t.setIfInBounds k x) := by
 refine ⟨by rw [Array.size_setIfInBounds]; exact Tr.set_full h.1 k x,fun j => ?_⟩
 rw [Tr.get_set h.1,h.2 j]
 simp only [Array.getD_eq_getD_getElem?,Array.getElem?_setIfInBounds]
 by_cases hk : k = j
 · subst hk
   by_cases hs : k < t.size
   · simp [hs]
   · simp [hs]
 · simp [hk]
noncomputable def Tr.put (T : Tr) (dst : Option Tmp) (v : Value) : Tr := match dst with | some d => T.set d v | none => T
theorem FR.put {T : Tr} {t : Array Value} (h : FR T t) (d : Option Tmp) (v : Value) : FR (T.put d v) (aput t d v) := by
 cases d with
 | none => exact h
 | some d => exact h.set d v
noncomputable def Tr.args (T : Tr) : Nat→List Value→Tr
 | _,[] => T
 | k,v :: r => (T.set k v).args (k + 1) r
theorem FR.args : ∀ (l : List Value) {T : Tr} {t : Array Value} (pre : List Value) (n : Nat),FR T (pre.toArray ++ Array.replicate (l.length + n) undef)→FR (T.args pre.length l) ((pre ++ l).toArray ++ Array.replicate n undef)
 | [],_,_,pre,n,h => by simpa [Tr.args] using h
 | v :: r,T,t,pre,n,h => by
   have h2 := h.set pre.length v
   have e : (pre.toArray ++ Array.replicate ((v :: r).length + n) undef).setIfInBounds pre.length v = (pre ++ [v]).toArray ++ Array.replicate (r.length + n) undef := by
     apply Array.toList_inj.1
     simp only [Array.toList_setIfInBounds,Array.toList_append,Array.toList_replicate,List.length_cons]
     rw [show r.length + 1 + n = (r.length + n) + 1 by omega,List.replicate_succ]
     simp
   rw [e] at h2
   have h3 := FR.args (t := t) r (pre ++ [v]) n h2
   simpa [Tr.args] using h3
theorem FR.start {n : Nat} {args : List Value} (h : args.length≤n) : FR ((Tr.mk n n).args 0 args) (args.toArray ++ Array.replicate (n - args.length) undef) := by
 have h0 : FR (Tr.mk n n) (([] : List Value).toArray ++ Array.replicate (args.length + (n - args.length)) undef) := by
   refine ⟨?_,fun k => ?_⟩
   · rw [show (([] : List Value).toArray ++ Array.replicate (args.length + (n - args.length)) undef).size = n by simp; omega]
     exact Tr.mk_full n n (Nat.le_refl _)
   · rw [Tr.mk_get]
     simp only [Array.getD_eq_getD_getElem?]
     cases hk : (([] : List Value).toArray ++ Array.replicate (args.length + (n - args.length)) undef)[k]? with
     | none => rfl
     | some v =>
       have := Array.mem_of_getElem? hk
       simp at this
       exact this.2.symm
 simpa using FR.args (t := #[]) args [] (n - args.length) h0
noncomputable def Tr.setK {α : Type} (t : Tr) : Nat→Value→(Tr→α)→α :=
 Tr.rec (motive := fun _ => Nat→Value→(Tr→α)→α) (fun _ _ k => k .nil)
   (fun l v r sl sr i x k => Nat.rec (motive := fun _ => α) (k (.nd l x r)) (fun i _ => bif Nat.beq (Nat.land i 1) 0 then sl (Nat.div i 2) x (fun l' => k (.nd l' v r)) else sr (Nat.div i 2) x (fun r' => k (.nd l v r'))) i) t
theorem Tr.setK_eq {α : Type} : ∀ (t : Tr) (i : Nat) (x : Value) (k : Tr→α),t.setK i x k = k (t.set i x)
 | .nil,_,_,_ => rfl
 | .nd _ _ _,0,_,_ => rfl
 | .nd l v r,i + 1,x,k => by
   show (bif Nat.beq (Nat.land i 1) 0 then l.setK (Nat.div i 2) x (fun l' => k (.nd l' v r)) else r.setK (Nat.div i 2) x (fun r' => k (.nd l v r'))) = k (bif Nat.beq (Nat.land i 1) 0 then Tr.nd (l.set (Nat.div i 2) x) v r else .nd l v (r.set (Nat.div i 2) x))
   rw [Tr.setK_eq l,Tr.setK_eq r]
   cases Nat.beq (Nat.land i 1) 0 <;> rfl
noncomputable def Tr.putK {α : Type} (T : Tr) (dst : Option Tmp) (v : Value) (k : Tr→α) : α := match dst with | some d => T.setK d v k | none => k T
theorem Tr.putK_eq {α : Type} (T : Tr) (dst : Option Tmp) (v : Value) (k : Tr→α) : T.putK dst v k = k (T.put dst v) := by
 cases dst with
 | none => rfl
 | some d => exact Tr.setK_eq T d v k
def withNat {α : Type} (a : Nat) (k : Nat→α) : α := Nat.rec (motive := fun _ => α) (k 0) (fun p _ => k (Nat.succ p)) a
theorem withNat_eq {α : Type} (a : Nat) (k : Nat→α) : withNat a k = k a := by cases a <;> rfl
noncomputable def plainL {α β : Type} (f : β→(β→α)→α) (l : List β) : (List β→α)→α :=
 List.rec (motive := fun _ => (List β→α)→α) (fun k => k []) (fun x _ ih k => f x fun x => ih fun r => k (x :: r)) l
theorem plainL_eq {α β : Type} {f : β→(β→α)→α} (hf : ∀ x k,f x k = k x) : ∀ (l : List β) (k : List β→α),plainL f l k = k l
 | [],_ => rfl
 | x :: r,k => by
   show f x (fun x => plainL f r fun r => k (x :: r)) = k (x :: r)
   rw [hf,plainL_eq hf r]
def plain0V {α : Type} (v : Value) (k : Value→α) : α :=
 match v with
 | .int t n => k (.int t n)
 | .bool b => k (.bool b)
 | .pointer (some ⟨b,o,s⟩) => withNat b fun b => withNat o fun o => k (.pointer (some ⟨b,o,s⟩))
 | .slice (some ⟨b,o,s⟩) n c => withNat b fun b => withNat o fun o => withNat n fun n => withNat c fun c => k (.slice (some ⟨b,o,s⟩) n c)
 | .map (some r) => withNat r fun r => k (.map (some r))
 | v => k v
theorem plain0V_eq {α : Type} (v : Value) (k : Value→α) : plain0V v k = k v := by
 unfold plain0V
 split <;> simp only [withNat_eq]
noncomputable def plainV {α : Type} (v : Value) (k : Value→α) : α :=
 match v with
 | .int t n => k (.int t n)
 | .bool b => k (.bool b)
 | .agg cs => plainL plain0V cs.toList fun l => k (.agg ⟨l⟩)
 | v => plain0V v k
theorem plainV_eq {α : Type} (v : Value) (k : Value→α) : plainV v k = k v := by
 unfold plainV
 split
 · rfl
 · rfl
 · rw [plainL_eq plain0V_eq]
 · exact plain0V_eq _ _
noncomputable def plainO {α : Type} (o : AObj) (k : AObj→α) : α :=
 match o with
 | .rw cs r => plainL plainV cs fun cs => k (.rw cs r)
 | o => k o
theorem plainO_eq {α : Type} (o : AObj) (k : AObj→α) : plainO o k = k o := by
 cases o <;> simp only [plainO,plainL_eq plainV_eq]
noncomputable def hasN (l : List Nat) (i : Nat) : Bool := List.rec (motive := fun _ => Bool) false (fun b _ ih => bif Nat.beq i b then true else ih) l
noncomputable def plainZ {α : Type} (l : List Nat) (H1 : Heap) : Heap→Nat→(Heap→α)→α :=
 List.rec (motive := fun _ => Heap→Nat→(Heap→α)→α) (fun _ _ k => k []) (fun x _ ih H i k =>
   List.rec (motive := fun _ => α) (plainO x fun x => ih [] i fun r => k (x :: r)) (fun _ H _ => bif hasN l i then plainO x fun x => ih H (Nat.succ i) fun r => k (x :: r) else ih H (Nat.succ i) fun r => k (x :: r)) H) H1
theorem plainZ_eq {α : Type} (l : List Nat) : ∀ (H1 H : Heap) (i : Nat) (k : Heap→α),plainZ l H1 H i k = k H1
 | [],_,_,_ => rfl
 | x :: H1,[],i,k => by
   show plainO x (fun x => plainZ l H1 [] i fun r => k (x :: r)) = _
   rw [plainO_eq,plainZ_eq l H1]
 | x :: H1,_ :: H,i,k => by
   show (bif hasN l i then plainO x fun x => plainZ l H1 H (Nat.succ i) fun r => k (x :: r) else plainZ l H1 H (Nat.succ i) fun r => k (x :: r)) = _
   cases hasN l i
   · simp only [cond_false]; rw [plainZ_eq l H1]
   · simp only [cond_true]; rw [plainO_eq,plainZ_eq l H1]
noncomputable def lenF (H : Heap) : Nat := List.rec (motive := fun _ => Nat) 0 (fun _ _ n => Nat.succ n) H
theorem lenF_eq : ∀ H : Heap,lenF H = H.length
 | [] => rfl
 | _ :: H => by show Nat.succ (lenF H) = _; rw [lenF_eq H]; rfl
noncomputable def pushK {α : Type} (H : Heap) (o : AObj) : (Heap→α)→α :=
 List.rec (motive := fun _ => (Heap→α)→α) (fun k => k [o]) (fun x _ ih k => ih fun r => k (x :: r)) H
theorem pushK_eq {α : Type} (o : AObj) : ∀ (H : Heap) (k : Heap→α),pushK H o k = k (H ++ [o])
 | [],_ => rfl
 | x :: H,k => by show pushK H o (fun r => k (x :: r)) = _; rw [pushK_eq o H]; rfl
noncomputable def aevalT (T : Tr) : Operand→Option Value
 | .tmp k => some (T.get k)
 | .const v => if sc 0 v = true then some v else none
 | .global _ => none
 | .func f => some (.func (.func f) #[] #[])
theorem FR.aeval {T : Tr} {t : Array Value} (h : FR T t) : aevalT T = Pier.aeval t := by
 funext x
 cases x with
 | tmp k => simp only [aevalT,Pier.aeval,h.2 k]
 | const v => rfl
 | global g => rfl
 | func f => rfl
noncomputable def wantedT (ops : Array Oper) (T : Tr) (o : Oper) : Bool :=
 match o.guard with
 | none => true
 | some (j,want) => match (ops[j]?).bind (·.dst) with
   | some d => match T.get d with
     | .bool b => b == want
     | _ => false
   | none => false
theorem FR.wanted {T : Tr} {t : Array Value} (h : FR T t) (ops : Array Oper) (o : Oper) : wantedT ops T o = Region.wanted o (yielded ops t) := by
 unfold wantedT Region.wanted yielded
 cases o.guard with
 | none => rfl
 | some p =>
   obtain ⟨j,want⟩ := p
   simp only
   cases (ops[j]?).bind (·.dst) with
   | none => rfl
   | some d =>
     simp only [h.2 d,Array.getD_eq_getD_getElem?,Option.bind_some]
     cases hd : t[d]? with
     | none => simp [undef]
     | some v => cases v <;> simp
def ilt : Int→Int→Bool
 | .ofNat a,.ofNat b => Nat.blt a b
 | .negSucc _,.ofNat _ => true
 | .ofNat _,.negSucc _ => false
 | .negSucc a,.negSucc b => Nat.blt b a
def ieq : Int→Int→Bool
 | .ofNat a,.ofNat b => Nat.beq a b
 | .negSucc a,.negSucc b => Nat.beq a b
 | _,_ => false
theorem ilt_eq (a b : Int) : ilt a b = decide (a < b) := by
 cases a <;> cases b <;> simp only [ilt,Int.ofNat_eq_natCast]
 · rename_i a b; rw [Bool.eq_iff_iff]; simp [Nat.blt_eq]
 · rename_i a b; symm; rw [decide_eq_false_iff_not]; omega
 · rename_i a b; symm; rw [decide_eq_true_iff]; omega
 · rename_i a b; rw [Bool.eq_iff_iff]; simp [Nat.blt_eq]; omega
theorem ieq_eq (a b : Int) : ieq a b = (a == b) := by
 cases a <;> cases b <;> simp only [ieq,Int.ofNat_eq_natCast]
 · rename_i a b; rw [Bool.eq_iff_iff]; simp; omega
 · rename_i a b; symm; rw [beq_eq_false_iff_ne]; omega
 · rename_i a b; symm; rw [beq_eq_false_iff_ne]; omega
 · rename_i a b; rw [Bool.eq_iff_iff]; simp
def ckI : Int→Option Value
 | .ofNat a => bif Nat.ble a 9223372036854775807 then withNat a fun a => some (.int .i64 (.ofNat a)) else none
 | .negSucc a => bif Nat.ble a 9223372036854775807 then withNat a fun a => some (.int .i64 (.negSucc a)) else none
theorem ckI_some {n : Int} {v : Value} (h : ckI n = some v) : v = .int .i64 n∧-9223372036854775808≤n∧n≤9223372036854775807 := by
 cases n with
 | ofNat a =>
   simp only [ckI] at h
   cases hb : Nat.ble a 9223372036854775807 with
   | false => rw [hb] at h; cases h
   | true =>
     rw [hb,cond_true,withNat_eq] at h
     cases h
     have := Nat.le_of_ble_eq_true hb
     exact ⟨rfl,by simp only [Int.ofNat_eq_natCast]; omega,by simp only [Int.ofNat_eq_natCast]; omega⟩
 | negSucc a =>
   simp only [ckI] at h
   cases hb : Nat.ble a 9223372036854775807 with
   | false => rw [hb] at h; cases h
   | true =>
     rw [hb,cond_true,withNat_eq] at h
     cases h
     have := Nat.le_of_ble_eq_true hb
     exact ⟨rfl,by omega,by omega⟩
def fastBin (op : BinOp) (a b : Int) : Option Value :=
 match op with
 | .add => ckI (Int.add a b)
 | .sub => ckI (Int.sub a b)
 | .mul => ckI (Int.mul a b)
 | .quo => bif ieq b 0 then none else ckI (Int.tdiv a b)
 | .rem => bif ieq b 0 then none else ckI (Int.tmod a b)
 | .eql => some (.bool (ieq a b))
 | .neq => some (.bool (!ieq a b))
 | .lss => some (.bool (ilt a b))
 | .leq => some (.bool (!ilt b a))
 | .gtr => some (.bool (ilt b a))
 | .geq => some (.bool (!ilt a b))
 | _ => none
theorem evBin_of {op : BinOp} {t : TypeId} {xo yo : Operand} {a b : Int} {v : Value} (h : pureRun P (binOp op t (.int .i64 a) (.int .i64 b)) = some v) (hv : sc 0 v = true) :
   evBin P op t xo yo (.int .i64 a) (.int .i64 b) = some v := by
 unfold evBin
 rw [if_pos ⟨rfl,rfl⟩]
 have e : eqGuard op t xo yo (.int .i64 a) (.int .i64 b) = pure () := by cases op <;> rfl
 rw [e]
 show (pureRun P (binOp op t (.int .i64 a) (.int .i64 b))).bind _ = _
 rw [h]
 simp [hv]
theorem fastBin_eq {op : BinOp} {t : TypeId} {xo yo : Operand} {a b : Int} {v : Value} (h : fastBin op a b = some v) : evBin P op t xo yo (.int .i64 a) (.int .i64 b) = some v := by
 have arith : ∀ {n : Int},ckI n = some v→IntKind.i64.wrap n = n∧v = .int .i64 n := fun hn => by
   obtain ⟨h1,h2,h3⟩ := ckI_some hn
   exact ⟨IntWalk.i64_in _ ⟨h2,h3⟩,h1⟩
 cases op <;> simp only [fastBin] at h <;> try (cases h; done)
 case add =>
   obtain ⟨e1,rfl⟩ := arith h
   refine evBin_of ?_ rfl
   show some (Value.int .i64 (IntKind.i64.wrap (a + b))) = _
   rw [show a + b = Int.add a b from rfl,e1]
 case sub =>
   obtain ⟨e1,rfl⟩ := arith h
   refine evBin_of ?_ rfl
   show some (Value.int .i64 (IntKind.i64.wrap (a - b))) = _
   rw [show a - b = Int.sub a b from rfl,e1]
 case mul =>
   obtain ⟨e1,rfl⟩ := arith h
   refine evBin_of ?_ rfl
   show some (Value.int .i64 (IntKind.i64.wrap (a * b))) = _
   rw [show a * b = Int.mul a b from rfl,e1]
 case quo =>
   rw [ieq_eq] at h
   cases hb : (b == 0) with
   | true => rw [hb] at h; cases h
   | false =>
     rw [hb,cond_false] at h
     obtain ⟨e1,rfl⟩ := arith h
     refine evBin_of ?_ rfl
     have hb' : ¬ b = 0 := by simpa using hb
     simp [binOp,Op.intDiv,hb',e1,pureRun,pure]
 case rem =>
   rw [ieq_eq] at h
   cases hb : (b == 0) with
   | true => rw [hb] at h; cases h
   | false =>
     rw [hb,cond_false] at h
     obtain ⟨e1,rfl⟩ := arith h
     refine evBin_of ?_ rfl
     have hb' : ¬ b = 0 := by simpa using hb
     simp [binOp,Op.intDiv,hb',pureRun,pure]
 case eql => cases h; exact evBin_of (by show some (Value.bool (a == b)) = _; rw [ieq_eq]) rfl
 case neq => cases h; exact evBin_of (by show some (Value.bool (a != b)) = _; rw [ieq_eq]; rfl) rfl
 case lss => cases h; exact evBin_of (by show some (Value.bool (decide (a < b))) = _; rw [ilt_eq]) rfl
 case leq => cases h; exact evBin_of (by show some (Value.bool (decide (a≤b))) = _; rw [ilt_eq]; congr 2; rw [Bool.eq_iff_iff]; simp) rfl
 case gtr => cases h; exact evBin_of (by show some (Value.bool (decide (b < a))) = _; rw [ilt_eq]) rfl
 case geq => cases h; exact evBin_of (by show some (Value.bool (decide (b≤a))) = _; rw [ilt_eq]; congr 2; rw [Bool.eq_iff_iff]; simp) rfl
noncomputable def evBinF (P : Program) (op : BinOp) (t : TypeId) (xo yo : Operand) (x y : Value) : Option Value :=
 match x with
 | .int .i64 a => match y with
   | .int .i64 b => match fastBin op a b with
     | some v => some v
     | none => evBin P op t xo yo (.int .i64 a) (.int .i64 b)
   | y => evBin P op t xo yo (.int .i64 a) y
 | x => evBin P op t xo yo x y
theorem evBinF_eq {op : BinOp} {t : TypeId} {xo yo : Operand} {x y : Value} : evBinF P op t xo yo x y = evBin P op t xo yo x y := by
 unfold evBinF
 split
 · split
   · split
     · rename_i h
       rw [fastBin_eq h]
     · rfl
   · rfl
 · rfl
noncomputable def evOpF (P : Program) (env : Operand→Option Value) (H : Heap) (o : Oper) : Option (ONext × Heap) :=
 match o.op with
 | .move x => match env x with
   | some v => some (.value v,H)
   | none => none
 | .assign x => match env x with
   | some v => some (.value v,H)
   | none => none
 | .binOp op t x y _ => match env x,env y with
   | some a,some b => match evBinF P op t x y a b with
     | some v => some (.value v,H)
     | none => none
   | _,_ => none
 | _ => evOp P env H o
theorem evOpF_eq {env : Operand→Option Value} {H : Heap} {o : Oper} : evOpF P env H o = evOp P env H o := by
 unfold evOpF
 split
 · rename_i x hx
   simp only [evOp,hx]
   cases env x <;> rfl
 · rename_i x hx
   simp only [evOp,hx]
   cases env x <;> rfl
 · rename_i op t x y z hx
   simp only [evOp,hx,evBinF_eq]
   cases env x <;> cases env y <;> simp only
   rename_i a b
   cases evBin P op t x y a b <;> rfl
 · rfl
def Sub (call' call : CallFn) : Prop := ∀ f args H r,call' f args H = some r→call f args H = some r
noncomputable def runOpT (P : Program) (call : CallFn) (ops : Array Oper) (o : Oper) (T : Tr) (E : Heap) : Option (Value × Heap × List Nat) :=
 match wantedT ops T o with
 | true => match evOpF P (aevalT T) E o with
   | some (.value v,H1) => some (v,H1,evLog (aevalT T) o)
   | some (.skip,H1) => some (undef,H1,evLog (aevalT T) o)
   | some (.enter f args,H1) => call (.fn f) args H1
   | none => match yieldOf (aevalT T) o with
     | some (b,args) => call (.round b) args E
     | none => none
 | false => some (undef,E,[])
theorem runOpT_sub {call' call : CallFn} (hc : Sub call' call) {T : Tr} {t : Array Value} (h : FR T t) {ops : Array Oper} {o : Oper} {E : Heap} {r : Value × Heap × List Nat}
   (hr : runOpT P call' ops o T E = some r) : runOp P call ops o t E = some r := by
 unfold runOpT at hr
 unfold runOp
 rw [evOpF_eq,h.aeval,h.wanted] at hr
 split at hr
 · rename_i hw
   rw [if_pos hw]
   cases he : evOp P (Pier.aeval t) E o with
   | none =>
     rw [he] at hr
     simp only at hr ⊢
     cases hy : yieldOf (Pier.aeval t) o with
     | none => rw [hy] at hr; cases hr
     | some q =>
       rw [hy] at hr
       have hrow : rowOf P (Pier.aeval t) E o = none := by
         cases hro : rowOf P (Pier.aeval t) E o with
         | none => rfl
         | some r =>
           rcases rowOf_load hro with ⟨_,_,hop⟩ | ⟨_,_,_,_,_,hop⟩ <;> unfold yieldOf at hy <;> rw [hop] at hy <;> cases hy
       rw [hrow]
       exact hc _ _ _ _ hr
   | some q =>
     obtain ⟨q,H1⟩ := q
     rw [he] at hr
     cases q with
     | value v => exact hr
     | skip => exact hr
     | enter f args => exact hc _ _ _ _ hr
 · rename_i hw
   rw [if_neg (by rw [hw]; simp)]
   exact hr
theorem still_run {call : CallFn} {ops : Array Oper} {o : Oper} {T : Tr} {E F : Heap} {V : Value} {l : List Nat} (h : still o.op = true) (hr : runOpT P call ops o T E = some (V,F,l)) : F = E∧l = [] := by
 unfold runOpT at hr
 rw [evOpF_eq] at hr
 split at hr
 · split at hr
   · rename_i he
     obtain ⟨h1,h2,_⟩ := still_evOp h he
     cases hr
     exact ⟨h1,h2⟩
   · rename_i he
     obtain ⟨h1,h2,v,h3⟩ := still_evOp h he
     cases h3
   · rename_i he
     obtain ⟨h1,h2,v,h3⟩ := still_evOp h he
     cases h3
   · exfalso
     split at hr <;> try (cases hr; done)
     rename_i hy
     unfold yieldOf at hy
     split at hy <;> try (cases hy; done)
     rename_i hop
     rw [hop] at h
     cases h
 · cases hr
   exact ⟨rfl,rfl⟩
def fastKind (o : Oper) : Option TypeId := match o.guard with
 | some _ => none
 | none => match o.op with
   | .alloc t => some t
   | _ => none
theorem fastKind_alloc {o : Oper} {t : TypeId} (h : fastKind o = some t) : o.guard = none∧o.op = .alloc t := by
 unfold fastKind at h
 split at h <;> try (cases h; done)
 rename_i hg
 split at h <;> cases h
 rename_i hop
 exact ⟨hg,hop⟩
noncomputable def evSeqT (P : Program) (call : CallFn) (ops : Array Oper) : List Oper→Heap→Tr→List Nat→Option (Tr × Heap × List Nat)
 | [],H,T,l => some (T,H,l)
 | o :: r,H,T,l => match fastKind o with
   | some t => match zeroT P t with
     | some z => withNat (lenF H) fun n => plainO (.rw z.cells.toList none) fun x => pushK H x fun H1 => T.putK o.dst (ptr n) fun T => evSeqT P call ops r H1 T l
     | none => none
   | none => match runOpT P call ops o T H with
     | some (v,H1,l1) => plainV v fun v => match still o.op with
       | true => T.putK o.dst v fun T => evSeqT P call ops r H T l
       | false => plainZ l1 H1 H 0 fun H1 => T.putK o.dst v fun T => evSeqT P call ops r H1 T (l ++ l1)
     | none => match wantedT ops T o with
       | true => match rowOf P (aevalT T) H o with
         | some (v,H1) => plainV v fun v => T.putK o.dst v fun T => evSeqT P call ops r H1 T l
         | none => none
       | false => none
theorem evSeqT_sub {call' call : CallFn} (hc : Sub call' call) {ops : Array Oper} : ∀ (l : List Oper) {H : Heap} {T : Tr} {t : Array Value} {lg : List Nat} {T' : Tr} {H' : Heap} {lg' : List Nat},FR T t→evSeqT P call' ops l H T lg = some (T',H',lg') →
   ∃ t',FR T' t'∧evSeq P call ops l H t lg = some (t',H',lg')
 | [],H,T,t,lg,T',H',lg',h,he => by cases he; exact ⟨t,h,rfl⟩
 | o :: r,H,T,t,lg,T',H',lg',h,he => by
   simp only [evSeqT] at he
   split at he
   · rename_i ty hk
     obtain ⟨hg,hop⟩ := fastKind_alloc hk
     split at he <;> try (cases he; done)
     rename_i z hz
     simp only [withNat_eq,plainO_eq,pushK_eq,Tr.putK_eq,lenF_eq] at he
     obtain ⟨t',k1,k2⟩ := evSeqT_sub hc r (h.put o.dst (ptr H.length)) he
     refine ⟨t',k1,?_⟩
     have hr : runOp P call ops o t H = some (ptr H.length,H ++ [.rw z.cells.toList none],[]) := by
       unfold runOp
       rw [if_pos (by simp [Region.wanted,hg])]
       simp only [evOp,hop,hz,Option.map_some,evLog]
     simp only [evSeq,hr,Option.bind_some,List.append_nil]
     exact k2
   split at he
   case h_2 =>
     rename_i hnone
     split at he <;> try (cases he; done)
     rename_i hw
     split at he <;> try (cases he; done)
     rename_i v H1 hrow
     rw [plainV_eq,Tr.putK_eq] at he
     obtain ⟨t',k1,k2⟩ := evSeqT_sub hc r (h.put o.dst v) he
     refine ⟨t',k1,?_⟩
     have hev : evOp P (Pier.aeval t) H o = none := by
       cases hq : evOp P (Pier.aeval t) H o with
       | none => rfl
       | some q =>
         obtain ⟨q,H2⟩ := q
         obtain ⟨u,rfl⟩ : ∃ u,q = .value u := by
           rcases rowOf_load hrow with ⟨_,_,hop⟩ | ⟨_,_,_,_,_,hop⟩
           · obtain ⟨_,_,u,hu⟩ := still_evOp (show still o.op = true by rw [hop]; rfl) hq
             exact ⟨u,hu⟩
           · unfold evOp at hq
             rw [hop] at hq
             simp only [Option.bind_eq_some_iff] at hq
             obtain ⟨_,_,_,_,_,_,_,_,hq⟩ := hq
             split at hq
             · cases hq; exact ⟨_,rfl⟩
             · split at hq <;> try (cases hq; done)
               split at hq <;> try (cases hq; done)
               rw [Option.map_eq_some_iff] at hq
               obtain ⟨_,_,hq⟩ := hq
               cases hq; exact ⟨_,rfl⟩
         unfold runOpT at hnone
         rw [hw,evOpF_eq,h.aeval,hq] at hnone
         cases hnone
     have hr : runOp P call ops o t H = some (v,H1,[]) := by
       unfold runOp
       rw [h.aeval] at hrow
       rw [h.wanted] at hw
       rw [if_pos hw,hev]
       simp only [hrow]
     simp only [evSeq,hr,Option.bind_some,List.append_nil]
     exact k2
   rename_i v H1 l1 h1
   rw [plainV_eq] at he
   have hh := runOpT_sub hc h h1
   split at he
   · rename_i hst
     obtain ⟨rfl,rfl⟩ := still_run hst h1
     rw [Tr.putK_eq] at he
     obtain ⟨t',k1,k2⟩ := evSeqT_sub hc r (h.put o.dst v) he
     exact ⟨t',k1,by simp only [evSeq,hh,Option.bind_some,List.append_nil]; exact k2⟩
   · rw [plainZ_eq,Tr.putK_eq] at he
     obtain ⟨t',k1,k2⟩ := evSeqT_sub hc r (h.put o.dst v) he
     exact ⟨t',k1,by simp only [evSeq,hh,Option.bind_some]; exact k2⟩
noncomputable def runOpR (P : Program) (call : CallFn) (ops : Array Oper) (o : Oper) (T : Tr) (E : Heap) : Option (Value × Heap × List Nat) :=
 match runOpT P call ops o T E with
 | some r => some r
 | none => match wantedT ops T o with
   | true => match rowOf P (aevalT T) E o with
     | some (v,F) => some (v,F,[])
     | none => none
   | false => none
theorem runOpR_sub {call' call : CallFn} (hc : Sub call' call) {T : Tr} {t : Array Value} (h : FR T t) {ops : Array Oper} {o : Oper} {E : Heap} {r : Value × Heap × List Nat}
   (hr : runOpR P call' ops o T E = some r) : runOp P call ops o t E = some r := by
 unfold runOpR at hr
 split at hr
 · rename_i h1
   cases hr
   exact runOpT_sub hc h h1
 rename_i hnone
 split at hr <;> try (cases hr; done)
 rename_i hw
 split at hr <;> cases hr
 rename_i v H1 hrow
 have hev : evOp P (Pier.aeval t) E o = none := by
   cases hq : evOp P (Pier.aeval t) E o with
   | none => rfl
   | some q =>
     obtain ⟨q,H2⟩ := q
     obtain ⟨u,rfl⟩ : ∃ u,q = .value u := by
       rcases rowOf_load hrow with ⟨_,_,hop⟩ | ⟨_,_,_,_,_,hop⟩
       · obtain ⟨_,_,u,hu⟩ := still_evOp (show still o.op = true by rw [hop]; rfl) hq
         exact ⟨u,hu⟩
       · unfold evOp at hq
         rw [hop] at hq
         simp only [Option.bind_eq_some_iff] at hq
         obtain ⟨_,_,_,_,_,_,_,_,hq⟩ := hq
         split at hq
         · cases hq; exact ⟨_,rfl⟩
         · split at hq <;> try (cases hq; done)
           split at hq <;> try (cases hq; done)
           rw [Option.map_eq_some_iff] at hq
           obtain ⟨_,_,hq⟩ := hq
           cases hq; exact ⟨_,rfl⟩
     unfold runOpT at hnone
     rw [hw,evOpF_eq,h.aeval,hq] at hnone
     cases hnone
 unfold runOp
 rw [h.aeval] at hrow
 rw [h.wanted] at hw
 rw [if_pos hw,hev]
 simp only [hrow]
theorem runOpR_of {call : CallFn} {ops : Array Oper} {o : Oper} {T : Tr} {E : Heap} {r : Value × Heap × List Nat} (h : runOpT P call ops o T E = some r) : runOpR P call ops o T E = some r := by
 unfold runOpR
 rw [h]
structure DRF where
 g : Nat
 E : Heap
 tm : Tr
 V : Value
 te : Bool
structure DSF where
 sf : List (Nat × Nat × Nat)
 rs : List DRF
 hides : List (List Nat)
 effs : List Eff
 G : Heap
 tm : Tr
structure RR (a : DRF) (r : DRec) : Prop where
 g : a.g = r.g
 E : a.E = r.E
 tm : FR a.tm r.tm
 V : a.V = r.V
 te : a.te = r.T.isEmpty
inductive RRs : List DRF→List DRec→Prop
 | nil : RRs [] []
 | cons {a : DRF} {r : DRec} {l : List DRF} {m : List DRec} (h : RR a r) (t : RRs l m) : RRs (a :: l) (r :: m)
theorem RRs.map_g {l : List DRF} {r : List DRec} (h : RRs l r) : l.map (·.g) = r.map (·.g) := by
 induction h with
 | nil => rfl
 | cons h _ ih => simp only [List.map_cons,h.g,ih]
theorem RRs.atj {l : List DRF} {r : List DRec} (h : RRs l r) : ∀ j : Nat,(l[j]? = none∧r[j]? = none)∨∃ x y,l[j]? = some x∧r[j]? = some y∧RR x y := by
 induction h with
 | nil => intro j; exact .inl ⟨rfl,rfl⟩
 | cons h _ ih =>
   intro j
   cases j with
   | zero => exact .inr ⟨_,_,rfl,rfl,h⟩
   | succ j => simpa using ih j
theorem RRs.push {l : List DRF} {r : List DRec} {x : DRF} {y : DRec} (h : RRs l r) (k : RR x y) : RRs (l ++ [x]) (r ++ [y]) := by
 induction h with
 | nil => exact .cons k .nil
 | cons h _ ih => exact .cons h ih
noncomputable def dstepS (P : Program) (call : CallFn) (ops : Array Oper) (ms : List Nat) (i : Nat) (o : Oper) (s : DSF) : Option DSF :=
 let mi := ms.getD i 0
 let un := s.effs.filter fun e => !mi.testBit e.j
 let hide := un.flatMap (·.T) ++ extraH ops o (aevalT s.tm) s.G.length
 let E := maskH s.G hide
 let g := s.G.length
 match runOpR P call ops o s.tm E with
 | some (V,F,l) =>
   let old := l.filter fun b => decide (b < g)
   let x := softPick mi old (s.rs.map (·.g)) s.hides
   match (old.all fun b => !isGone E b) && (old.isEmpty || seenX x mi old 0 (s.rs.map (·.g)) s.hides) &&
      (onceB x && x.all fun q => match s.rs[q.1]? with | some r => softB P ops s.sf F old r.g r.E (aevalT r.tm) (wantedT ops r.tm) r.V r.te q.1 q.2 | none => false) && sc F.length V &&
      (un.all fun e => decide (e.hi≤e.lo) || (nm (avoid e.lo e.hi) V && (old.all fun b => match F[b]? with | some o => o.nm (avoid e.lo e.hi) | none => true) && (F.drop g).all (·.nm (avoid e.lo e.hi)))) with
   | true =>
     let T := old ++ List.range' g (F.length - g)
     plainV V fun V => plainZ T (showH s.G F hide) s.G 0 fun G => s.tm.putK o.dst V fun tm =>
       some { sf := sfPut i x s.sf,rs := s.rs ++ [{ g := g,E := E,tm := s.tm,V := V,te := T.isEmpty }],hides := s.hides ++ [hide],effs := if T.isEmpty then s.effs else s.effs ++ [{ j := i,lo := g,hi := F.length,T }],G := G,tm := tm }
   | false => none
 | none => none
noncomputable def dstepT (P : Program) (call : CallFn) (ops : Array Oper) (ms : List Nat) (i : Nat) (o : Oper) (s : DSF) : Option DSF :=
 match still o.op && !twoCalls ops with
 | true => match s.effs with
   | [] => match runOpT P call ops o s.tm s.G with
     | some (V,_,_) => match sc s.G.length V with
       | true => plainV V fun V => s.tm.putK o.dst V fun tm => some { sf := s.sf,rs := s.rs ++ [{ g := s.G.length,E := s.G,tm := s.tm,V := V,te := true }],hides := s.hides ++ [[]],effs := [],G := s.G,tm := tm }
       | false => none
     | none => dstepS P call ops ms i o s
   | _ => dstepS P call ops ms i o s
 | false => dstepS P call ops ms i o s
theorem dstepT_eq {call : CallFn} {ops : Array Oper} {ms : List Nat} {i : Nat} {o : Oper} {s s' : DSF} (h : dstepT P call ops ms i o s = some s') : dstepS P call ops ms i o s = some s' := by
 unfold dstepT at h
 split at h
 · rename_i hst
   rw [Bool.and_eq_true,Bool.not_eq_true'] at hst
   obtain ⟨hst,htc⟩ := hst
   split at h
   · rename_i he
     split at h
     case h_2 => exact h
     rename_i V F l hr
     obtain ⟨rfl,rfl⟩ := still_run hst hr
     split at h <;> try (cases h; done)
     rename_i hsc
     rw [plainV_eq,Tr.putK_eq] at h
     cases h
     unfold dstepS
     simp [he,extraH_none htc,maskH,runOpR_of hr,hsc,showH,plainV_eq,plainZ_eq,Tr.putK_eq,softPick,sfPut,onceB]
   · exact h
 · exact h
structure SR (a : DSF) (s : DSt) : Prop where
 sf : a.sf = s.sf
 rs : RRs a.rs s.recs
 hides : a.hides = s.hides
 effs : a.effs = s.effs
 G : a.G = s.G
 tm : FR a.tm s.tm
theorem dstepT_sub {call' call : CallFn} (hc : Sub call' call) {ops : Array Oper} {ms : List Nat} {i : Nat} {o : Oper} {a a' : DSF} {s : DSt} (h : SR a s) (ha : dstepT P call' ops ms i o a = some a') :
   ∃ s',dstep P call ops ms i o s = some s'∧SR a' s' := by
 obtain ⟨asf,ars,ah,ae,aG,at'⟩ := a
 obtain ⟨h0,h1,h2,h3,h4,h5⟩ := h
 simp only at h0 h1 h2 h3 h4 h5
 subst h0; subst h2; subst h3; subst h4
 have ha := dstepT_eq ha
 unfold dstepS at ha
 simp only [h5.aeval] at ha
 split at ha <;> try (cases ha; done)
 rename_i V F l hr
 have hr' := runOpR_sub hc h5 hr
 split at ha <;> try (cases ha; done)
 rename_i hck
 have hso : ((softPick (ms.getD i 0) (l.filter fun b => decide (b < s.G.length)) (s.recs.map (·.g)) s.hides).all fun q => match ars[q.1]? with
       | some r => softB P ops s.sf F (l.filter fun b => decide (b < s.G.length)) r.g r.E (aevalT r.tm) (wantedT ops r.tm) r.V r.te q.1 q.2
       | none => false) =
     ((softPick (ms.getD i 0) (l.filter fun b => decide (b < s.G.length)) (s.recs.map (·.g)) s.hides).all fun q => match s.recs[q.1]? with
       | some r => softB P ops s.sf F (l.filter fun b => decide (b < s.G.length)) r.g r.E (aeval r.tm) (fun oj => Region.wanted oj (yielded ops r.tm)) r.V r.T.isEmpty q.1 q.2
       | none => false) := by
   congr 1
   funext q
   rcases h1.atj q.1 with ⟨e1,e2⟩ | ⟨x,y,e1,e2,e3⟩
   · simp only [e1,e2]
   · simp only [e1,e2]
     rw [e3.g,e3.E,e3.V,e3.te,e3.tm.aeval]
     congr 1
     funext oj
     exact e3.tm.wanted ops oj
 simp only [h1.map_g] at hck ha
 rw [hso] at hck
 simp only [plainV_eq,plainZ_eq,Tr.putK_eq] at ha
 cases ha
 refine ⟨_,by unfold dstep; simp only [hr',Option.bind_some]; exact if_pos hck,?_⟩
 exact ⟨rfl,h1.push ⟨rfl,rfl,h5,rfl,rfl⟩,rfl,rfl,rfl,h5.put _ _⟩
noncomputable def drunT (P : Program) (call : CallFn) (ops : Array Oper) (ms : List Nat) : Nat→List Oper→DSF→Option DSF
 | _,[],s => some s
 | i,o :: r,s => match dstepT P call ops ms i o s with
   | some s' => drunT P call ops ms (i + 1) r s'
   | none => none
theorem drunT_sub {call' call : CallFn} (hc : Sub call' call) {ops : Array Oper} {ms : List Nat} : ∀ (l : List Oper) {i : Nat} {a a' : DSF} {s : DSt},SR a s→drunT P call' ops ms i l a = some a' →
   ∃ s',drun P call ops ms i l s = some s'∧SR a' s'
 | [],i,a,a',s,h,ha => by cases ha; exact ⟨s,rfl,h⟩
 | o :: r,i,a,a',s,h,ha => by
   simp only [drunT] at ha
   split at ha <;> try (cases ha; done)
   rename_i b hb
   obtain ⟨s1,k1,k2⟩ := dstepT_sub hc h hb
   obtain ⟨s2,k3,k4⟩ := drunT_sub hc r k2 ha
   exact ⟨s2,by simp only [drun,k1,Option.bind_some]; exact k3,k4⟩
noncomputable def evDrawT (P : Program) (call : CallFn) (ops : Array Oper) (H : Heap) (T : Tr) : Option (Tr × Heap × List Nat) :=
 match staticOk ops (masks ops) with
 | true => match drunT P call ops (masks ops) 0 ops.toList { sf := [],rs := [],hides := [],effs := [],G := H,tm := T } with
   | some s => some (s.tm,s.G,(s.effs.flatMap (·.T)).filter fun b => decide (b < H.length))
   | none => none
 | false => none
theorem evDrawT_sub {call' call : CallFn} (hc : Sub call' call) {ops : Array Oper} {H : Heap} {T : Tr} {t : Array Value} {T' : Tr} {H' : Heap} {l : List Nat} (h : FR T t) (he : evDrawT P call' ops H T = some (T',H',l)) :
   ∃ t',FR T' t'∧evDraw P call ops H t = some (t',H',l) := by
 unfold evDrawT at he
 split at he <;> try (cases he; done)
 rename_i hs
 split at he <;> try (cases he; done)
 rename_i a ha
 cases he
 obtain ⟨s',k1,k2⟩ := drunT_sub hc ops.toList (s := { sf := [],recs := [],hides := [],effs := [],Gs := [],G := H,tm := t }) ⟨rfl,.nil,rfl,rfl,rfl,h⟩ ha
 refine ⟨s'.tm,k2.tm,?_⟩
 unfold evDraw
 rw [if_pos hs,k1,k2.G,k2.effs]
 rfl
noncomputable def aresVarT (P : Program) (T : Tr) (H : Heap) : ResultVar→Option Value
 | .tmp k => some (T.get k)
 | .cell a ty => match T.get a with
   | .pointer (some p) => aloadVar P H ty p
   | _ => none
noncomputable def aressT (P : Program) (T : Tr) (H : Heap) : List ResultVar→Option (List Value)
 | [] => some []
 | r :: rs => (aresVarT P T H r).bind fun v => (aressT P T H rs).map (v :: ·)
noncomputable def aresultsT (P : Program) (fn : Func) (T : Tr) (H : Heap) : Option Value :=
 (aressT P T H fn.results.toList).bind fun vs => match vs with
   | [v] => some v
   | vs => if vs.all (sc2 H.length) = true then some (.tuple vs.toArray) else none
theorem FR.results {T : Tr} {t : Array Value} (h : FR T t) (fn : Func) (H : Heap) : aresultsT P fn T H = aresults P fn t H := by
 have e1 : ∀ r,aresVarT P T H r = aresVar P t H r := by
   intro r
   cases r with
   | tmp k => simp only [aresVarT,aresVar,h.2 k]
   | cell a ty => simp only [aresVarT,aresVar,h.2 a]; rfl
 have e2 : ∀ l,aressT P T H l = aress P t H l := by
   intro l
   induction l with
   | nil => rfl
   | cons r rs ih => simp only [aressT,aress,e1,ih]
 simp only [aresultsT,aresults,e2]
 rfl
abbrev ResT := AExit × Tr × Heap × List Nat
noncomputable def evFunT (P : Program) (code : Code→Heap→Tr→Option ResT) : FnCall := fun f args H =>
 match P.funcs[f]? with
 | none => none
 | some fn => match fn.body with
   | none => none
   | some c => match Nat.ble args.length fn.ntmps with
     | false => none
     | true => match code c H ((Tr.mk fn.ntmps fn.ntmps).args 0 args) with
       | none => none
       | some q => if q.1 = .normal ∨ q.1 = .ret then match aresultsT P fn q.2.1 q.2.2.1 with
           | none => none
           | some v =>
             let old := q.2.2.2.filter fun b => decide (b < H.length)
             if (sc H.length v && old.all fun b => match q.2.2.1[b]? with | some o => o.sc H.length | none => true) = true then some (v,q.2.2.1.take H.length,old)
             else some (v,q.2.2.1,old)
         else none
def SubC (c' : Code→Heap→Tr→Option ResT) (c : Code→Heap→Array Value→Option Res) : Prop :=
 ∀ x H T t e T' H' l,FR T t→c' x H T = some (e,T',H',l)→∃ t',FR T' t'∧c x H t = some (e,t',H',l)
def SubF (call' call : FnCall) : Prop := ∀ f args H r,call' f args H = some r→call f args H = some r
theorem evFunT_sub {c' : Code→Heap→Tr→Option ResT} {c : Code→Heap→Array Value→Option Res} (h : SubC c' c) : SubF (evFunT P c') (evFun P c) := by
 intro f args H r hr
 unfold evFunT at hr
 unfold evFun
 split at hr <;> try (cases hr; done)
 rename_i fn hfn
 rw [hfn]
 simp only
 split at hr <;> try (cases hr; done)
 rename_i b hb
 rw [hb]
 simp only
 split at hr <;> try (cases hr; done)
 rename_i hle
 split at hr <;> try (cases hr; done)
 rename_i q hq
 obtain ⟨e,T',H',l⟩ := q
 obtain ⟨t',k1,k2⟩ := h _ _ _ _ _ _ _ _ (FR.start (Nat.le_of_ble_eq_true hle)) hq
 rw [k2]
 simp only [Option.bind_some]
 simp only at hr
 split at hr <;> try (cases hr; done)
 rename_i hx
 rw [if_pos hx]
 rw [k1.results] at hr
 split at hr <;> try (cases hr; done)
 rename_i v hv
 rw [hv]
 exact hr
theorem gcFun_sub {call' call : FnCall} (h : SubF call' call) : SubF (gcFun call') (gcFun call) := by
 intro f args H r hr
 unfold gcFun at hr ⊢
 split at hr <;> try (cases hr; done)
 rename_i v1 H1 l1 h1
 rw [h _ _ _ _ h1]
 exact hr
noncomputable def Tr.count (T : Tr) : Nat := Tr.rec (motive := fun _ => Nat) 0 (fun _ _ _ a b => a + b + 1) T
theorem Tr.count_full : ∀ {T : Tr} {n : Nat},T.Full n→T.count = n
 | .nil,_,h => h.symm
 | .nd l v r,n,⟨h0,hl,hr⟩ => by
   show l.count + r.count + 1 = n
   rw [Tr.count_full hl,Tr.count_full hr]
   omega
noncomputable def Tr.arr (T : Tr) : Array Value := ((List.range T.count).map T.get).toArray
theorem FR.arr {T : Tr} {t : Array Value} (h : FR T t) : T.arr = t := by
 apply Array.ext_getElem?
 intro k
 simp only [Tr.arr,Tr.count_full h.1,List.getElem?_toArray,List.getElem?_map]
 by_cases hk : k < t.size
 · simp [List.getElem?_range hk,h.2 k,hk]
 · rw [List.getElem?_eq_none (by simpa using hk),Array.getElem?_eq_none (by omega)]
   rfl
noncomputable def Tr.of (t : Array Value) : Tr := (Tr.mk t.size t.size).args 0 t.toList
theorem FR.of (t : Array Value) : FR (Tr.of t) t := by
 have := FR.start (n := t.size) (args := t.toList) (by simp)
 simpa [Tr.of] using this
noncomputable def Tr.rnd (T : Tr) : List (Tmp × Value)→Tr
 | [] => T
 | p :: l => (T.set p.1 p.2).rnd l
theorem FR.rnd : ∀ (l : List (Tmp × Value)) {T : Tr} {t : Array Value},FR T t→FR (T.rnd l) (roundT t l)
 | [],_,_,h => h
 | (k,v) :: l,_,_,h => FR.rnd l (h.set k v)
noncomputable def evRoundT (code : Code→Heap→Tr→Option ResT) (b : Nat) (args : List Value) (H : Heap) : Option (Value × Heap × List Nat) :=
 match H[b]? with
 | some (.loop .ready none t ps assign body) => match Nat.beq args.length ps.size && t.toList.all (fun v => !isJunk v) with
   | true => match code assign H ((Tr.of t).rnd (ps.toList.zip args)) with
     | some (.normal,T1,H1,l1) => match l1.contains b with
       | false => match code body (H1.set b (.loop .busy none t ps assign body)) T1 with
         | some (x,_,H2,l2) => match l2.contains b with
           | false => some (.bool (decide (x = .normal)),H2.set b (roundEnd x t ps assign body),b :: (l1 ++ l2))
           | true => none
         | none => none
       | true => none
     | _ => none
   | false => none
 | _ => none
theorem evRoundT_sub {c' : Code→Heap→Tr→Option ResT} {c : Code→Heap→Array Value→Option Res} (h : SubC c' c) {b : Nat} {args : List Value} {H : Heap} {r : Value × Heap × List Nat} (hr : evRoundT c' b args H = some r) :
   evRound c b args H = some r := by
 unfold evRoundT at hr
 unfold evRound
 split at hr <;> try (cases hr; done)
 rename_i t ps assign body hb
 rw [hb]
 simp only
 split at hr <;> try (cases hr; done)
 rename_i hl
 simp only [Bool.and_eq_true] at hl
 rw [if_pos ⟨Nat.eq_of_beq_eq_true hl.1,hl.2⟩]
 split at hr <;> try (cases hr; done)
 rename_i T1 H1 l1 h1
 obtain ⟨t1,k1,k2⟩ := h _ _ _ _ _ _ _ _ (FR.rnd _ (FR.of t)) h1
 rw [k2]
 simp only [Option.bind_some]
 split at hr <;> try (cases hr; done)
 rename_i hn1
 simp only [true_and]
 rw [if_pos hn1]
 split at hr <;> try (cases hr; done)
 rename_i x T2 H2 l2 h2
 obtain ⟨t2,k3,k4⟩ := h _ _ _ _ _ _ _ _ k1 h2
 rw [k4]
 simp only [Option.bind_some]
 split at hr <;> try (cases hr; done)
 rename_i hn2
 rw [if_pos hn2]
 exact hr
noncomputable def withTblT (tbl : Tbl) (call : FnCall) (round : Nat→Code→Heap→Tr→Option ResT) : CallFn := fun k args H =>
 match k with
 | .fn f => match tbl f with
   | some g => match g args H with
     | some r => some r
     | none => call f args H
   | none => call f args H
 | .round b => evRoundT (round b) b args H
theorem withTblT_sub {tbl : Tbl} {call' call : FnCall} {r' : Nat→Code→Heap→Tr→Option ResT} {r : Nat→Code→Heap→Array Value→Option Res} (h : SubF call' call) (hr : ∀ b,SubC (r' b) (r b)) : Sub (withTblT tbl call' r') (withTbl tbl call r) := by
 intro k args H q hq
 unfold withTblT at hq
 unfold withTbl
 cases k with
 | fn f =>
   simp only at hq ⊢
   cases ht : tbl f with
   | some g =>
     rw [ht] at hq
     simp only at hq ⊢
     cases hg : g args H with
     | some r => rw [hg] at hq; exact hq
     | none => rw [hg] at hq; exact h _ _ _ _ hq
   | none => rw [ht] at hq; exact h _ _ _ _ hq
 | round b => exact evRoundT_sub (hr b) hq
noncomputable def evRangeT (P : Program) (call : CallFn) (g : Operand) (ps : Array Tmp) (assign body : Code) (H : Heap) (T : Tr) : Option ResT :=
 match aevalT T g with
 | some (.func (.func gf) a cap) => match fnOk P gf with
   | true => match call (.fn gf) (a.toList ++ [.func (.yield H.length) #[] #[]] ++ cap.toList) (H ++ [.loop .ready none T.arr ps assign body]) with
     | some (_,H2,l2) => match H2[H.length]? with
       | some (.loop st pend _ _ _ _) => if st = .busy then none else match pend with
         | none => some (.normal,T,H2.set H.length .gone,l2)
         | some (.exit id) => some (.exit id,T,H2.set H.length .gone,l2)
         | some .ret => some (.ret,T,H2.set H.length .gone,l2)
         | some _ => none
       | _ => none
     | none => none
   | false => none
 | _ => none
theorem evRangeT_sub {call' call : CallFn} (hc : Sub call' call) {g : Operand} {ps : Array Tmp} {assign body : Code} {H : Heap} {T : Tr} {t : Array Value} {x : AExit} {T' : Tr} {H' : Heap} {l : List Nat} (hF : FR T t)
   (h : evRangeT P call' g ps assign body H T = some (x,T',H',l)) : ∃ t',FR T' t'∧evRange P call g ps assign body H t = some (x,t',H',l) := by
 unfold evRangeT at h
 unfold evRange
 rw [hF.aeval,hF.arr] at h
 split at h <;> try (cases h; done)
 rename_i gf a cap hg
 rw [hg]
 simp only
 split at h <;> try (cases h; done)
 rename_i hok
 rw [if_pos hok]
 split at h <;> try (cases h; done)
 rename_i v H2 l2 h1
 rw [hc _ _ _ _ h1]
 simp only [Option.bind_some]
 split at h <;> try (cases h; done)
 rename_i st pend t1 ps1 as1 bd1 hb
 rw [hb]
 simp only
 split at h <;> try (cases h; done)
 rename_i hst
 rw [if_neg hst]
 split at h <;> cases h <;> exact ⟨t,hF,rfl⟩
noncomputable def evCT (P : Program) (tbl : Tbl) (n : Nat) : Option Nat→Code→Heap→Tr→Option ResT :=
 Nat.rec (motive := fun _ => Option Nat→Code→Heap→Tr→Option ResT) (fun _ _ _ _ => none) (fun _ ev top c H T =>
   match c with
   | .skip => some (.normal,T,H,[])
   | .label _ => some (.normal,T,H,[])
   | .exit id => some (.exit id,T,H,[])
   | .ret => some (.ret,T,H,[])
   | .region _ ops d => match d with
     | false => match evSeqT P (withTblT tbl (gcFun (evFunT P (ev none))) (fun b => ev (some b))) ops ops.toList H T [] with
       | some (T1,H1,l1) => some (.normal,T1,H1,l1)
       | none => none
     | true => match P.follows .mixedOrders with
       | true => match evDrawT P (withTblT tbl (gcFun (evFunT P (ev none))) (fun b => ev (some b))) ops H T with
         | some (T1,H1,l1) => some (.normal,T1,H1,l1)
         | none => none
       | false => none
   | .seq a b => match ev top a H T with
     | none => none
     | some (e,T1,H1,l1) => match e with
       | .normal => match ev top b H1 T1 with
         | some (e2,T2,H2,l2) => some (e2,T2,H2,l1 ++ l2)
         | none => none
       | e => some (e,T1,H1,l1)
   | .cond o a b => match aevalT T o with
     | some (.bool v) => ev top (match v with | true => a | false => b) H T
     | _ => none
   | .block id a => match ev top a H T with
     | none => none
     | some (e,q) => match e with
       | .exit j => match Nat.beq j id with
         | true => some (.normal,q)
         | false => some (.exit j,q)
       | e => some (e,q)
   | .loop a => match ev top a H T with
     | none => none
     | some (e,T1,H1,l1) => match e with
       | .normal => match ev top (.loop a) H1 T1 with
         | some (e2,T2,H2,l2) => some (e2,T2,H2,l1 ++ l2)
         | none => none
       | e => some (e,T1,H1,l1)
   | .scope a => ev top a H T
   | .rangeFunc g ps assign body => match okRo top H with
     | true => evRangeT P (withTblT tbl (gcFun (evFunT P (ev none))) (fun b => ev (some b))) g ps assign body H T
     | false => none
   | _ => none) n
theorem evCT_sub (tbl : Tbl) : ∀ n top,SubC (evCT P tbl n top) (evC P tbl n top)
 | 0,_ => fun _ _ _ _ _ _ _ _ _ h => by cases h
 | n + 1,top => by
   intro c H T t e T' H' l hF h
   have ih := evCT_sub tbl n top
   have hc := withTblT_sub (tbl := tbl) (gcFun_sub (evFunT_sub (P := P) (evCT_sub tbl n none))) (fun b => evCT_sub tbl n (some b))
   cases c with
   | skip => cases h; exact ⟨t,hF,rfl⟩
   | label _ => cases h; exact ⟨t,hF,rfl⟩
   | exit id => cases h; exact ⟨t,hF,rfl⟩
   | ret => cases h; exact ⟨t,hF,rfl⟩
   | region i ops d =>
     cases d with
     | false =>
       change (match evSeqT P (withTblT tbl (gcFun (evFunT P (evCT P tbl n none))) (fun b => evCT P tbl n (some b))) ops ops.toList H T [] with | some (T1,H1,l1) => some (AExit.normal,T1,H1,l1) | none => none) = _ at h
       split at h <;> try (cases h; done)
       rename_i T1 H1 l1 h1
       cases h
       obtain ⟨t',k1,k2⟩ := evSeqT_sub hc _ hF h1
       exact ⟨t',k1,by simp only [evC,k2]; rfl⟩
     | true =>
       change (match P.follows .mixedOrders with | true => (match evDrawT P (withTblT tbl (gcFun (evFunT P (evCT P tbl n none))) (fun b => evCT P tbl n (some b))) ops H T with | some (T1,H1,l1) => some (AExit.normal,T1,H1,l1) | none => none) | false => none) = _ at h
       split at h <;> try (cases h; done)
       rename_i hm
       split at h <;> try (cases h; done)
       rename_i T1 H1 l1 h1
       cases h
       obtain ⟨t',k1,k2⟩ := evDrawT_sub hc hF h1
       exact ⟨t',k1,by simp only [evC,k2,hm,if_true]; rfl⟩
   | seq a b =>
     change (match evCT P tbl n top a H T with | none => none | some (e,T1,H1,l1) => match e with | .normal => (match evCT P tbl n top b H1 T1 with | some (e2,T2,H2,l2) => some (e2,T2,H2,l1 ++ l2) | none => none) | e => some (e,T1,H1,l1)) = _ at h
     split at h <;> try (cases h; done)
     rename_i e1 T1 H1 l1 h1
     obtain ⟨t1,k1,k2⟩ := ih _ _ _ _ _ _ _ _ hF h1
     split at h
     · split at h <;> try (cases h; done)
       rename_i e2 T2 H2 l2 h2
       cases h
       obtain ⟨t2,k3,k4⟩ := ih _ _ _ _ _ _ _ _ k1 h2
       exact ⟨t2,k3,by simp only [evC,k2,Option.bind_some,if_true,k4]; rfl⟩
     · rename_i hn
       cases h
       exact ⟨t1,k1,by simp only [evC,k2,Option.bind_some]; rw [if_neg (fun hh => hn hh)]⟩
   | cond o a b =>
     change (match aevalT T o with | some (.bool v) => evCT P tbl n top (match v with | true => a | false => b) H T | _ => none) = _ at h
     rw [hF.aeval] at h
     split at h <;> try (cases h; done)
     rename_i v hv
     obtain ⟨t1,k1,k2⟩ := ih _ _ _ _ _ _ _ _ hF h
     refine ⟨t1,k1,?_⟩
     simp only [evC,hv]
     cases v <;> exact k2
   | block id a =>
     change (match evCT P tbl n top a H T with | none => none | some (e,q) => match e with | .exit j => (match Nat.beq j id with | true => some (AExit.normal,q) | false => some (.exit j,q)) | e => some (e,q)) = _ at h
     split at h <;> try (cases h; done)
     rename_i e1 q h1
     obtain ⟨T1,H1,l1⟩ := q
     obtain ⟨t1,k1,k2⟩ := ih _ _ _ _ _ _ _ _ hF h1
     split at h
     · rename_i j
       split at h
       · rename_i hj
         cases h
         have : j = id := Nat.eq_of_beq_eq_true hj
         subst this
         exact ⟨t1,k1,by simp only [evC,k2,Option.map_some,if_true]⟩
       · rename_i hj
         cases h
         have : j ≠ id := fun e => by subst e; rw [Nat.beq_refl] at hj; cases hj
         exact ⟨t1,k1,by simp only [evC,k2,Option.map_some]; rw [if_neg (by intro hh; injection hh with hh; exact this hh)]⟩
     · rename_i hn
       cases h
       exact ⟨t1,k1,by simp only [evC,k2,Option.map_some]; rw [if_neg (fun hh => hn _ hh)]⟩
   | loop a =>
     change (match evCT P tbl n top a H T with | none => none | some (e,T1,H1,l1) => match e with | .normal => (match evCT P tbl n top (.loop a) H1 T1 with | some (e2,T2,H2,l2) => some (e2,T2,H2,l1 ++ l2) | none => none) | e => some (e,T1,H1,l1)) = _ at h
     split at h <;> try (cases h; done)
     rename_i e1 T1 H1 l1 h1
     obtain ⟨t1,k1,k2⟩ := ih _ _ _ _ _ _ _ _ hF h1
     split at h
     · split at h <;> try (cases h; done)
       rename_i e2 T2 H2 l2 h2
       cases h
       obtain ⟨t2,k3,k4⟩ := ih _ _ _ _ _ _ _ _ k1 h2
       exact ⟨t2,k3,by simp only [evC,k2,Option.bind_some,if_true,k4]; rfl⟩
     · rename_i hn
       cases h
       exact ⟨t1,k1,by simp only [evC,k2,Option.bind_some]; rw [if_neg (fun hh => hn hh)]⟩
   | scope a =>
     obtain ⟨t1,k1,k2⟩ := ih _ _ _ _ _ _ _ _ hF (show evCT P tbl n top a H T = _ from h)
     exact ⟨t1,k1,by simp only [evC]; exact k2⟩
   | rangeFunc g ps assign body =>
     change (match okRo top H with | true => evRangeT P (withTblT tbl (gcFun (evFunT P (evCT P tbl n none))) (fun b => evCT P tbl n (some b))) g ps assign body H T | false => none) = _ at h
     cases ho : okRo top H with
     | false => rw [ho] at h; cases h
     | true =>
       rw [ho] at h
       obtain ⟨t',k1,k2⟩ := evRangeT_sub hc hF h
       exact ⟨t',k1,by simp only [evC,ho,if_true]; exact k2⟩
   | goto _ => cases h
   | refuse _ => cases h
theorem evFunT_call {tbl : Tbl} {n : Nat} {f : FuncId} {args : List Value} {H : Heap} {r : Value × Heap × List Nat} (h : evFunT P (evCT P tbl n none) f args H = some r) : evFun P (evC P tbl n none) f args H = some r :=
 evFunT_sub (evCT_sub tbl n none) _ _ _ _ h
end Go.Pier
