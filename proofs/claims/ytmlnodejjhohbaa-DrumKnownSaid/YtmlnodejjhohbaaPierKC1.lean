import Derived.Test.YtmlnodejjhohbaaPierZI
import Derived.IntWalk
import Derived.Test.YtmlnodejjhohbaaPierW
set_option linter.unusedSimpArgs false
set_option linter.unusedVariables false
namespace Go.Pier
open Go
variable {P : Program} {ρ : Ren} {H H' : Heap} {w : World} {N n : Nat} {F : Fr} {a : Act}
def AskAll : List Prop→Prop
 | [] => True
 | φ :: r => Ob φ∧AskAll r
theorem AskAll.append : ∀ {a b : List Prop},AskAll (a ++ b)→AskAll a∧AskAll b
 | [],_,h => ⟨trivial,h⟩
 | _ :: _,_,h => ⟨⟨h.1,(AskAll.append h.2).1⟩,(AskAll.append h.2).2⟩
end Go.Pier
namespace Go.Pier
open Go
end Go.Pier
namespace Go.Pier
open Go
variable {P : Program} {ρ : Ren} {H : Heap} {w : World}
def Still (H : Heap) : Prop := ∀ b,wr H b = false
theorem Still.nil : Still [] := fun b => by simp [wr]
theorem Still.push {o : AObj} (h : Still H) (ho : o.wr = false) : Still (H ++ [o]) := fun b => by
 rcases Nat.lt_trichotomy b H.length with hb | hb | hb
 · rw [wr_append_lt hb]; exact h b
 · subst hb; rw [wr_of_get (get_append_new H o)]; exact ho
 · cases hw : wr (H ++ [o]) b with
   | false => rfl
   | true => have := wr_lt hw; simp at this; omega
theorem Rel.bind (R : Rel ρ H w) (hst : Still H) {o : AObj} {p off k : Nat} (ho : o.wr = false) (hs : o.sc (H.length + 1) = true) (hn : ObjOk (ρ.bind H.length p off k) H.length w o) : Rel (ρ.bind H.length p off k) (H ++ [o]) w := by
 have hag := Ren.bind_agree ρ H.length p off k
 have hst' := hst.push (o := o) ho
 refine ⟨fun b o' hb => ?_,fun b b' hb => ?_,fun b b' _ hb' => ?_,fun b b' _ hb' => ?_,fun b o' hb => ?_⟩
 · have hlt := (List.getElem?_eq_some_iff.1 hb).1
   simp at hlt
   rcases Nat.lt_or_ge b H.length with h | h
   · rw [List.getElem?_append_left h] at hb
     exact (R.obj b o' hb).move hag h (R.scp b o' hb) (.inr rfl) (Below'.refl _ _ _ _)
   · have : b = H.length := by omega
     subst this
     rw [get_append_new] at hb
     cases hb
     exact hn
 · rw [hst' b] at hb; cases hb
 · rw [hst' b'] at hb'; cases hb'
 · rw [hst' b'] at hb'; cases hb'
 · have hlt := (List.getElem?_eq_some_iff.1 hb).1
   simp at hlt
   rcases Nat.lt_or_ge b H.length with h | h
   · rw [List.getElem?_append_left h] at hb
     exact AObj.sc_mono (by simp) (R.scp b o' hb)
   · have : b = H.length := by omega
     subst this
     rw [get_append_new] at hb
     cases hb
     simpa using hs
theorem Still.kept {ρ' : Ren} {H' : Heap} {w' : World} (h : Still H) (X : Ext ρ H w ρ' H' w') : ∀ k,k < w.heap.size→w'.heap[k]? = w.heap[k]? := fun k hk => X.keep k hk fun b hb => by rw [h b] at hb; cases hb
variable {K : Type}
def Reads (P : Program) (H : Heap) : Nat→TypeId→List Value→DataW K→Prop
 | 0,_,_,_ => False
 | f + 1,t,acs,d => match P.underlying t with
   | some .bool => ∃ b,acs = [.bool b]∧d = .lit (.bool b)
   | some (.int k) => ∃ n,acs = [.int k n]∧(Lit.int k n).wf = true∧d = .lit (.int k n)
   | some (.slice e) => (acs = [.slice none 0 0] ∧ d = .nil) ∨ (∃ b k, acs = [.slice (some ⟨b, 0, some k⟩) 0 1] ∧ d = .slice [] []) ∨
       ∃ b len cap cells ds sp,acs = [.slice (some ⟨b,0,none⟩) len cap]∧len≤cap∧cap≤maxLen∧d = .slice ds sp∧ds.length = len∧(len = 0∨H[b]? = some (.ro cells))∧cells.length = len * P.cellsOf e ∧
         ∀ i,i < len→∃ di,ds[i]? = some di∧Reads P H f e ((cells.drop (i * P.cellsOf e)).take (P.cellsOf e)) di
   | some (.struct fs) => ∃ ds : List (DataW K),d = .agg ds∧ds.length = fs.size∧∀ (i : Nat) (g : Field),fs.toList[i]? = some g→∃ di,ds[i]? = some di∧Reads P H f g.type ((acs.drop g.offset).take (P.cellsOf g.type)) di
   | _ => False
theorem Reads.more {X : Heap} : ∀ (f : Nat) {t : TypeId} {acs : List Value} {d : DataW K},Reads P H f t acs d→Reads P (H ++ X) f t acs d
 | 0,_,_,_,h => h
 | f + 1,t,acs,d,h => by
   unfold Reads at h ⊢
   split at h
   · exact h
   · exact h
   · rename_i e hu
     rcases h with h | h | ⟨b,len,cap,cells,ds,sp,h1,h2,h2',h3,h4,h5,h6,h7⟩
     · exact .inl h
     · exact .inr (.inl h)
     · refine .inr (.inr ⟨b,len,cap,cells,ds,sp,h1,h2,h2',h3,h4,?_,h6,fun i hi => ?_⟩)
       · rcases h5 with h5 | h5
         · exact .inl h5
         · exact .inr (by rw [List.getElem?_append_left (List.getElem?_eq_some_iff.1 h5).1]; exact h5)
       · obtain ⟨di,k1,k2⟩ := h7 i hi
         exact ⟨di,k1,k2.more f⟩
   · obtain ⟨ds,h1,h2,h3⟩ := h
     refine ⟨ds,h1,h2,fun i g hg => ?_⟩
     obtain ⟨di,k1,k2⟩ := h3 i g hg
     exact ⟨di,k1,k2.more f⟩
   · exact h
structure Got (P : Program) (w : World) (ρ : Ren) (H : Heap) (ρ' : Ren) (H' : Heap) : Prop where
 ext : ∃ X,H' = H ++ X
 agree : Agree H.length ρ ρ'
 rel : Rel ρ' H' w
 still : Still H'
theorem Got.refl (R : Rel ρ H w) (h : Still H) : Got P w ρ H ρ H := ⟨⟨[],by simp⟩,Agree.refl _ _,R,h⟩
theorem Got.trans {ρ1 ρ2 : Ren} {H1 H2 : Heap} (h : Got P w ρ H ρ1 H1) (k : Got P w ρ1 H1 ρ2 H2) : Got P w ρ H ρ2 H2 := by
 obtain ⟨X,rfl⟩ := h.ext
 obtain ⟨Y,rfl⟩ := k.ext
 exact ⟨⟨X ++ Y,by simp⟩,h.agree.trans k.agree (by simp),k.rel,k.still⟩
theorem Got.len {ρ1 : Ren} {H1 : Heap} (h : Got P w ρ H ρ1 H1) : H.length≤H1.length := by obtain ⟨X,rfl⟩ := h.ext; simp
section
variable {enc : TypeId × Value→K} {held : Bool}
end
end Go.Pier
namespace Go.Pier
open Go
variable {P : Program} {ρ : Ren} {H H' : Heap} {w : World} {f : FuncId} {args args0 : List Value} {H0 : Heap}
theorem Rel.keep {w' : World} (R : Rel ρ H w) (hsz : w.heap.size≤w'.heap.size) (hk : ∀ k,k < w.heap.size→w'.heap[k]? = w.heap[k]?) : Rel ρ H w' :=
 ⟨fun b o hb => by
   have h := R.obj b o hb
   have hlt := (List.getElem?_eq_some_iff.1 hb).1
   cases ho : o with
   | gone => trivial
   | _ =>
     rw [← ho]
     refine ObjOk.move (Agree.refl H.length ρ) hlt (R.scp b o hb) ?_ (Below'.of hsz fun cs e k hk' => hk k (by subst e; have := h.2.1; omega)) h
     by_cases hg : o = .gone
     · exact .inl hg
     · right
       refine hk _ ?_
       subst ho
       first
         | exact Nat.lt_of_lt_of_le h.1 h.2.1
         | exact h.1
         | (obtain ⟨_,cs',t,h1,_⟩ := h; exact (Array.getElem?_eq_some_iff.1 h1).1)
         | exact (Array.getElem?_eq_some_iff.1 h).1
         | exact (Array.getElem?_eq_some_iff.1 h.2).1
         | (obtain ⟨fn,df,h1⟩ := h; exact (Array.getElem?_eq_some_iff.1 h1).1),R.inj,R.sep,R.deep,R.scp⟩
def intOf : Value→Int | .int _ n => n | _ => 0
def intsOf (cs : List Value) : List Int := cs.map intOf
def cellsOf (H : Heap) (b : Nat) : Option (List Value) := match H[b]? with
 | some (.ro cs) => some cs
 | some (.rw cs _) => some cs
 | _ => none
def sliceInts (k : IntKind) (H : Heap) (v : Value) : Option (Prop × List Int) :=
 match v with
 | .slice (some a) n c => match cellsOf H a.block with
   | some cs => some ((cs.drop a.off).take n = (((intsOf cs).drop a.off).take n).map (.int k)∧a.off + n≤cs.length∧std a c = true,((intsOf cs).drop a.off).take n)
   | none => none
 | _ => none
theorem cellsOf_at (R : Rel ρ H w) {b : Nat} {cs : List Value} (h : cellsOf H b = some cs) : ρ.φ b < w.heap.size∧∀ (i : Nat) (v : Value),cs[i]? = some v→w.cell? ⟨ρ.φ b,ρ.δ b + i,none⟩ = some (ren1 ρ v) := by
 unfold cellsOf at h
 split at h <;> cases h
 · rename_i hb
   exact R.obj _ _ hb
 · rename_i r hb
   obtain ⟨_,cs',t,h1,h2,_⟩ := R.obj _ _ hb
   refine ⟨(Array.getElem?_eq_some_iff.1 h1).1,fun i v hi => ?_⟩
   simp only [World.cell?,h1]
   exact h2 i v hi
inductive Arg where
 | plain (v : Value)
 | ints (k : IntKind) (l : List Int)
 | hole (s : Option Nat)
def canonA (caps : Nat→Nat) : Nat→List Arg→List Value
 | _,[] => []
 | i,.plain v :: r => v :: canonA caps i r
 | i,.ints _ l :: r => .slice (some ⟨i,0,none⟩) l.length (caps i) :: canonA caps (i + 1) r
 | i,.hole s :: r => .slice (some ⟨i,0,s⟩) 0 (caps i) :: canonA caps (i + 1) r
def canonH : List Arg→Heap
 | [] => []
 | .plain _ :: r => canonH r
 | .ints k l :: r => .ro (l.map (.int k)) :: canonH r
 | .hole _ :: r => .gone :: canonH r
def ReadA (H : Heap) : List Arg→List Value→Prop
 | [],[] => True
 | .plain u :: r,v :: vs => u = v∧sc 0 v = true∧ReadA H r vs
 | .ints k l :: r,v :: vs => (∃ φ,sliceInts k H v = some (φ,l)∧φ)∧ReadA H r vs
 | .hole s :: r,v :: vs => (∃ b c,v = .slice (some ⟨b,0,s⟩) 0 c)∧ReadA H r vs
 | _,_ => False
end Go.Pier
namespace Go.Pier
open Go
variable {P : Program} {ρ : Ren} {H H' : Heap} {w : World} {f : FuncId}
def plainNew (N : Heap) : Prop := ∀ (j : Nat) (o : AObj),N[j]? = some o→o = .gone∨∃ cs r,o = .rw cs r∧cs.all (sc1 0) = true
def Alike (k : Nat) (ρ : Ren) (b : Nat) (ρ' : Ren) (c : Nat) : Prop := ∀ j,j < k→ρ.φ (b + j) = ρ'.φ (c + j)∧ρ.δ (b + j) = ρ'.δ (c + j)∧ρ.κ (b + j) = ρ'.κ (c + j)
end Go.Pier
