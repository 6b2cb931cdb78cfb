import Derived.Test.YtbehncpoppoglaaPierKD4
import Derived.Test.YtbehncpoppoglaaPierFlwk
import Derived.KernelRfl
import Derived.Test.YtbehncpoppoglaaPierKD2
set_option linter.unusedSimpArgs false
set_option linter.unusedVariables false
set_option maxRecDepth 100000
namespace Go.Pier.Fl
open Go Go.Pier Go.Proofs
noncomputable def atB : Code := Try.f50.body.getD .skip
def amt (w : Int) : Int := w % 301
noncomputable def atV :=
fun (w:Int)↦Ob ((301:Int)≠(0:Int))∧True∧Ob (vi ((IntKind.i64.wrap w).tmod (301:Int))=vi (amt w))
theorem atV_eq : atV = fun (w : Int) => vc Try.prog {} 0 6 true (fun _ => none) atB [] (argFr 0 [.int .u16 w]) [] (retK Try.prog Try.f50 (fun v _ => v = vi (amt w))) := by kernel_rfl
def atS (r : List Arg) : Prop × Value := match r with
 | [.plain (.int .u16 w)] => (0≤w∧w < 65536,vi (amt w))
 | _ => (False,undef)
def worksS (r : List Arg) : Prop × Value := match r with | [] => (True,.bool true) | _ => (False,undef)
def isTrue (v : Value) (_ : Heap) : Prop := v = .bool true
theorem atV_ok (w : Int) (h : 0≤w∧w < 65536) : atV w := by
 unfold atV
 simp only [SS,reduceCtorEq,Arg.list,Arg.num,Arg.flag,intOf,andP,Nat.reduceLeDiff,Nat.reduceAdd,Nat.reduceMul,Nat.reduceLT]
 rw [wrap_in (by omega) (by omega),Int.tmod_eq_emod_of_nonneg h.1]
 exact ⟨by decide,rfl⟩
theorem amt_rng (w : Int) : 0≤amt w∧amt w≤300 := by unfold amt; omega
theorem worksG_ok : ∀ args H φ v H' l,pureG [] worksS args H = some (φ,v,H',l)→Asks φ→Call Try.prog 19 args H (fun v' H2 => v' = v∧H2 = H')∧Kept H H' l :=
 closedG_ok (works_ok.call.mono fun v H h => h.1) rfl
theorem atG_ok : ∀ args H φ v H' l,pureG [.int .u16] atS args H = some (φ,v,H',l)→Asks φ→Call Try.prog 50 args H (fun v' H2 => v' = v∧H2 = H')∧Kept H H' l :=
 pureG_ok fun r hk hs => match r,hk with
   | [_],⟨⟨w,ha⟩,_⟩ => by
     subst ha
     exact ⟨rfl,fun caps => Call.ofVc E0_ok mixed (c := atB) (inv := fun _ => none) Try.func50 (by kernel_rfl) (cast (congrFun atV_eq w) (atV_ok w hs))⟩
theorem u16_wfA {n : Int} (h : (Lit.int .u16 n).wf = true) : 0≤n∧n < 65536 := by
 simp only [Lit.wf,Bool.and_eq_true,decide_eq_true_eq] at h
 have h1 : IntKind.u16.min = 0 := rfl
 have h2 : IntKind.u16.max = 65535 := rfl
 rw [h1,h2] at h
 omega
end Go.Pier.Fl
namespace Go.Pier
open Go
variable {P : Program} {H : Heap} {f : FuncId}
def roomy (H : Heap) : Value→Option (Option Prop)
 | .slice (some a) m c => match a.spot with
   | none => some (some (m≤c))
   | some k => match c with
     | 0 => match H[a.block]? with
       | some (.rw cs (some 1)) => some (some (k + m≤cs.length∧0 < m))
       | _ => none
     | _ + 1 => some none
 | _ => some none
def rooms (H : Heap) : List Value→Option (Option Prop)
 | [] => some none
 | v :: vs => match roomy H v with
   | some φ => match rooms H vs with
     | some ψ => some (andO φ ψ)
     | none => none
   | none => none
def capsOk (caps : Nat→Nat) : Nat→List Arg2→Prop
 | _,[] => True
 | i,.val _ :: r => capsOk caps i r
 | i,.ints _ l :: r => l.length≤caps i∧capsOk caps (i + 1) r
 | i,.hole s :: r => (s.isSome = true→0 < caps i)∧capsOk caps (i + 1) r
theorem roomy_ok {ρ ρ1 : Ren} {w : World} (R : Rel ρ H w) {k : IntKind} {v : Value} {ψ : Option Prop} {l : List Int} {i c : Nat} {p : Prop} (hs : sliceInts k H v = some (p,l)) (hp : p)
   (hr : roomy H v = some ψ) (hψ : Asks ψ) (he : ren ρ1 (.slice (some ⟨i,0,none⟩) l.length c) = ren ρ v) : l.length≤c := by
 unfold sliceInts at hs
 split at hs <;> try (cases hs; done)
 rename_i a n c'
 split at hs <;> simp only [Option.some.injEq,Prod.mk.injEq,reduceCtorEq] at hs
 rename_i cs hc
 obtain ⟨rfl,rfl⟩ := hs
 obtain ⟨h1,h2,h3⟩ := hp
 have hlen : (((intsOf cs).drop a.off).take n).length = n := by
   rw [List.length_take,List.length_drop,intsOf,List.length_map]; omega
 have he2 : c = ρ.cap a c' := by
   have h0 : Value.slice (some (Ren.adr ρ1 ⟨i,0,none⟩ c)) (((intsOf cs).drop a.off).take n).length (Ren.cap ρ1 ⟨i,0,none⟩ c) = Value.slice (some (Ren.adr ρ a c')) n (Ren.cap ρ a c') := he
   exact (Value.slice.inj h0).2.2
 rw [hlen,he2]
 unfold roomy at hr
 unfold Ren.cap
 cases ha : a.spot with
 | none =>
   simp only [ha,Option.some.injEq] at hr
   subst hr
   exact hψ
 | some k' =>
   cases c' with
   | succ c' => unfold std at h3; rw [ha] at h3; cases h3
   | zero =>
     simp only [ha] at hr
     split at hr <;> simp only [Option.some.injEq,reduceCtorEq] at hr
     rename_i cs2 hb
     subst hr
     obtain ⟨_,cs',t,_,_,h5,h6⟩ := R.obj _ _ hb
     have h7 : k' + n≤cs2.length := (show k' + n≤cs2.length∧0 < n from hψ).1
     simp only
     omega
theorem rooms_ok {ρ ρ1 : Ren} {w : World} (R : Rel ρ H w) {σ : Nat→Nat} {B : List Nat} {m : Nat} {caps : Nat→Nat} : ∀ {ags : List Arg2} {vs : List Value} {i : Nat} {φ : Option Prop},ReadA2 H σ B m ags vs→rooms H vs = some φ→Asks φ →
   (canonA2 caps i ags).map (ren ρ1) = vs.map (ren ρ)→capsOk caps i ags
 | [],_,_,_,_,_,_,_ => trivial
 | .val _ :: _,[],_,_,h,_,_,_ => h.elim
 | .ints _ _ :: _,[],_,_,h,_,_,_ => h.elim
 | .hole _ :: _,[],_,_,h,_,_,_ => h.elim
 | a :: r,v :: vs,i,φ,h,hr,hφ,he => by
   unfold rooms at hr
   split at hr <;> try (cases hr; done)
   rename_i φ1 h1
   split at hr <;> cases hr
   rename_i φ2 h2
   obtain ⟨k1,k2⟩ := andO_iff.1 hφ
   cases a with
   | val u =>
     simp only [canonA2,List.map_cons,List.cons.injEq] at he
     exact rooms_ok (ags := r) R (show ReadA2 H σ B m r vs from h.2.2) h2 k2 he.2
   | ints k l =>
     simp only [canonA2,List.map_cons,List.cons.injEq] at he
     obtain ⟨⟨p,hs,hp⟩,_,h3⟩ := h
     exact ⟨roomy_ok R hs hp h1 k1 he.1,rooms_ok (ags := r) R h3 h2 k2 he.2⟩
   | hole s =>
     simp only [canonA2,List.map_cons,List.cons.injEq] at he
     refine ⟨fun hs => ?_,rooms_ok (ags := r) R (show ReadA2 H σ B m r vs from h.2) h2 k2 he.2⟩
     obtain ⟨⟨b,c,rfl⟩,_⟩ := h
     cases s with
     | none => cases hs
     | some k =>
       cases c with
       | zero =>
         unfold roomy at h1
         simp only at h1
         split at h1 <;> simp only [Option.some.injEq,reduceCtorEq] at h1
         subst h1
         exact absurd (show 0 + 0 < 0 from by have : _∧0 < 0 := k1; exact this.2) (by omega)
       | succ c =>
         rcases Nat.eq_zero_or_pos (caps i) with h0 | h0
         · rw [h0] at he
           have h4 : Value.slice (some (Ren.adr ρ1 ⟨i,0,some k⟩ 0)) 0 (Ren.cap ρ1 ⟨i,0,some k⟩ 0) = Value.slice (some (Ren.adr ρ ⟨b,0,some k⟩ (c + 1))) 0 (Ren.cap ρ ⟨b,0,some k⟩ (c + 1)) := he.1
           have h5 := congrArg Addr.spot (Option.some.inj (Value.slice.inj h4).1)
           simp [Ren.adr,Ren.addr] at h5
         · exact h0
theorem rooms_of {K : Type} {t : TypeId} {v : Value} {d : DataW K} {p : PK} (hp : pkOf P t = some p) (h : ReadsV P H t v d) : ∃ φ,roomy H v = some φ∧Asks φ := by
 obtain ⟨hs,f,hr⟩ := h
 unfold pkOf at hp
 cases f with
 | zero => exact hr.elim
 | succ f =>
 unfold shapeV at hs
 unfold Reads at hr
 split at hp
 · rename_i hu
   rw [hu] at hs hr
   simp only at hs hr
   rw [cells_plain hs] at hr
   obtain ⟨b,hb,_⟩ := hr
   cases hb
   exact ⟨none,rfl,trivial⟩
 · rename_i k hu
   rw [hu] at hs hr
   simp only at hs hr
   rw [cells_plain hs] at hr
   obtain ⟨n,hb,hw,_⟩ := hr
   cases hb
   exact ⟨none,rfl,trivial⟩
 · rename_i e hu
   rw [hu] at hs hr
   simp only at hs hr
   rw [cells_plain hs] at hr
   rcases hr with ⟨h1,_⟩ | ⟨b,s,h1,_⟩ | ⟨b,len,cap,cells,ds,sp,h1,h2,_⟩
   · cases h1; exact ⟨none,rfl,trivial⟩
   · cases h1; exact ⟨none,rfl,trivial⟩
   · cases h1; exact ⟨some (len≤cap),rfl,h2⟩
 · cases hp
theorem roomsAll {K : Type} : ∀ {ts : List TypeId} {ps : List PK} {vs : List Value} {ds : List (DataW K)},pksOf P ts = some ps→ReadsAll P H ts vs ds→∃ φ,rooms H vs = some φ∧Asks φ
 | [],_,[],_,_,_ => ⟨none,rfl,trivial⟩
 | [],_,_ :: _,[],_,h => h.elim
 | [],_,_ :: _,_ :: _,_,h => h.elim
 | _ :: _,_,[],_,_,h => h.elim
 | _ :: _,_,_ :: _,[],_,h => h.elim
 | t :: ts,ps,v :: vs,d :: ds,hp,h => by
   unfold pksOf at hp
   split at hp <;> try (cases hp; done)
   rename_i p q h1 h2
   obtain ⟨φ,k1,k2⟩ := rooms_of h1 h.1
   obtain ⟨ψ,k3,k4⟩ := roomsAll h2 h.2
   exact ⟨andO φ ψ,by unfold rooms; rw [k1,k3],andO_iff.2 ⟨k2,k4⟩⟩
theorem Call.ofArgsC {f : FuncId} {C : (Nat→Nat)→Prop} {v0 : Value} {ags : List Arg} {vs : List Value} (hr : ReadA H ags vs) (hC : ∀ caps ρ w ρ1,Rel ρ H w→(canonA caps 0 ags).map (ren ρ1) = vs.map (ren ρ)→C caps)
   (h : ∀ caps,C caps→Call P f (canonA caps 0 ags) (canonH ags) fun v _ => v = v0) (hv : sc 0 v0 = true) : Call P f vs H fun v H' => v = v0∧H' = H := fun ρ w R _ => by
 have R00 : Rel ρ [] w := ⟨fun b o hb => by simp at hb,fun b b' hb => by simp [wr] at hb,fun b b' hb => by simp [isRo] at hb,fun b b' hb => by simp [isMix] at hb,fun b o hb => by simp at hb⟩
 obtain ⟨ρ0,caps,_,R0,hst,e,s0⟩ := handAll R ags vs ρ [] hr R00 Still.nil
 simp only [List.nil_append,List.length_nil] at R0 hst e s0
 have := h caps (hC caps ρ w ρ0 R e) ρ0 w R0 s0
 rw [e] at this
 refine this.mono ?_
 rintro e' w' ⟨ρ',v,H',rfl,rfl,R',X,s'⟩
 have hk := hst.kept X
 exact ⟨ρ,v,H,by rw [ren_closed hv,ren_closed hv],⟨rfl,rfl⟩,R.keep X.size hk,Ext.keep' X.size hk X.os X.tape X.output,sc_mono (Nat.zero_le _) hv⟩
theorem law_ofC {K : Type} {f : FuncId} {ts : List TypeId} {ps : List PK} (hp : pksOf P ts = some ps) (h : ∀ r,fitsAll ps r→∀ caps,capsOk caps 0 (r.map Arg.two)→Call P f (canonA caps 0 r) (canonH r) fun v _ => v = .bool true) :
   ∀ (H : Heap) (avs : List Value) (ds : List (DataW K)),Still H→ReadsAll P H ts avs ds→Call P f avs H fun v _ => v = .bool true := fun H avs ds _ hr => by
 obtain ⟨r,h1,h2⟩ := readsAll_args hp hr
 obtain ⟨φ,h3,h4⟩ := roomsAll hp hr
 exact (Call.ofArgsC (C := fun caps => capsOk caps 0 (r.map Arg.two)) h2 (fun caps ρ w ρ1 R he => rooms_ok R (read_two (σ := fun c => c) rfl h2) h3 h4 (by rw [canonA_two]; exact he)) (h r h1) rfl).mono fun v H hv => hv.1
end Go.Pier
