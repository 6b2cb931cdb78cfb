import Derived.Test.YtbhpfkfedannjaaPierKM10
import Derived.KernelRfl
import Derived.Test.YtbhpfkfedannjaaPierKM1
set_option linter.unusedSimpArgs false
set_option linter.unusedVariables false
set_option maxRecDepth 100000
namespace Go.Pier.Rd
open Go Go.Pier Go.Proofs
theorem wkC_ok {b : Int} {n c : Nat} {l : List Int} {bv : Value} {P : Heap→Prop} {o : Nat→Bool} (h : ∀ H,P H→Call Try.prog 46 [pierV b (some ⟨0,0,none⟩) n c,bv] H fun v H' => v = newS H.length n∧H' = H ++ [rws (wL n (lefts b n l) o n)]) :
   ∀ args H φ v H' lg,wkCt b n c l bv P o args H = some (φ,v,H',lg)→Asks φ→Call Try.prog 46 args H (fun v' H2 => v' = v∧H2 = H')∧Kept H H' lg := by
 intro args H φ v H' lg hh hφ
 unfold wkCt at hh
 cases hh
 obtain ⟨rfl,hp⟩ := hφ
 exact ⟨h H hp,kept_app⟩
theorem fnD_ok : VOk Try.prog fnD := ⟨CtOk.none.add rcpG_ok,ccIn_ok E0_ok mixed (inl_one Try.func17),E0_ok.yc,prE1_ok.orc⟩
theorem u16_wf {n : Int} (h : (Lit.int .u16 n).wf = true) : 0≤n∧n < 65536 := by
 simp only [Lit.wf,Bool.and_eq_true,decide_eq_true_eq] at h
 have h1 : IntKind.u16.min = 0 := rfl
 have h2 : IntKind.u16.max = 65535 := rfl
 rw [h1,h2] at h
 omega
theorem dy_hole {s : Option Nat} {k d : Nat} (σ : Nat→Nat) (h : σ 1 = 1) : nmap σ (Value.slice (some ⟨1,0,s⟩) k d) = .slice (some ⟨1,0,s⟩) k d := by
 show Value.slice (some ⟨σ 1,0,s⟩) k d = _
 rw [h]
end Go.Pier.Rd
namespace Go.Pier
open Go
variable {P : Program} {N : Nat} {H : Heap}
def splitC : Nat→Code→Option (Code × Code)
 | 0,.seq a b => some (a,b)
 | k + 1,.seq a b => match splitC k b with
   | some (x,y) => some (.seq a x,y)
   | none => none
 | _,_ => none
def headC (k : Nat) (c : Code) : Code := match splitC k c with | some q => q.1 | none => .skip
def tailC (k : Nat) (c : Code) : Code := match splitC k c with | some q => q.2 | none => .skip
def isSplit (k : Nat) (c : Code) : Bool := match splitC k c with | some _ => true | none => false
def cutK {X : Type} (n0 : Nat) (σ : Nat→Nat) (ok : X→Prop) (Fx : X→Fr) (Hx : X→Heap) (K : KD) : KD
 | .normal => fun _ F H => ∃ y,Ob (ok y)∧Reach n0 σ F H (Fx y) (Hx y)
 | e => K e
theorem vc_cut {E : VEnv} (hct : VOk P E) (hm : P.follows .mixedOrders = true) {n0 : Nat} {ro : Option Nat} {X : Type} {σ : Nat→Nat} {ok : X→Prop} {Fx : X→Fr} {Hx : X→Heap} {K : KD} :
   ∀ (k : Nat) {inv : Nat→Option LInv} {c x y : Code} {D : Dec} {F : Fr} {H : Heap},splitC k c = some (x,y)→vc P E n0 N (vTop ro) inv x D F H (cutK n0 σ ok Fx Hx K) →
     (∀ z,ok z→VW n0 N ro P y (Hx z) (Fx z) (fun e F H => ∃ D,K e D F H))→VW n0 N ro P c H F (fun e F H => ∃ D,K e D F H)
 | 0,inv,.seq a b,x,y,D,F,H,hs,h,h2 => by
   cases hs
   refine VW.seq ((vc_sound hct hm _ D F H _ h).mono fun e F H ⟨D,h1⟩ => ?_)
   cases e with
   | normal =>
     obtain ⟨z,hz,hr⟩ := h1
     exact fun base ρ0 H0 w0 a w hn hA => h2 z hz.out base ρ0 H0 w0 a w hn (hA.reach hn hr)
   | exit id => exact ⟨D,h1⟩
   | ret => exact ⟨D,h1⟩
 | k + 1,inv,.seq a b,x,y,D,F,H,hs,h,h2 => by
   have ⟨x',hs',hx⟩ : ∃ x',splitC k b = some (x',y)∧x = .seq a x' := by
     unfold splitC at hs
     cases hq : splitC k b with
     | none => rw [hq] at hs; cases hs
     | some q => rw [hq] at hs; cases hs; exact ⟨_,rfl,rfl⟩
   subst hx
   have h : vc P E n0 N (vTop ro) inv a D F H (thenD (fun D F H => vc P E n0 N (vTop ro) inv x' D F H (cutK n0 σ ok Fx Hx K)) (cutK n0 σ ok Fx Hx K)) := h
   refine VW.seq ((vc_sound hct hm a D F H _ h).mono fun e F H ⟨D,h1⟩ => ?_)
   cases e with
   | normal => exact vc_cut hct hm k hs' h1 h2
   | exit id => exact ⟨D,h1⟩
   | ret => exact ⟨D,h1⟩
theorem split_of {k : Nat} {c : Code} (h : isSplit k c = true) : splitC k c = some (headC k c,tailC k c) := by
 unfold isSplit at h
 unfold headC tailC
 split at h
 · rename_i q hq; rw [hq]
 · cases h
theorem Call.ofVW {f : FuncId} {fn : Func} {c : Code} {args : List Value} {R : Value→Heap→Prop} (hf : P.funcs[f]? = some fn) (hb : fn.body = some c)
   (h : VW H.length (args.length + (fn.ntmps - args.length)) none P c H (argFr 0 args) (fun e F H => ∃ D,retK P fn R e D F H)) : Call P f args H R := fun ρ w RR hs => by
 refine (callsIn_wide (n := 0)).1 (callsIn_of_wp_marks hf hb trivial ?_)
 have hsz : (args.map (ren ρ)).toArray.size = args.length := by simp
 let a : Act := { tmps := (args.map (ren ρ)).toArray ++ Array.replicate (fn.ntmps - (args.map (ren ρ)).toArray.size) undef,defers := [] }
 have hFr : FrOk (args.length + (fn.ntmps - args.length)) H.length ρ (argFr 0 args) a := by
   refine ⟨by simp [a],fun k v hk => ?_⟩
   obtain ⟨_,h2⟩ := argFr_get args 0 k v hk
   rw [Nat.sub_zero] at h2
   have hlt := (List.getElem?_eq_some_iff.1 h2).1
   refine ⟨?_,List.all_eq_true.1 hs v (List.mem_of_getElem? h2)⟩
   rw [Array.getD_eq_getD_getElem?,Array.getElem?_append_left (by simpa using hlt)]
   simp [h2]
 have hA : At (args.length + (fn.ntmps - args.length)) w.heap.size ρ H w H (argFr 0 args) a w := ⟨ρ,RR,Ext.refl _ _ _,hFr,⟨Nat.le_refl _,List.Pairwise.nil,by simp [a]⟩⟩
 refine wpIn_mono (F := Fence.wide) (n := 0) (h w.heap.size ρ H w a w rfl hA) ?_
 rintro e a' w' ⟨x,F',H',rfl,⟨D,hk⟩,hA'⟩
 have key : (∃ φ v,fresults P fn F' H' = some (φ,v)∧AskAll φ∧R v H')→LeavesInM Fence.wide 0 P fn a'.tmps (fun e w' => ∃ ρ' v H',e = .returned (ren ρ' v)∧R v H'∧Rel ρ' H' w'∧Ext ρ H w ρ' H' w'∧sc H'.length v = true) a'.defers .returning w' := by
   rintro ⟨φ,v,h1,h2,h3⟩
   obtain ⟨ρ',R',X',hF',M'⟩ := hA'.ex
   refine leaves (fun w2 R2 X2 => ?_) a'.defers w' R' X' M'
   obtain ⟨r1,r2⟩ := fresults_sound (P := P) (w := w2) R2 hF' h1 h2
   exact ⟨_,r1,ρ',v,H',rfl,h3,R2,X2,r2⟩
 have hr' : (x = .normal∨x = .ret)∧(match fresults P fn F' H' with | some (φ,v) => AskAll φ∧Ob (R v H') | none => False) := by
   cases x with
   | normal => exact ⟨.inl rfl,hk⟩
   | ret => exact ⟨.inr rfl,hk⟩
   | exit id => exact hk.elim
 have hr : ∃ φ v,fresults P fn F' H' = some (φ,v)∧AskAll φ∧R v H' := by
   have hr2 := hr'.2
   split at hr2
   · rename_i φ v he; exact ⟨φ,v,he,hr2.1,hr2.2.out⟩
   · exact hr2.elim
 cases x with
 | normal => exact key hr
 | ret => exact key hr
 | exit id => rcases hr'.1 with hx | hx <;> cases hx
theorem Call.hole {f : FuncId} {args : List Value} {A : Value→Prop} (hs : args.all (sc H.length) = true) (h : Call P f args (H ++ [.gone]) (fun v _ => A v)) : Call P f args H (fun v _ => A v) := fun ρ w R hs' => by
 obtain ⟨R1,X1⟩ := R.bindDeep (o := .gone) (p := 0) (off := 0) (k := 0) (.inl rfl) rfl trivial
 have e : args.map (ren (ρ.bind H.length 0 0 0)) = args.map (ren ρ) := List.map_congr_left fun v hv => ren_agree X1.agreeN (List.all_eq_true.1 hs v hv)
 have := h _ w R1 (List.all_eq_true.2 fun v hv => sc_mono (by simp) (List.all_eq_true.1 hs v hv))
 rw [e] at this
 exact this.mono fun _ _ ⟨ρ',v,H',h1,h2,h3,h4,h5⟩ => ⟨ρ',v,H',h1,h2,h3,X1.trans h4,h5⟩
end Go.Pier
