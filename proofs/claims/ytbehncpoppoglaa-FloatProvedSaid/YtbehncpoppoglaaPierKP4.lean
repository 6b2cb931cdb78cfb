import Derived.Test.YtbehncpoppoglaaPierFlrp
import Derived.KernelRfl
import Derived.Test.YtbehncpoppoglaaPierKP3
import Derived.Test.YtbehncpoppoglaaPierKP2
set_option linter.unusedSimpArgs false
set_option linter.unusedVariables false
set_option maxRecDepth 100000
namespace Go.Pier.Fl
open Go Go.Pier Go.Proofs
noncomputable def fiB : Code := Try.f78.body.getD .skip
noncomputable def laB : Code := Try.f99.body.getD .skip
noncomputable def caB : Code := Try.f93.body.getD .skip
noncomputable def fiV0 (l:List Int) := (List.map (Value.int IntKind.i64) l)
noncomputable def fiV :=
fun (l:List Int) (c:Nat)↦Ob ((0:Int)≤(0:Int)∧(0:Int)<(l.length:Int)∧true=true)∧Ob (IntAt IntKind.i64 (fiV0 l) 0)∧(Ob (AObj.ro (fiV0 l)=AObj.ro (List.map (nmap1 fun (b:Nat)↦b) (fiV0 l))∧AObj.sc 1 (AObj.ro (fiV0 l))=true)∧True)∧Ob (getI (fiV0 l) 0=l.getD 0 (0:Int))∧True
noncomputable def laV0 (l:List Int) := (List.map (Value.int IntKind.i64) l)
noncomputable def laV1 (l:List Int) := (0+(IntKind.i64.wrap ((l.length:Int)-(1:Int))).toNat * 1)
noncomputable def laV :=
fun (l:List Int) (c:Nat)↦Ob ((0:Int)≤IntKind.i64.wrap ((l.length:Int)-(1:Int))∧IntKind.i64.wrap ((l.length:Int)-(1:Int))<(l.length:Int)∧true=true)∧Ob (IntAt IntKind.i64 (laV0 l) (laV1 l))∧(Ob (AObj.ro (laV0 l)=AObj.ro (List.map (nmap1 fun (b:Nat)↦b) (laV0 l))∧AObj.sc 1 (AObj.ro (laV0 l))=true)∧True)∧Ob (getI (laV0 l) (laV1 l)=lastF l)∧True
noncomputable def caV :=
fun (a:Int)↦(Ob (AObj.rw [ptr0 0] none=AObj.rw [ptr0 0] none∧true=true)∧Ob (AObj.rw [vi a] none=AObj.rw [vi a] none∧true=true)∧True)∧Ob (Value.func (Fn.func 104) ⟨[]⟩ ⟨[ptr0 2,ptr0 1]⟩=Value.func (Fn.func (104:FuncId)) ⟨[]⟩ ⟨[ptr0 2,ptr0 1]⟩)∧True
theorem caV_eq : caV = fun (a : Int) => vc Try.prog {} 1 6 true (fun _ => none) caB [] (argFr 0 [ptr0 0,vi a]) [.gone] (retR Try.prog Try.f93 1 (fun b => b) (.func (.func 104) #[] #[ptr0 2,ptr0 1]) [.gone,.rw [ptr0 0] none,.rw [vi a] none]) := by kernel_rfl
def negO : AObj := .rw [vi (-1)] none
def rpCc : Cc := fun f args H => match Nat.beq f 98 with
 | true => match args with
   | [.slice (some ⟨b,0,none⟩) 1 1,.int .i64 v] => some fun Q => Ob (H[b]? = some negO∧1≤v∧v≤50)∧Q (.slice (some ⟨H.length,0,none⟩) v.toNat v.toNat) (H ++ [.rw ((List.replicate v.toNat (-1)).map (.int .i64)) none])
   | _ => none
 | false => none
theorem fiV_ok (l : List Int) (c : Nat) (h : 0 < l.length) : fiV l c := by
 unfold fiV fiV0
 simp only [SS,reduceCtorEq,Arg.list,Arg.num,Arg.flag,intOf,andP,Nat.reduceLeDiff,Nat.reduceAdd,Nat.reduceMul,Nat.reduceLT]
 exact ⟨⟨by omega,by omega⟩,h⟩
theorem laV_ok (l : List Int) (c : Nat) (h : 0 < l.length) (h5 : l.length≤5) : laV l c := by
 unfold laV laV1 laV0
 have w : IntKind.i64.wrap ((l.length : Int) - 1) = ((l.length - 1 : Nat) : Int) := by rw [wrap_in (by omega) (by omega)]; omega
 simp only [SS,reduceCtorEq,Arg.list,Arg.num,Arg.flag,intOf,andP,Nat.reduceLeDiff,Nat.reduceAdd,Nat.reduceMul,Nat.reduceLT,w]
 exact ⟨⟨by omega,by omega⟩,by omega,rfl⟩
theorem fi_call (l : List Int) (c : Nat) (h : 0 < l.length) : Call Try.prog 78 [.agg #[.slice (some ⟨0,0,none⟩) l.length c]] [ros l] fun v H' => v = vi (l.getD 0 0)∧H' = [ros l] :=
 Call.ofVcR (E := {}) (H := [ros l]) (args := [.agg #[.slice (some ⟨0,0,none⟩) l.length c]]) (σ := fun b => b) (v2 := vi (l.getD 0 0)) (H2 := [ros l]) E0_ok mixed (c := fiB) (inv := fun _ => none) Try.func78 (by kernel_rfl) (cast (by kernel_rfl) (fiV_ok l c h))
theorem la_call (l : List Int) (c : Nat) (h : 0 < l.length) (h5 : l.length≤5) : Call Try.prog 99 [.agg #[.slice (some ⟨0,0,none⟩) l.length c]] [ros l] fun v H' => v = vi (lastF l)∧H' = [ros l] :=
 Call.ofVcR (E := {}) (H := [ros l]) (args := [.agg #[.slice (some ⟨0,0,none⟩) l.length c]]) (σ := fun b => b) (v2 := vi (lastF l)) (H2 := [ros l]) E0_ok mixed (c := laB) (inv := fun _ => none) Try.func99 (by kernel_rfl) (cast (by kernel_rfl) (laV_ok l c h h5))
def kiCt (l : List Int) (F : Value) : List Value→Heap→Option (Option Prop × Value × Heap × List Nat) := fun args H => match args with
 | [.agg ⟨[.slice (some ⟨0,0,none⟩) n _]⟩] => some (some (H[0]? = some (ros l)∧n = l.length∧0 < l.length∧l.length≤5),F,H,[])
 | _ => none
theorem kiCt_ok {f : FuncId} {l : List Int} {F : Value} (hF : sc 0 F = true) (hcall : ∀ (c : Nat),0 < l.length→l.length≤5→Call Try.prog f [.agg #[.slice (some ⟨0,0,none⟩) l.length c]] [ros l] fun v H' => v = F∧H' = [ros l]) :
   ∀ args H φ v H' k,kiCt l F args H = some (φ,v,H',k)→Asks φ→Call Try.prog f args H (fun v' H2 => v' = v∧H2 = H')∧Kept H H' k := fun args H φ v H' k h hφ => by
 unfold kiCt at h
 split at h <;> cases h
 rename_i n d
 obtain ⟨h0,rfl,h2,h3⟩ := hφ
 refine ⟨?_,Kept.refl _ _⟩
 have hlt : 0 < H.length := (List.getElem?_eq_some_iff.1 h0).1
 have hc : Call Try.prog f [.agg #[.slice (some ⟨0,0,none⟩) l.length d]] [ros l] fun v H' => v = F∧H' = [ros l] := hcall d h2 h3
 have := Call.frameP (P := Try.prog) (f := f) (Et := [ros l]) (H := H) (L := [0]) (args := [.agg #[.slice (some ⟨0,0,none⟩) l.length d]]) (vs := [.agg #[.slice (some ⟨0,0,none⟩) l.length d]]) (v := F) rfl (by simp) (fun x hx => by simp at hx; omega)
     (fun c o h => ?_) (fun o ho => by rw [List.mem_singleton.1 ho]; exact ros_sc) (fun c o h _ => ?_) (fun o ho => by rw [List.mem_singleton.1 ho]; exact ros_sc) (by simp [nmap,nmap2,nmap1,nmap0,am]) (by simp [sc,sc2,sc1,sc0]) hc (fun o ho => by rw [List.mem_singleton.1 ho]; exact ros_nm) (nm_closed hF) (by rw [nmap_closed hF]; exact sc_mono (Nat.zero_le _) hF)
 · rw [nmap_closed hF] at this
   exact this
 · rcases c with _ | c
   · cases h; exact .inr (by rw [ros_omap]; exact h0)
   · simp at h
 · rcases c with _ | c
   · cases h; exact ⟨by rw [ros_omap,ros_omap],by rw [ros_omap]; exact ros_sc⟩
   · simp at h
noncomputable def kiT (l : List Int) : Ct := (Ct.none.add 78 (kiCt l (vi (l.getD 0 0)))).add 99 (kiCt l (vi (lastF l)))
theorem kiT_ok {l : List Int} : CtOk Try.prog (kiT l) := (CtOk.none.add (kiCt_ok rfl fun c h1 _ => fi_call l c h1)).add (kiCt_ok rfl fun c h1 h2 => la_call l c h1 h2)
abbrev caFn (p1 p2 : Nat) : Value := .func (.func 104) #[] #[ptr0 p1,ptr0 p2]
theorem ca_call (a : Int) : Call Try.prog 93 [ptr0 0,vi a] [.gone] fun v H' => v = caFn 2 1∧H' = [.gone] ++ [.rw [ptr0 0] none,.rw [vi a] none] :=
 Call.ofVcR (E := {}) (H := [.gone]) (args := [ptr0 0,vi a]) (σ := fun b => b) (v2 := caFn 2 1) (H2 := [.gone,.rw [ptr0 0] none,.rw [vi a] none]) E0_ok mixed (c := caB) (inv := fun _ => none) Try.func93 (by kernel_rfl) (cast (congrFun caV_eq a) (by unfold caV; simp only [SS,reduceCtorEq,Arg.list,Arg.num,Arg.flag,intOf,andP,Nat.reduceLeDiff,Nat.reduceAdd,Nat.reduceMul,Nat.reduceLT]))
noncomputable def caCt : List Value→Heap→Option (Option Prop × Value × Heap × List Nat) := fun args H => match args with
 | [.pointer (some ⟨1,0,none⟩),.int .i64 a] => match Nat.blt 1 H.length with
   | true => some (none,caFn (H.length + 1) H.length,H ++ [.rw [ptr0 1] none,.rw [vi a] none],[])
   | false => none
 | _ => none
theorem caCt_ok : ∀ args H φ v H' k,caCt args H = some (φ,v,H',k)→Asks φ→Call Try.prog 93 args H (fun v' H2 => v' = v∧H2 = H')∧Kept H H' k := fun args H φ v H' k0 h hφ => by
 unfold caCt at h
 split at h <;> try (cases h; done)
 rename_i a
 split at h <;> cases h
 rename_i hm
 rw [Nat.blt_eq] at hm
 have e2 : nameL [1] 1 H.length 2 = H.length + 1 := by simp [nameL]
 have e1 : nameL [1] 1 H.length 1 = H.length := by simp [nameL]
 have e0 : nameL [1] 1 H.length 0 = 1 := by simp [nameL]
 have hN : ([.rw [ptr0 0] none,.rw [vi a] none] : Heap).map (omap (nameL [1] 1 H.length)) = [.rw [ptr0 1] none,.rw [vi a] none] := by
   simp [omap,nmap1,nmap0,am,e0]
 have hV : nmap (nameL [1] 1 H.length) (caFn 2 1) = caFn (H.length + 1) H.length := by
   simp [nmap,nmap2,nmap1,nmapA,nmap0,nmapFn,am,e1,e2]
 have := Call.frameG (P := Try.prog) (f := 93) (Et := [.gone]) (Ft := [.gone]) (N := [.rw [ptr0 0] none,.rw [vi a] none]) (H := H) (L := [1]) (args := [ptr0 0,vi a]) (vs := [ptr0 1,vi a]) (v := caFn 2 1) rfl rfl (by simp) (fun x hx => by simp at hx; omega)
   (fun c o h => .inl ?_) (fun o ho => ?_) rfl (by simp [sc,sc2,sc1,sc0]) (ca_call a) (fun o ho => ?_) (fun o ho => ?_) (by simp [nm,nm2,nm1,nm0,nmFn]) (fun o ho => ?_) (by show sc (H.length + 2) (nmap (nameL [1] 1 H.length) (caFn 2 1)) = true; rw [hV]; simp [sc,sc2,sc1,sc0])
 · obtain ⟨t1,_⟩ := this
   rw [show ([AObj.gone] : Heap).length = 1 from rfl,hV,hN] at t1
   exact ⟨t1,Kept.append _ _ _⟩
 · rcases c with _ | c
   · cases h; rfl
   · simp at h
 · simp only [List.mem_cons,List.not_mem_nil,or_false,or_self] at ho; rw [ho]; rfl
 · simp only [List.mem_append,List.mem_cons,List.not_mem_nil,or_false,or_self] at ho
   rcases ho with rfl | rfl | rfl <;> rfl
 · simp only [List.mem_cons,List.not_mem_nil,or_false] at ho
   rcases ho with rfl | rfl <;> rfl
 · simp only [List.mem_append,List.mem_cons,List.not_mem_nil,or_false,or_self] at ho
   rcases ho with rfl | rfl | rfl
   · rfl
   · simp [omap,nmap1,nmap0,am,e0,AObj.sc,sc1,sc0]
   · rfl
theorem rpCc_ok : CcOk Try.prog rpCc := fun f args H T h Q hT => by
 unfold rpCc at h
 split at h <;> try (cases h; done)
 rename_i hf
 obtain rfl := Nat.eq_of_beq_eq_true hf
 split at h <;> cases h
 rename_i b v
 obtain ⟨h1,h2⟩ := hT
 obtain ⟨h0,hv1,hv2⟩ := h1.out
 obtain ⟨n,rfl⟩ := Int.eq_ofNat_of_zero_le (show 0≤v by omega)
 rw [Int.toNat_natCast] at h2
 have hlt : b < H.length := (List.getElem?_eq_some_iff.1 h0).1
 have hcall := (rp_ok (n := n) (by omega)).1
 have e0 : nameL [b] 1 H.length 0 = b := by simp [nameL]
 have e1 : nameL [b] 1 H.length 1 = H.length := by simp [nameL]
 have hcl : (List.replicate n (vi (-1))).all (sc1 0) = true := by simp [sc1,sc0]
 have hom : ∀ σ : Nat→Nat,omap σ (.rw (List.replicate n (vi (-1))) none) = .rw (List.replicate n (vi (-1))) none := fun σ => by
   show AObj.rw ((List.replicate n (vi (-1))).map (nmap1 σ)) none = _
   rw [nmap1_all hcl]
 have := Call.frameG (P := Try.prog) (f := 98) (Et := [.rw [vi (-1)] none]) (Ft := [.rw [vi (-1)] none]) (N := [.rw (List.replicate n (vi (-1))) none]) (H := H) (L := [b]) (args := [.slice (some ⟨0,0,none⟩) 1 1,vi n]) (vs := [.slice (some ⟨b,0,none⟩) 1 1,vi n]) (v := .slice (some ⟨1,0,none⟩) n n) rfl rfl (by simp) (fun x hx => by simp at hx; omega)
   (fun c o h => ?_) (fun o ho => by rw [List.mem_singleton.1 ho]; rfl) rfl (by simp [sc,sc2,sc1,sc0]) hcall (fun o ho => ?_) (fun o ho => by rw [List.mem_singleton.1 ho]; rfl) (by simp [nm,nm2,nm1,nm0]) (fun o ho => ?_) (by simp [nmap,nmap2,nmap1,nmap0,am,e1,sc,sc2,sc1,sc0])
 · obtain ⟨t1,_⟩ := this
   refine t1.mono fun v H' hh => ?_
   obtain ⟨rfl,rfl⟩ := hh
   have hv : nmap (nameL [b] ([AObj.rw [vi (-1)] none] : Heap).length H.length) (.slice (some ⟨1,0,none⟩) n n) = .slice (some ⟨H.length,0,none⟩) n n := by
     show nmap (nameL [b] 1 H.length) _ = _
     simp [nmap,nmap2,nmap1,nmap0,am,e1]
   have hs : setG H [.rw [vi (-1)] none] [b] (([AObj.rw [vi (-1)] none] : Heap).map (omap (nameL [b] ([AObj.rw [vi (-1)] none] : Heap).length H.length))) = H := by
     show H.set b (.rw [vi (-1)] none) = H
     obtain ⟨k1,k2⟩ := List.getElem?_eq_some_iff.1 h0
     rw [← show H[b] = AObj.rw [vi (-1)] none from k2]
     exact List.set_getElem_self k1
   rw [hv,hs,List.map_cons,List.map_nil,hom]
   rw [List.map_replicate] at h2
   exact h2
 · rcases c with _ | c
   · cases h; exact .inr h0
   · simp at h
 · rcases List.mem_append.1 ho with ho | ho
   · rw [List.mem_singleton.1 ho]; rfl
   · rw [List.mem_singleton.1 ho]; simp [AObj.nm,nm1,nm0]
 · rcases List.mem_append.1 ho with ho | ho
   · rw [List.mem_singleton.1 ho]; rfl
   · rw [List.mem_singleton.1 ho,hom]; simp [AObj.sc,sc1,sc0]
end Go.Pier.Fl
namespace Go.Pier.Fl
open Go Go.Pier Go.Proofs
def dotF (l : List Int) (y : Nat→Int) : Nat→Int
 | 0 => 0
 | i + 1 => dotF l y i + l.getD i 0 * y i
def up (y : Nat→Int) (j : Nat) (d : Int) : Nat→Int := fun k => if k = j then y k + d else y k
theorem up_own {y : Nat→Int} {j : Nat} {d : Int} : up y j d j = y j + d := if_pos rfl
theorem up_else {y : Nat→Int} {j k : Nat} {d : Int} (h : k ≠ j) : up y j d k = y k := if_neg h
theorem dot_up {l : List Int} {y : Nat→Int} {j : Nat} {d : Int} : ∀ n,dotF l (up y j d) n = dotF l y n + if j < n then l.getD j 0 * d else 0
 | 0 => by simp [dotF]
 | n + 1 => by
   rw [dotF,dotF,dot_up n]
   by_cases e : n = j
   · subst e
     rw [up_own,if_neg (by omega),if_pos (by omega),Int.mul_add]; omega
   · rw [up_else e]
     by_cases h : j < n
     · rw [if_pos h,if_pos (by omega)]; omega
     · rw [if_neg h,if_neg (by omega)]; omega
theorem pf_up {y : Nat→Int} {j : Nat} {d : Int} : ∀ n,pf (up y j d) n = pf y n + if j < n then d else 0
 | 0 => by simp [pf]
 | n + 1 => by
   rw [pf,pf,pf_up n]
   by_cases e : n = j
   · subst e
     rw [up_own,if_neg (by omega),if_pos (by omega)]; omega
   · rw [up_else e]
     by_cases h : j < n
     · rw [if_pos h,if_pos (by omega)]; omega
     · rw [if_neg h,if_neg (by omega)]; omega
theorem dot_congr {l : List Int} {y z : Nat→Int} : ∀ n,(∀ k,k < n→y k = z k)→dotF l y n = dotF l z n
 | 0,_ => rfl
 | n + 1,h => by rw [dotF,dotF,dot_congr n fun k hk => h k (by omega),h n (by omega)]
theorem pf_congr {y z : Nat→Int} : ∀ n,(∀ k,k < n→y k = z k)→pf y n = pf z n
 | 0,_ => rfl
 | n + 1,h => by rw [pf,pf,pf_congr n fun k hk => h k (by omega),h n (by omega)]
theorem dot_nonneg {l : List Int} {y : Nat→Int} : ∀ n,(∀ k,k < n→0≤l.getD k 0∧0≤y k)→0≤dotF l y n
 | 0,_ => Int.le_refl _
 | n + 1,h => by
   have h1 := dot_nonneg n fun k hk => h k (by omega)
   have h2 := h n (by omega)
   have := Int.mul_nonneg h2.1 h2.2
   rw [dotF]; omega
theorem dot_pos {l : List Int} {y : Nat→Int} : ∀ n,(∀ k,k < n→0≤l.getD k 0∧0≤y k)→0 < dotF l y n→∃ j,j < n∧0 < y j
 | 0,_,h => by simp [dotF] at h
 | n + 1,h,hp => by
   by_cases e : 0 < y n
   · exact ⟨n,by omega,e⟩
   · have h2 := h n (by omega)
     have : y n = 0 := by omega
     rw [dotF,this,Int.mul_zero,Int.add_zero] at hp
     obtain ⟨j,hj,hy⟩ := dot_pos n (fun k hk => h k (by omega)) hp
     exact ⟨j,by omega,hy⟩
theorem pf_tail {y : Nat→Int} {n : Nat} : ∀ d,(∀ k,n≤k→k < n + d→y k = 0)→pf y (n + d) = pf y n
 | 0,_ => rfl
 | d + 1,h => by
   rw [show n + (d + 1) = (n + d) + 1 by omega,pf,pf_tail d fun k h1 h2 => h k h1 (by omega),h (n + d) (by omega) (by omega)]
   omega
theorem pf_m5 {y : Nat→Int} : pf y 5 = m5 y := by simp [pf,m5]
theorem inc_up {f : Nat→Int} {j : Nat} (h : 0≤f j∧f j≤100000) : inc5 f j = up f j 1 := by
 funext k
 unfold inc5 up
 rw [wrap_in (by omega) (by omega)]
 by_cases e : k = j
 · subst e; rw [Nat.beq_refl,if_pos rfl]; rfl
 · rw [if_neg e]
   cases hb : Nat.beq k j with
   | false => rfl
   | true => exact absurd (Nat.eq_of_beq_eq_true hb) e
theorem btr_true {n : Nat} {f g : Nat→Int} (h : btrV n f g = true) : m5 f≤m5 g := by
 unfold btrV at h
 cases e : m5 f == m5 g with
 | true => rw [beq_iff_eq] at e; omega
 | false => rw [e] at h; simp only [cond_false,decide_eq_true_eq] at h; omega
theorem btr_false {n : Nat} {f g : Nat→Int} (h : btrV n f g = false) : m5 g≤m5 f := by
 unfold btrV at h
 cases e : m5 f == m5 g with
 | true => rw [beq_iff_eq] at e; omega
 | false => rw [e] at h; simp only [cond_false,decide_eq_false_iff_not] at h; omega
theorem m5_congr {f g : Nat→Int} (h : ∀ k,k < 5→f k = g k) : m5 f = m5 g := by
 rw [m5,m5,h 0 (by omega),h 1 (by omega),h 2 (by omega),h 3 (by omega),h 4 (by omega)]
theorem cnt_eq {f : Nat→Int} {k : Nat} (h : k < 5) : cntF (some (C5 f)) k = f k := cnt_C5 h
theorem bst_from {l : List Int} {q : Int→Option Value} {a : Int} : ∀ i,((bstF l q a i).2 = true∧(bstF l q a i).1 = z5∧∀ j,j < i→q (a - l.getD j 0) = none) ∨
   ((bstF l q a i).2 = false∧∃ j,j < i∧(q (a - l.getD j 0)).isSome = true∧(bstF l q a i).1 = inc5 (cntF (q (a - l.getD j 0))) j)
 | 0 => .inl ⟨rfl,rfl,fun j h => by omega⟩
 | i + 1 => by
   have ih := bst_from (l := l) (q := q) (a := a) i
   cases hs : (q (a - l.getD i 0)).isSome with
   | false =>
     rw [bst_no1 hs]
     rcases ih with ⟨h1,h2,h3⟩ | ⟨h1,j,h2,h3⟩
     · refine .inl ⟨h1,h2,fun j hj => ?_⟩
       by_cases e : j = i
       · subst e
         cases hq : q (a - l.getD j 0) with
         | none => rfl
         | some v => rw [hq] at hs; cases hs
       · exact h3 j (by omega)
     · exact .inr ⟨h1,j,by omega,h3⟩
   | true =>
     cases hb : (bstF l q a i).2 || btrV l.length (inc5 (cntF (q (a - l.getD i 0))) i) (bstF l q a i).1 with
     | true => rw [bst_yes hs hb]; exact .inr ⟨rfl,i,by omega,hs,rfl⟩
     | false =>
       rw [bst_no2 hb]
       rcases ih with ⟨h1,_⟩ | ⟨h1,j,h2,h3⟩
       · rw [h1] at hb; cases hb
       · exact .inr ⟨h1,j,by omega,h3⟩
theorem bst_min {l : List Int} {q : Int→Option Value} {a : Int} : ∀ i,∀ j,j < i→(q (a - l.getD j 0)).isSome = true→(bstF l q a i).2 = false∧m5 (bstF l q a i).1≤m5 (inc5 (cntF (q (a - l.getD j 0))) j)
 | 0,j,hj,_ => by omega
 | i + 1,j,hj,hs => by
   by_cases e : j = i
   · subst e
     cases hb : (bstF l q a j).2 || btrV l.length (inc5 (cntF (q (a - l.getD j 0))) j) (bstF l q a j).1 with
     | true => rw [bst_yes hs hb]; exact ⟨rfl,Int.le_refl _⟩
     | false =>
       rw [bst_no2 hb]
       rw [Bool.or_eq_false_iff] at hb
       exact ⟨hb.1,btr_false hb.2⟩
   · have ih := bst_min i j (by omega) hs
     cases hs2 : (q (a - l.getD i 0)).isSome with
     | false => rw [bst_no1 hs2]; exact ih
     | true =>
       cases hb : (bstF l q a i).2 || btrV l.length (inc5 (cntF (q (a - l.getD i 0))) i) (bstF l q a i).1 with
       | true =>
         rw [bst_yes hs2 hb]
         rw [ih.1,Bool.false_or] at hb
         exact ⟨rfl,Int.le_trans (btr_true hb) ih.2⟩
       | false => rw [bst_no2 hb]; exact ih
theorem q_lt {l : List Int} : ∀ (a x : Nat),x < a→qF l a x = bif canB l x then some (C5 (bF l x)) else none
 | 0,x,h => by omega
 | a + 1,x,h => by
   show (if (x : Int) = (a : Int) then entV l (qF l a) a else qF l a x) = _
   by_cases e : x = a
   · subst e; rw [if_pos rfl]; rfl
   · rw [if_neg (by omega)]; exact q_lt a x (by omega)
theorem q_neg {l : List Int} (hc : Coins l) {a : Nat} (ha : a≤1000000) {x : Int} (h : x < 0) : qF l a x = none := by
 cases hq : qF l a x with
 | none => rfl
 | some v => obtain ⟨_,_,h2,_⟩ := ent_bd hc a ha x v hq; omega
theorem q_some {l : List Int} (hc : Coins l) {a : Nat} (ha : a≤1000000) {x : Int} (hx : x < a) (h : (qF l a x).isSome = true) : ∃ n : Nat,x = n∧canB l n = true∧qF l a x = some (C5 (bF l n)) := by
 by_cases h0 : x < 0
 · rw [q_neg hc ha h0] at h; cases h
 · obtain ⟨n,rfl⟩ := Int.eq_ofNat_of_zero_le (show 0≤x by omega)
   have e := q_lt (l := l) a n (by omega)
   cases hc2 : canB l n with
   | false => rw [hc2] at e; rw [e] at h; cases h
   | true => rw [hc2] at e; exact ⟨n,rfl,hc2,e⟩
def isCh (l : List Int) (a : Int) (y : Nat→Int) : Prop := (∀ k,k < l.length→0≤y k)∧dotF l y l.length = a
theorem nought_ch {l : List Int} (hc : Coins l) {y : Nat→Int} (h : isCh l 0 y) : ∀ k,k < l.length→y k = 0 := fun k hk => by
 by_cases e : 0 < y k
 · have hz : isCh l (0 - l.getD k 0) (up y k (-1)) := ⟨fun j hj => by
     by_cases e2 : j = k
     · subst e2; rw [up_own]; omega
     · rw [up_else e2]; exact h.1 j hj,by rw [dot_up,if_pos hk,h.2]; omega⟩
   have h1 := dot_nonneg (l := l) l.length fun j hj => ⟨by have := coin_rng hc hj; omega,hz.1 j hj⟩
   have h2 := coin_rng hc hk
   rw [hz.2] at h1
   omega
 · have := h.1 k hk; omega
theorem same_iff {f : Nat→Int} : same5 f z5 = true ↔ ∀ k,k < 5→f k = 0 := by
 constructor
 · intro h k hk
   obtain ⟨h0,h1,h2,h3,h4⟩ := same_zero h
   rcases k with _ | _ | _ | _ | _ | k <;> first | exact h0.symm | exact h1.symm | exact h2.symm | exact h3.symm | exact h4.symm | omega
 · intro h
   simp only [same5,z5,h 0 (by omega),h 1 (by omega),h 2 (by omega),h 3 (by omega),h 4 (by omega)]
   rfl
theorem best_is {l : List Int} (hc : Coins l) : ∀ a : Nat,a≤9999→(canB l a = true→isCh l a (bF l a)∧∀ k,l.length≤k→k < 5→bF l a k = 0)∧∀ y,isCh l a y→canB l a = true∧m5 (bF l a)≤pf y l.length := by
 intro a
 induction a using Nat.strongRecOn with
 | ind a ih =>
   intro ha
   have hw := hc.few
   have one : ∀ j,j < l.length→(qF l a (a - l.getD j 0)).isSome = true→∃ n : Nat,(n : Int) = a - l.getD j 0∧n < a∧canB l n = true∧inc5 (cntF (qF l a (a - l.getD j 0))) j = up (cntF (some (C5 (bF l n)))) j 1 := fun j hj hs => by
     have hr := coin_rng hc hj
     obtain ⟨n,h1,h2,h3⟩ := q_some hc (by omega) (by omega) hs
     refine ⟨n,by omega,by omega,h2,?_⟩
     rw [h3]
     have := bF_less hc (a := n) (by omega)
     exact inc_up (by rw [cnt_eq (by omega)]; have := this.at (a := j) (by omega); omega)
   have m5_one : ∀ j,j < l.length→∀ n : Nat,n < a→m5 (up (cntF (some (C5 (bF l n)))) j 1) = m5 (bF l n) + 1 := fun j hj n hn => by
     rw [← pf_m5,pf_up,if_pos (by omega),pf_m5,m5_congr (f := cntF (some (C5 (bF l n)))) (g := bF l n) fun k hk => cnt_eq hk]
   rcases bst_from (l := l) (q := qF l a) (a := (a : Int)) l.length with ⟨h1,h2,h3⟩ | ⟨h1,j,hj,hs,he⟩
   ·
     have hz : bF l a = z5 := h2
     constructor
     · intro hcan
       have h0 : a = 0 := by
         unfold canB at hcan
         rw [hz] at hcan
         have : same5 z5 z5 = true := rfl
         rw [this] at hcan
         simpa using hcan
       subst h0
       rw [hz]
       refine ⟨⟨fun _ _ => Int.le_refl _,?_⟩,fun _ _ _ => rfl⟩
       have : ∀ n,dotF l z5 n = 0 := fun n => by
         induction n with
         | zero => rfl
         | succ n ih => rw [dotF,ih]; simp [z5]
       exact this _
     · intro y hy
       by_cases h0 : a = 0
       · subst h0
         refine ⟨rfl,?_⟩
         rw [hz,pf_congr (z := z5) l.length fun k hk => nought_ch hc hy k hk]
         have : ∀ n,pf z5 n = 0 := fun n => by
           induction n with
           | zero => rfl
           | succ n ih => rw [pf,ih]; rfl
         rw [this]; exact Int.le_refl _
       · obtain ⟨j,hj,hyj⟩ := dot_pos (l := l) (y := y) l.length (fun k hk => ⟨by have := coin_rng hc hk; omega,hy.1 k hk⟩) (by rw [hy.2]; omega)
         have hr := coin_rng hc hj
         have hy2 : isCh l (a - l.getD j 0) (up y j (-1)) := ⟨fun k hk => by
           by_cases e2 : k = j
           · subst e2; rw [up_own]; omega
           · rw [up_else e2]; exact hy.1 k hk,by rw [dot_up,if_pos hj,hy.2]; omega⟩
         have hnn := dot_nonneg (l := l) l.length fun k hk => ⟨by have := coin_rng hc hk; omega,hy2.1 k hk⟩
         rw [hy2.2] at hnn
         obtain ⟨n,hn⟩ := Int.eq_ofNat_of_zero_le hnn
         rw [hn] at hy2
         have hcan := (ih n (by omega) (by omega)).2 _ hy2
         have hq := q_lt (l := l) a n (by omega)
         rw [hcan.1,← hn,h3 j hj] at hq
         cases hq
   ·
     obtain ⟨n,hn,hlt,hcn,e⟩ := one j hj hs
     rw [e] at he
     have hb : bF l a = up (cntF (some (C5 (bF l n)))) j 1 := he
     have hi := ih n hlt (by omega)
     obtain ⟨⟨hp1,hp2⟩,hp3⟩ := hi.1 hcn
     have hv : ∀ k,k < 5→bF l a k = up (bF l n) j 1 k := fun k hk => by
       rw [hb]
       by_cases e2 : k = j
       · subst e2; rw [up_own,up_own,cnt_eq hk]
       · rw [up_else e2,up_else e2,cnt_eq hk]
     have hpay : isCh l a (bF l a) := by
       refine ⟨fun k hk => ?_,?_⟩
       · rw [hv k (by omega)]
         by_cases e2 : k = j
         · subst e2; rw [up_own]; have := hp1 k hk; omega
         · rw [up_else e2]; exact hp1 k hk
       · rw [dot_congr (z := up (bF l n) j 1) l.length fun k hk => hv k (by omega),dot_up,if_pos hj,hp2]; omega
     have hcan : canB l a = true := by
       cases hx : canB l a with
       | true => rfl
       | false =>
         have := same_iff.1 (can_false hx) j (by omega)
         rw [hv j (by omega),up_own] at this
         have := hp1 j hj
         omega
     refine ⟨fun _ => ⟨hpay,fun k h1 h2 => ?_⟩,fun y hy => ⟨hcan,?_⟩⟩
     · rw [hv k h2,up_else (by omega)]; exact hp3 k h1 h2
     · have ha0 : 0 < a := by omega
       obtain ⟨i,hi2,hyi⟩ := dot_pos (l := l) (y := y) l.length (fun k hk => ⟨by have := coin_rng hc hk; omega,hy.1 k hk⟩) (by rw [hy.2]; omega)
       have hr := coin_rng hc hi2
       have hy2 : isCh l (a - l.getD i 0) (up y i (-1)) := ⟨fun k hk => by
         by_cases e2 : k = i
         · subst e2; rw [up_own]; omega
         · rw [up_else e2]; exact hy.1 k hk,by rw [dot_up,if_pos hi2,hy.2]; omega⟩
       have hnn := dot_nonneg (l := l) l.length fun k hk => ⟨by have := coin_rng hc hk; omega,hy2.1 k hk⟩
       rw [hy2.2] at hnn
       obtain ⟨m,hm⟩ := Int.eq_ofNat_of_zero_le hnn
       rw [hm] at hy2
       have hih := (ih m (by omega) (by omega)).2 _ hy2
       have hsome : (qF l a (a - l.getD i 0)).isSome = true := by rw [hm,q_lt a m (by omega),hih.1]; rfl
       have hmin := (bst_min (l := l) (q := qF l a) (a := (a : Int)) l.length i hi2 hsome).2
       obtain ⟨m',hm',hlt',_,e'⟩ := one i hi2 hsome
       rw [e',m5_one i hi2 m' hlt'] at hmin
       have : m' = m := by omega
       subst this
       have h6 := hih.2
       rw [pf_up,if_pos hi2] at h6
       have h7 : m5 (bF l a)≤m5 (bF l m') + 1 := hmin
       omega
theorem best_m5 {l : List Int} (hc : Coins l) {a : Nat} (ha : a≤9999) (h : canB l a = true) : m5 (bF l a) = pf (bF l a) l.length := by
 have h1 := ((best_is hc a ha).1 h).2
 have hw := hc.few
 have := pf_tail (y := bF l a) (n := l.length) (5 - l.length) fun k h2 h3 => h1 k h2 (by omega)
 rw [show l.length + (5 - l.length) = 5 by omega,pf_m5] at this
 exact this
end Go.Pier.Fl
namespace Go.Pier.Fl
open Go Go.Pier Go.Proofs
noncomputable def rcB : Code := Try.f23.body.getD .skip
def rcI (l : List Int) (v : Value) (H : Heap) : Nat→Option LInv := fun b => match b with
 | 0 => some (LInv.one Nat (fun i => i≤l.length∧(1≤l.length∧l.length≤5)∧∀ j,j < i→1≤l.getD j 0∧l.getD j 0≤50) (fun i => [(0,v),(2,vi 0),(3,vi i)]) (fun _ => H) (fun i => l.length - i))
 | 2 => some (LInv.one Nat (fun i => i < l.length∧(1≤l.length∧l.length≤5)∧(∀ j,j < l.length→1≤l.getD j 0∧l.getD j 0≤50)∧∀ j,j < i + 1→0 < j→l.getD (j - 1) 0 < l.getD j 0) (fun i => [(0,v),(2,vi 0),(4,vi ((i : Int) + 1))]) (fun _ => H) (fun i => l.length - i))
 | _ => none
noncomputable def rcV0 (l:List Int) := (List.map (Value.int IntKind.i64) l)
noncomputable def rcV1 (l:List Int) (c:Nat):Prop := (Value.slice (some (ad0 0)) l.length c=Value.slice (some (ad0 0)) l.length c)
noncomputable def rcV2  (x:Nat) := (0+(x:Int).toNat * 1)
noncomputable def rcV3  (x:Nat) := (0+(IntKind.i64.wrap ((x:Int)+(1:Int)-(1:Int))).toNat * 1)
noncomputable def rcV4  (x:Nat) := (0+((x:Int)+(1:Int)).toNat * 1)
noncomputable def rcV :=
fun (l:List Int) (c:Nat)↦(decide ((l.length:Int)<(1:Int))=false→(decide ((5:Int)<(l.length:Int))=true→True∧Ob (vi (6:Int)=vi (errC l)))∧(decide ((5:Int)<(l.length:Int))=false→(∃ (y:Nat),Ob (y≤l.length∧(1≤l.length∧l.length≤5)∧∀ (j:Nat),j<y→(1:Int)≤l.getD j (0:Int)∧l.getD j (0:Int)≤(50:Int))∧(Ob (AObj.ro (rcV0 l)=AObj.ro (List.map (nmap1 fun (b:Nat)↦b) (rcV0 l))∧AObj.sc 1 (AObj.ro (rcV0 l))=true)∧True)∧Ob (rcV1 l c)∧Ob ((0:Int)=(0:Int))∧Ob ((0:Int)=(y:Int))∧True)∧∀ (x:Nat),Ob (x≤l.length∧(1≤l.length∧l.length≤5)∧∀ (j:Nat),j<x→(1:Int)≤l.getD j (0:Int)∧l.getD j (0:Int)≤(50:Int))→(decide ((x:Int)<(l.length:Int))=true→Ob ((0:Int)≤(x:Int)∧(x:Int)<(l.length:Int)∧true=true)∧Ob (IntAt IntKind.i64 (rcV0 l) (rcV2 x))∧(decide (getI (rcV0 l) (rcV2 x)<(1:Int))=false→Ob ((0:Int)≤(x:Int)∧(x:Int)<(l.length:Int)∧true=true)∧Ob (IntAt IntKind.i64 (rcV0 l) (rcV2 x))∧(decide ((50:Int)<getI (rcV0 l) (rcV2 x))=true→True∧Ob (vi (3:Int)=vi (errC l)))∧(decide ((50:Int)<getI (rcV0 l) (rcV2 x))=false→∃ (y:Nat),Ob (y≤l.length∧(1≤l.length∧l.length≤5)∧∀ (j:Nat),j<y→(1:Int)≤l.getD j (0:Int)∧l.getD j (0:Int)≤(50:Int))∧Ob (l.length-y<l.length-x)∧(Ob (AObj.ro (rcV0 l)=AObj.ro (List.map (nmap1 fun (b:Nat)↦b) (rcV0 l))∧AObj.sc 1 (AObj.ro (rcV0 l))=true)∧True)∧Ob (rcV1 l c)∧Ob ((0:Int)=(0:Int))∧Ob (IntKind.i64.wrap ((x:Int)+(1:Int))=(y:Int))∧True))∧(decide (getI (rcV0 l) (rcV2 x)<(1:Int))=true→True∧Ob (vi (3:Int)=vi (errC l))))∧(decide ((x:Int)<(l.length:Int))=false→(∃ (y:Nat),Ob (y<l.length∧(1≤l.length∧l.length≤5)∧(∀ (j:Nat),j<l.length→(1:Int)≤l.getD j (0:Int)∧l.getD j (0:Int)≤(50:Int))∧∀ (j:Nat),j<y+1→0<j→l.getD (j-1) (0:Int)<l.getD j (0:Int))∧(Ob (AObj.ro (rcV0 l)=AObj.ro (List.map (nmap1 fun (b:Nat)↦b) (rcV0 l))∧AObj.sc 1 (AObj.ro (rcV0 l))=true)∧True)∧Ob (rcV1 l c)∧Ob ((0:Int)=(0:Int))∧Ob ((1:Int)=(y:Int)+(1:Int))∧True)∧∀ (x:Nat),Ob (x<l.length∧(1≤l.length∧l.length≤5)∧(∀ (j:Nat),j<l.length→(1:Int)≤l.getD j (0:Int)∧l.getD j (0:Int)≤(50:Int))∧∀ (j:Nat),j<x+1→0<j→l.getD (j-1) (0:Int)<l.getD j (0:Int))→(decide ((x:Int)+(1:Int)<(l.length:Int))=true→Ob ((0:Int)≤(x:Int)+(1:Int)∧(x:Int)+(1:Int)<(l.length:Int)∧true=true)∧Ob (IntAt IntKind.i64 (rcV0 l) (rcV4 x))∧Ob ((0:Int)≤IntKind.i64.wrap ((x:Int)+(1:Int)-(1:Int))∧IntKind.i64.wrap ((x:Int)+(1:Int)-(1:Int))<(l.length:Int)∧true=true)∧Ob (IntAt IntKind.i64 (rcV0 l) (rcV3 x))∧(decide (getI (rcV0 l) (rcV4 x)≤getI (rcV0 l) (rcV3 x))=true→True∧Ob (vi (2:Int)=vi (errC l)))∧(decide (getI (rcV0 l) (rcV4 x)≤getI (rcV0 l) (rcV3 x))=false→∃ (y:Nat),Ob (y<l.length∧(1≤l.length∧l.length≤5)∧(∀ (j:Nat),j<l.length→(1:Int)≤l.getD j (0:Int)∧l.getD j (0:Int)≤(50:Int))∧∀ (j:Nat),j<y+1→0<j→l.getD (j-1) (0:Int)<l.getD j (0:Int))∧Ob (l.length-y<l.length-x)∧(Ob (AObj.ro (rcV0 l)=AObj.ro (List.map (nmap1 fun (b:Nat)↦b) (rcV0 l))∧AObj.sc 1 (AObj.ro (rcV0 l))=true)∧True)∧Ob (rcV1 l c)∧Ob ((0:Int)=(0:Int))∧Ob (IntKind.i64.wrap ((x:Int)+(1:Int)+(1:Int))=(y:Int)+(1:Int))∧True))∧(decide ((x:Int)+(1:Int)<(l.length:Int))=false→True∧Ob (vi (0:Int)=vi (errC l))))))∧(decide ((l.length:Int)<(1:Int))=true→True∧Ob (vi (6:Int)=vi (errC l)))
theorem rcV_eq : rcV = fun (l : List Int) (c : Nat) => vc Try.prog {} 1 47 true (rcI l (.slice (some ⟨0,0,none⟩) l.length c) [ros l]) rcB [] (argFr 0 [.slice (some ⟨0,0,none⟩) l.length c]) [ros l] (retK Try.prog Try.f23 (fun v _ => v = vi (errC l))) := by kernel_rfl
noncomputable def rcN0  : Prop := (Value.slice none (0 : Nat) (0 : Nat) = Value.slice none (0 : Nat) (0 : Nat))
noncomputable def rcN :=
fun (x:Unit)↦(true=false→(false=true→True∧Ob (vi (6:Int)=vi (6:Int)))∧(false=false→(∃ (y:Nat),Ob (y≤0∧(1≤0∧0≤5)∧∀ (j:Nat),j<y→(1:Int)≤([]:List Int).getD j (0:Int)∧([]:List Int).getD j (0:Int)≤(50:Int))∧True∧Ob rcN0∧Ob ((0:Int)=(0:Int))∧Ob ((0:Int)=(y:Int))∧True)∧∀ (xq:Nat),Ob (xq≤0∧(1≤0∧0≤5)∧∀ (j:Nat),j<xq→(1:Int)≤([]:List Int).getD j (0:Int)∧([]:List Int).getD j (0:Int)≤(50:Int))→(decide ((xq:Int)<(↑(0:Nat):Int))=true→False)∧(decide ((xq:Int)<(↑(0:Nat):Int))=false→(∃ (y:Nat),Ob (y<0∧(1≤0∧0≤5)∧(∀ (j:Nat),j<0→(1:Int)≤([]:List Int).getD j (0:Int)∧([]:List Int).getD j (0:Int)≤(50:Int))∧∀ (j:Nat),j<y+1→0<j→([]:List Int).getD (j-1) (0:Int)<([]:List Int).getD j (0:Int))∧True∧Ob rcN0∧Ob ((0:Int)=(0:Int))∧Ob ((1:Int)=(y:Int)+(1:Int))∧True)∧∀ (xq:Nat),Ob (xq<0∧(1≤0∧0≤5)∧(∀ (j:Nat),j<0→(1:Int)≤([]:List Int).getD j (0:Int)∧([]:List Int).getD j (0:Int)≤(50:Int))∧∀ (j:Nat),j<xq+1→0<j→([]:List Int).getD (j-1) (0:Int)<([]:List Int).getD j (0:Int))→(decide ((xq:Int)+(1:Int)<(↑(0:Nat):Int))=true→False)∧(decide ((xq:Int)+(1:Int)<(↑(0:Nat):Int))=false→True∧Ob (vi (0:Int)=vi (6:Int))))))∧(true=true→True∧Ob (vi (6:Int)=vi (6:Int)))
theorem rcN_eq : rcN = fun (_ : Unit) => vc Try.prog {} 0 47 true (rcI [] (.slice none 0 0) []) rcB [] (argFr 0 [.slice none 0 0]) [] (retK Try.prog Try.f23 (fun v _ => v = vi 6)) := by kernel_rfl
noncomputable def rcH0 (s:Option Nat) (c:Nat):Prop := (Value.slice (some ⟨0,0,s⟩) 0 c=Value.slice (some ⟨0,0,s⟩) 0 c)
noncomputable def rcH :=
fun (s:Option Nat) (c:Nat)↦(true=false→(false=true→True∧Ob (vi (6:Int)=vi (6:Int)))∧(false=false→(∃ (y:Nat),Ob (y≤0∧(1≤0∧0≤5)∧∀ (j:Nat),j<y→(1:Int)≤([]:List Int).getD j (0:Int)∧([]:List Int).getD j (0:Int)≤(50:Int))∧True∧Ob (rcH0 s c)∧Ob ((0:Int)=(0:Int))∧Ob ((0:Int)=(y:Int))∧True)∧∀ (x:Nat),Ob (x≤0∧(1≤0∧0≤5)∧∀ (j:Nat),j<x→(1:Int)≤([]:List Int).getD j (0:Int)∧([]:List Int).getD j (0:Int)≤(50:Int))→(decide ((x:Int)<(↑(0:Nat):Int))=true→Ob ((0:Int)≤(x:Int)∧(x:Int)<(↑(0:Nat):Int)∧std ⟨0,0,s⟩ c=true)∧False)∧(decide ((x:Int)<(↑(0:Nat):Int))=false→(∃ (y:Nat),Ob (y<0∧(1≤0∧0≤5)∧(∀ (j:Nat),j<0→(1:Int)≤([]:List Int).getD j (0:Int)∧([]:List Int).getD j (0:Int)≤(50:Int))∧∀ (j:Nat),j<y+1→0<j→([]:List Int).getD (j-1) (0:Int)<([]:List Int).getD j (0:Int))∧True∧Ob (rcH0 s c)∧Ob ((0:Int)=(0:Int))∧Ob ((1:Int)=(y:Int)+(1:Int))∧True)∧∀ (x:Nat),Ob (x<0∧(1≤0∧0≤5)∧(∀ (j:Nat),j<0→(1:Int)≤([]:List Int).getD j (0:Int)∧([]:List Int).getD j (0:Int)≤(50:Int))∧∀ (j:Nat),j<x+1→0<j→([]:List Int).getD (j-1) (0:Int)<([]:List Int).getD j (0:Int))→(decide ((x:Int)+(1:Int)<(↑(0:Nat):Int))=true→Ob ((0:Int)≤(x:Int)+(1:Int)∧(x:Int)+(1:Int)<(↑(0:Nat):Int)∧std ⟨0,0,s⟩ c=true)∧False)∧(decide ((x:Int)+(1:Int)<(↑(0:Nat):Int))=false→True∧Ob (vi (0:Int)=vi (6:Int))))))∧(true=true→True∧Ob (vi (6:Int)=vi (6:Int)))
theorem rcH_eq : rcH = fun (s : Option Nat) (c : Nat) => vc Try.prog {} 1 47 true (rcI [] (.slice (some ⟨0,0,s⟩) 0 c) [.gone]) rcB [] (argFr 0 [.slice (some ⟨0,0,s⟩) 0 c]) [.gone] (retK Try.prog Try.f23 (fun v _ => v = vi 6)) := by kernel_rfl
noncomputable def suB : Code := Try.f56.body.getD .skip
def gt (m : List Int) : Nat→Int := fun k => m.getD k 0
def suI (l m : List Int) (c d : Nat) : Nat→Option LInv := invOf 0 (LInv.one Nat (fun i => i≤l.length) (fun i => [(0,.slice (some ⟨0,0,none⟩) l.length c),(1,.slice (some ⟨1,0,none⟩) m.length d),(6,vi (dotF l (gt m) i)),(7,vi (pf (gt m) i)),(8,vi i)]) (fun _ => [ros l,ros m]) (fun i => l.length - i))
noncomputable def suV0  := (Value.int IntKind.i64)
noncomputable def suV1  (x:Nat) := (0+(x:Int).toNat * 1)
noncomputable def suV :=
fun (l m:List Int) (c d:Nat)↦(∃ (y:Nat),Ob (y≤l.length)∧(Ob (AObj.ro (List.map suV0 l)=AObj.ro (List.map (nmap1 fun (b:Nat)↦b) (List.map suV0 l))∧AObj.sc 2 (AObj.ro (List.map suV0 l))=true)∧Ob (AObj.ro (List.map suV0 m)=AObj.ro (List.map (nmap1 fun (b:Nat)↦b) (List.map suV0 m))∧AObj.sc 2 (AObj.ro (List.map suV0 m))=true)∧True)∧Ob (Value.slice (some (ad0 0)) l.length c=Value.slice (some (ad0 0)) l.length c)∧Ob (Value.slice (some (ad0 1)) m.length d=Value.slice (some (ad0 1)) m.length d)∧Ob ((0:Int)=dotF l (gt m) y)∧Ob ((0:Int)=pf (gt m) y)∧Ob ((0:Int)=(y:Int))∧True)∧∀ (x:Nat),Ob (x≤l.length)→(decide ((x:Int)<(l.length:Int))=true→Ob ((0:Int)≤(x:Int)∧(x:Int)<(l.length:Int)∧true=true)∧Ob (IntAt IntKind.i64 (List.map suV0 l) (suV1 x))∧Ob ((0:Int)≤(x:Int)∧(x:Int)<(m.length:Int)∧true=true)∧Ob (IntAt IntKind.i64 (List.map suV0 m) (suV1 x))∧Ob ((0:Int)≤(x:Int)∧(x:Int)<(m.length:Int)∧true=true)∧Ob (IntAt IntKind.i64 (List.map suV0 m) (suV1 x))∧∃ (y:Nat),Ob (y≤l.length)∧Ob (l.length-y<l.length-x)∧(Ob (AObj.ro (List.map suV0 l)=AObj.ro (List.map (nmap1 fun (b:Nat)↦b) (List.map suV0 l))∧AObj.sc 2 (AObj.ro (List.map suV0 l))=true)∧Ob (AObj.ro (List.map suV0 m)=AObj.ro (List.map (nmap1 fun (b:Nat)↦b) (List.map suV0 m))∧AObj.sc 2 (AObj.ro (List.map suV0 m))=true)∧True)∧Ob (Value.slice (some (ad0 0)) l.length c=Value.slice (some (ad0 0)) l.length c)∧Ob (Value.slice (some (ad0 1)) m.length d=Value.slice (some (ad0 1)) m.length d)∧Ob (IntKind.i64.wrap (dotF l (gt m) x+IntKind.i64.wrap (getI (List.map suV0 l) (suV1 x) * getI (List.map suV0 m) (suV1 x)))=dotF l (gt m) y)∧Ob (IntKind.i64.wrap (pf (gt m) x+getI (List.map suV0 m) (suV1 x))=pf (gt m) y)∧Ob (IntKind.i64.wrap ((x:Int)+(1:Int))=(y:Int))∧True)∧(decide ((x:Int)<(l.length:Int))=false→True∧Ob (Value.tuple ⟨[vi (dotF l (gt m) x),vi (pf (gt m) x)]⟩=Value.tuple ⟨[vi (dotF l (gt m) l.length),vi (pf (gt m) l.length)]⟩))
theorem suV_eq : suV = fun (l m : List Int) (c d : Nat) => vc Try.prog {} 2 34 true (suI l m c d) suB [] (argFr 0 [.slice (some ⟨0,0,none⟩) l.length c,.slice (some ⟨1,0,none⟩) m.length d]) [ros l,ros m] (retK Try.prog Try.f56 (fun v _ => v = .tuple #[vi (dotF l (gt m) l.length),vi (pf (gt m) l.length)])) := by kernel_rfl
theorem errC_6 {l : List Int} (h : l.length < 1∨5 < l.length) : errC l = 6 := by rw [errC,if_pos h]
theorem errC_3 {l : List Int} (h : 1≤l.length∧l.length≤5) (h2 : ¬ ∀ x ∈ l,1≤x∧x≤50) : errC l = 3 := by rw [errC,if_neg (by omega),if_pos (by rw [wiF,decide_eq_false_iff_not]; exact h2)]
theorem errC_2 {l : List Int} (h : 1≤l.length∧l.length≤5) (h2 : ∀ x ∈ l,1≤x∧x≤50) (h3 : ¬ ∀ j,j < l.length→0 < j→l.getD (j - 1) 0 < l.getD j 0) : errC l = 2 := by
 rw [errC,if_neg (by omega),if_neg (by rw [show wiF 1 50 l = true from decide_eq_true h2]; exact Bool.noConfusion),if_pos (by rw [incF,decide_eq_false_iff_not]; exact h3)]
theorem rcV_ok (l : List Int) (c : Nat) (hl : l.length≤1000000) : rcV l c := by
 unfold rcV rcV4 rcV3 rcV2 rcV1 rcV0
 simp only [SS,reduceCtorEq,Arg.list,Arg.num,Arg.flag,intOf,andP,Nat.reduceLeDiff,Nat.reduceAdd,Nat.reduceMul,Nat.reduceLT]
 refine ⟨fun h1 => ⟨fun h2 => (errC_6 (by omega)).symm,fun h2 => ⟨⟨0,⟨by omega,by omega,all_none⟩,rfl⟩,fun x ⟨hx,hn,hj⟩ => ⟨fun h3 => ?_,fun h3 => ?_⟩⟩⟩,fun h1 => (errC_6 (by omega)).symm⟩
 · have no : ¬ (1≤l.getD x 0∧l.getD x 0≤50)→3 = errC l := fun h => (errC_3 hn fun hh => h (hh _ (ints_mem (by omega)))).symm
   exact ⟨by omega,by omega,fun h4 => ⟨by omega,by omega,fun h5 => no (by omega),fun h5 => ⟨x + 1,⟨by omega,hn,all_snoc hj (by omega)⟩,by omega,wrap_succ (n := 10) (by omega) (by omega)⟩⟩,fun h4 => no (by omega)⟩
 · have hr : ∀ j,j < l.length→1≤l.getD j 0∧l.getD j 0≤50 := fun j h => hj j (by omega)
   have hr2 : ∀ y ∈ l,1≤y∧y≤50 := ints_all (i := x) (by omega) hj
   refine ⟨⟨0,⟨by omega,hn,hr,fun j h1 h2 => by omega⟩,rfl⟩,fun y ⟨hy,_,_,hi⟩ => ⟨fun h4 => ?_,fun h4 => ?_⟩⟩
   · rw [show ((y : Int) + 1).toNat = y + 1 by omega,wrap_in (x := (y : Int) + 1 - 1) (by omega) (by omega),show ((y : Int) + 1 - 1).toNat = y by omega]
     refine ⟨by omega,by omega,by omega,by omega,fun h5 => (errC_2 hn hr2 fun hh => ?_).symm,fun h5 => ⟨y + 1,⟨by omega,hn,hr,all_snoc hi fun _ => ?_⟩,by omega,by rw [wrap_in (by omega) (by omega)]; omega⟩⟩
     · have := hh (y + 1) (by omega) (by omega)
       rw [Nat.add_sub_cancel] at this; omega
     · rw [Nat.add_sub_cancel]; omega
   · exact (errC_ok.2 ⟨hn.1,hn.2,hr2,fun j h5 h6 => hi j (by omega) h6⟩).symm
theorem rcN_ok (u : Unit) : rcN u := by
 unfold rcN rcN0
 simp only [SS,reduceCtorEq,Arg.list,Arg.num,Arg.flag,intOf,andP,Nat.reduceLeDiff,Nat.reduceAdd,Nat.reduceMul,Nat.reduceLT]
theorem rcH_ok (s : Option Nat) (c : Nat) : rcH s c := by
 unfold rcH rcH0
 simp only [SS,reduceCtorEq,Arg.list,Arg.num,Arg.flag,intOf,andP,Nat.reduceLeDiff,Nat.reduceAdd,Nat.reduceMul,Nat.reduceLT]
theorem rcG_ok : ∀ args H φ v H' l,pureG [.ints .i64] ciS args H = some (φ,v,H',l)→Asks φ→Call Try.prog 23 args H (fun v' H2 => v' = v∧H2 = H')∧Kept H H' l :=
 pureG_ok fun r hk hs => match r,hk with
   | [_],⟨hl,_⟩ => by
     rcases hl with rfl | ⟨s,rfl⟩ | ⟨l,rfl⟩
     · exact ⟨rfl,fun caps => Call.ofVc E0_ok mixed (c := rcB) (inv := rcI [] (.slice none 0 0) []) Try.func23 (by kernel_rfl) (cast (congrFun rcN_eq ()) (rcN_ok ()))⟩
     · exact ⟨rfl,fun caps => Call.ofVc E0_ok mixed (c := rcB) (inv := rcI [] (.slice (some ⟨0,0,s⟩) 0 (caps 0)) [.gone]) Try.func23 (by kernel_rfl) (cast (congrFun (congrFun rcH_eq s) (caps 0)) (rcH_ok s _))⟩
     · exact ⟨rfl,fun caps => Call.ofVc E0_ok mixed (c := rcB) (inv := rcI l (.slice (some ⟨0,0,none⟩) l.length (caps 0)) [ros l]) Try.func23 (by kernel_rfl) (cast (congrFun (congrFun rcV_eq l) (caps 0)) (rcV_ok l _ hs))⟩
theorem dot_bd {l : List Int} {y : Nat→Int} {B C : Int} (hB : 0≤B) (hC : 0≤C) : ∀ n,(∀ j,j < n→0≤l.getD j 0∧l.getD j 0≤B)→(∀ j,j < n→0≤y j∧y j≤C)→(0≤dotF l y n∧dotF l y n≤B * C * n)∧0≤pf y n∧pf y n≤C * n
 | 0,_,_ => by simp [dotF,pf]
 | n + 1,h1,h2 => by
   have ih := dot_bd hB hC n (fun j hj => h1 j (by omega)) fun j hj => h2 j (by omega)
   have a := h1 n (by omega)
   have b := h2 n (by omega)
   have m1 := Int.mul_nonneg a.1 b.1
   have m2 := Int.mul_le_mul a.2 b.2 b.1 hB
   have e1 : B * C * ((n + 1 : Nat) : Int) = B * C * n + B * C := by push_cast; rw [Int.mul_add,Int.mul_one]
   have e2 : C * ((n + 1 : Nat) : Int) = C * n + C := by push_cast; rw [Int.mul_add,Int.mul_one]
   rw [dotF,pf,e1,e2]
   omega
theorem suV_ok (l m : List Int) (c d : Nat) (h : l.length = m.length) (hl : l.length≤100) (hr : ∀ j,j < l.length→0≤l.getD j 0∧l.getD j 0≤1000) (hm : ∀ j,j < m.length→0≤m.getD j 0∧m.getD j 0≤100000) : suV l m c d := by
 unfold suV suV1 suV0
 simp only [SS,reduceCtorEq,Arg.list,Arg.num,Arg.flag,intOf,andP,Nat.reduceLeDiff,Nat.reduceAdd,Nat.reduceMul,Nat.reduceLT]
 refine ⟨⟨0,by omega,rfl,rfl,rfl⟩,fun x hx => ⟨fun h1 => ?_,fun h1 => by rw [show x = l.length by omega]⟩⟩
 have hb := dot_bd (l := l) (y := gt m) (B := 1000) (C := 100000) (by omega) (by omega) x (fun j hj => hr j (by omega)) fun j hj => hm j (by omega)
 have hb2 := dot_bd (l := l) (y := gt m) (B := 1000) (C := 100000) (by omega) (by omega) (x + 1) (fun j hj => hr j (by omega)) fun j hj => hm j (by omega)
 have a := hr x (by omega)
 have b := hm x (by omega)
 have m1 := Int.mul_nonneg a.1 b.1
 have m2 := Int.mul_le_mul a.2 b.2 b.1 (by omega)
 have e1 : IntKind.i64.wrap (l.getD x 0 * m.getD x 0) = l.getD x 0 * m.getD x 0 := wrap_in (by omega) (by omega)
 have e2 : IntKind.i64.wrap (dotF l (gt m) x + l.getD x 0 * m.getD x 0) = dotF l (gt m) (x + 1) := wrap_in (by simp only [dotF,gt] at *; omega) (by simp only [dotF,gt] at *; omega)
 have e3 : IntKind.i64.wrap (pf (gt m) x + m.getD x 0) = pf (gt m) (x + 1) := wrap_in (by simp only [pf,gt] at *; omega) (by simp only [pf,gt] at *; omega)
 rw [e1,e2,e3]
 exact ⟨by omega,by omega,by omega,by omega,by omega,by omega,x + 1,by omega,by omega,rfl,rfl,wrap_succ (n := 1000) (by omega) (by omega)⟩
def suS (r : List Arg) : Prop × Value := match r with
 | [.ints _ l,.ints _ m] => (l.length = m.length∧l.length≤100∧(∀ j,j < l.length→0≤l.getD j 0∧l.getD j 0≤1000)∧∀ j,j < m.length→0≤m.getD j 0∧m.getD j 0≤100000,.tuple #[vi (dotF l (gt m) l.length),vi (pf (gt m) l.length)])
 | _ => (False,undef)
theorem suG_ok : ∀ args H φ v H' l,pureG [.ints .i64,.ints .i64] suS args H = some (φ,v,H',l)→Asks φ→Call Try.prog 56 args H (fun v' H2 => v' = v∧H2 = H')∧Kept H H' l :=
 pureG_ok fun r hk hs => match r,hk with
   | [_,_],⟨hl,hm,_⟩ => by
     rcases hl with rfl | ⟨s,rfl⟩ | ⟨l,rfl⟩
     · exact hs.elim
     · exact hs.elim
     · rcases hm with rfl | ⟨s,rfl⟩ | ⟨m,rfl⟩
       · exact hs.elim
       · exact hs.elim
       · exact ⟨by simp [suS,sc,sc2,sc1,sc0],fun caps => Call.ofVc E0_ok mixed (c := suB) (inv := suI l m (caps 0) (caps 1)) Try.func56 (by kernel_rfl) (cast (congrFun (congrFun (congrFun (congrFun suV_eq l) m) _) _) (suV_ok l m _ _ hs.1 hs.2.1 hs.2.2.1 hs.2.2.2))⟩
end Go.Pier.Fl
namespace Go.Pier.Fl
open Go Go.Pier Go.Proofs
def errK (l m : List Int) : Int := if errC l ≠ 0 then errC l else if m.length ≠ l.length then 15 else if wiF 0 1000 m = false then 3 else 0
def chA (l m : List Int) : Int := if errK l m = 0 then dotF l (gt m) l.length else 0
def chM (l m : List Int) : Int := if errK l m = 0 then pf (gt m) l.length else 0
noncomputable def rkT : Ct := (Ct.none.add 23 (pureG [.ints .i64] ciS)).add 56 (pureG [.ints .i64,.ints .i64] suS)
noncomputable def rkE : VEnv := { ct := rkT }
noncomputable def rkB : Code := Try.f21.body.getD .skip
def rkI (l m : List Int) (u v : Value) (H : Heap) : Nat→Option LInv := invOf 0 (LInv.one Nat (fun i => i≤m.length∧errC l = 0∧m.length = l.length∧∀ j,j < i→0≤m.getD j 0∧m.getD j 0≤1000) (fun i => [(0,u),(1,v),(4,vi 0),(5,vi 0),(6,vi 0),(7,vi i)]) (fun _ => H) (fun i => m.length - i))
noncomputable def rkVV0 (l:List Int) := (List.take l.length (List.drop 0 (intsOf (List.map (Value.int IntKind.i64) l))))
noncomputable def rkVV1 (m:List Int) := (List.map (Value.int IntKind.i64) m)
noncomputable def rkVV2 (l:List Int):Prop := (List.take l.length (List.drop 0 (List.map (Value.int IntKind.i64) l))=List.map (Value.int IntKind.i64) (rkVV0 l)∧0+l.length≤(List.map (Value.int IntKind.i64) l).length∧true=true)
noncomputable def rkVV3 (m:List Int) := (List.take m.length (List.drop 0 (intsOf (rkVV1 m))))
noncomputable def rkVV4  (x:Nat) := (0+(x:Int).toNat * 1)
noncomputable def rkVV5 (l:List Int) (m:List Int):Array Value := ⟨[vi (chA l m),vi (chM l m),vi (errK l m)]⟩
noncomputable def rkVV6 (l:List Int) := (List.map (Value.int IntKind.i64) l)
noncomputable def rkVV7 (l:List Int) (m:List Int):Prop := (Value.tuple ⟨[vi (0:Int),vi (0:Int),vi (3:Int)]⟩=Value.tuple (rkVV5 l m))
noncomputable def rkVV :=
fun (l m:List Int) (c d:Nat)↦Ob ((rkVV2 l)∧(rkVV0 l).length≤1000000)∧((errC (rkVV0 l) !=(0:Int))=true→Ob ((rkVV2 l)∧(rkVV0 l).length≤1000000)∧True∧Ob (Value.tuple ⟨[vi (0:Int),vi (0:Int),vi (errC (rkVV0 l))]⟩=Value.tuple (rkVV5 l m)))∧((errC (rkVV0 l) !=(0:Int))=false→(((m.length:Int) !=(l.length:Int))=true→True∧Ob (Value.tuple ⟨[vi (0:Int),vi (0:Int),vi (15:Int)]⟩=Value.tuple (rkVV5 l m)))∧(((m.length:Int) !=(l.length:Int))=false→(∃ (y:Nat),Ob (y≤m.length∧errC l=(0:Int)∧m.length=l.length∧∀ (j:Nat),j<y→(0:Int)≤m.getD j (0:Int)∧m.getD j (0:Int)≤(1000:Int))∧(Ob (AObj.ro (rkVV6 l)=AObj.ro (List.map (nmap1 fun (b:Nat)↦b) (rkVV6 l))∧AObj.sc 2 (AObj.ro (rkVV6 l))=true)∧Ob (AObj.ro (rkVV1 m)=AObj.ro (List.map (nmap1 fun (b:Nat)↦b) (rkVV1 m))∧AObj.sc 2 (AObj.ro (rkVV1 m))=true)∧True)∧Ob (Value.slice (some (ad0 0)) l.length c=Value.slice (some (ad0 0)) l.length c)∧Ob (Value.slice (some (ad0 1)) m.length d=Value.slice (some (ad0 1)) m.length d)∧Ob ((0:Int)=(0:Int))∧Ob ((0:Int)=(0:Int))∧Ob ((0:Int)=(0:Int))∧Ob ((0:Int)=(y:Int))∧True)∧∀ (x:Nat),Ob (x≤m.length∧errC l=(0:Int)∧m.length=l.length∧∀ (j:Nat),j<x→(0:Int)≤m.getD j (0:Int)∧m.getD j (0:Int)≤(1000:Int))→(decide ((x:Int)<(m.length:Int))=true→Ob ((0:Int)≤(x:Int)∧(x:Int)<(m.length:Int)∧true=true)∧Ob (IntAt IntKind.i64 (rkVV1 m) (rkVV4 x))∧(decide (getI (rkVV1 m) (rkVV4 x)<(0:Int))=false→Ob ((0:Int)≤(x:Int)∧(x:Int)<(m.length:Int)∧true=true)∧Ob (IntAt IntKind.i64 (rkVV1 m) (rkVV4 x))∧(decide ((1000:Int)<getI (rkVV1 m) (rkVV4 x))=true→True∧Ob (rkVV7 l m))∧(decide ((1000:Int)<getI (rkVV1 m) (rkVV4 x))=false→∃ (y:Nat),Ob (y≤m.length∧errC l=(0:Int)∧m.length=l.length∧∀ (j:Nat),j<y→(0:Int)≤m.getD j (0:Int)∧m.getD j (0:Int)≤(1000:Int))∧Ob (m.length-y<m.length-x)∧(Ob (AObj.ro (rkVV6 l)=AObj.ro (List.map (nmap1 fun (b:Nat)↦b) (rkVV6 l))∧AObj.sc 2 (AObj.ro (rkVV6 l))=true)∧Ob (AObj.ro (rkVV1 m)=AObj.ro (List.map (nmap1 fun (b:Nat)↦b) (rkVV1 m))∧AObj.sc 2 (AObj.ro (rkVV1 m))=true)∧True)∧Ob (Value.slice (some (ad0 0)) l.length c=Value.slice (some (ad0 0)) l.length c)∧Ob (Value.slice (some (ad0 1)) m.length d=Value.slice (some (ad0 1)) m.length d)∧Ob ((0:Int)=(0:Int))∧Ob ((0:Int)=(0:Int))∧Ob ((0:Int)=(0:Int))∧Ob (IntKind.i64.wrap ((x:Int)+(1:Int))=(y:Int))∧True))∧(decide (getI (rkVV1 m) (rkVV4 x)<(0:Int))=true→True∧Ob (rkVV7 l m)))∧(decide ((x:Int)<(m.length:Int))=false→Ob (((rkVV2 l)∧List.take m.length (List.drop 0 (rkVV1 m))=List.map (Value.int IntKind.i64) (rkVV3 m)∧0+m.length≤(rkVV1 m).length∧true=true)∧(rkVV0 l).length=(rkVV3 m).length∧(rkVV0 l).length≤100∧(∀ (j:Nat),j<(rkVV0 l).length→(0:Int)≤(rkVV0 l).getD j (0:Int)∧(rkVV0 l).getD j (0:Int)≤(1000:Int))∧∀ (j:Nat),j<(rkVV3 m).length→(0:Int)≤(rkVV3 m).getD j (0:Int)∧(rkVV3 m).getD j (0:Int)≤(100000:Int))∧True∧Ob (Value.tuple ⟨[vi (dotF (rkVV0 l) (gt (rkVV3 m)) (rkVV0 l).length),vi (pf (gt (rkVV3 m)) (rkVV0 l).length),vi (0:Int)]⟩=Value.tuple (rkVV5 l m)))))
theorem rkVV_eq : rkVV = fun (l m : List Int) (c d : Nat) => vc Try.prog rkE 2 46 true (rkI l m (.slice (some ⟨0,0,none⟩) l.length c) (.slice (some ⟨1,0,none⟩) m.length d) [ros l,ros m]) rkB [] (argFr 0 [.slice (some ⟨0,0,none⟩) l.length c,.slice (some ⟨1,0,none⟩) m.length d]) [ros l,ros m] (retK Try.prog Try.f21 (fun v _ => v = .tuple #[vi (chA l m),vi (chM l m),vi (errK l m)])) := by kernel_rfl
noncomputable def rkVN0 (l:List Int):Prop := (List.take l.length (List.drop 0 (List.map (Value.int IntKind.i64) l))=List.map (Value.int IntKind.i64) (List.take l.length (List.drop 0 (intsOf (List.map (Value.int IntKind.i64) l))))∧0+l.length≤(List.map (Value.int IntKind.i64) l).length∧true=true)
noncomputable def rkVN1 (l:List Int) := (List.take l.length (List.drop 0 (intsOf (List.map (Value.int IntKind.i64) l))))
noncomputable def rkVN :=
fun (l:List Int) (c:Nat)↦Ob ((rkVN0 l)∧(rkVN1 l).length≤1000000)∧((errC (rkVN1 l) !=(0:Int))=true→Ob ((rkVN0 l)∧(rkVN1 l).length≤1000000)∧True∧Ob (Value.tuple ⟨[vi (0:Int),vi (0:Int),vi (errC (rkVN1 l))]⟩=Value.tuple ⟨[vi (0:Int),vi (0:Int),vi (errK l [])]⟩))∧((errC (rkVN1 l) !=(0:Int))=false→(((↑(0:Nat):Int) !=(l.length:Int))=true→True∧Ob (Value.tuple ⟨[vi (0:Int),vi (0:Int),vi (15:Int)]⟩=Value.tuple ⟨[vi (0:Int),vi (0:Int),vi (errK l [])]⟩))∧(((↑(0:Nat):Int) !=(l.length:Int))=false→(∃ (y:Nat),Ob (y≤0∧errC l=(0:Int)∧0=l.length∧∀ (j:Nat),j<y→(0:Int)≤([]:List Int).getD j (0:Int)∧([]:List Int).getD j (0:Int)≤(1000:Int))∧(Ob (AObj.ro (List.map (Value.int IntKind.i64) l)=AObj.ro (List.map (nmap1 fun (b:Nat)↦b) (List.map (Value.int IntKind.i64) l))∧AObj.sc 1 (AObj.ro (List.map (Value.int IntKind.i64) l))=true)∧True)∧Ob (Value.slice (some (ad0 0)) l.length c=Value.slice (some (ad0 0)) l.length c)∧Ob (Value.slice none 0 0=Value.slice none 0 0)∧Ob ((0:Int)=(0:Int))∧Ob ((0:Int)=(0:Int))∧Ob ((0:Int)=(0:Int))∧Ob ((0:Int)=(y:Int))∧True)∧∀ (x:Nat),Ob (x≤0∧errC l=(0:Int)∧0=l.length∧∀ (j:Nat),j<x→(0:Int)≤([]:List Int).getD j (0:Int)∧([]:List Int).getD j (0:Int)≤(1000:Int))→(decide ((x:Int)<(↑(0:Nat):Int))=true→False)∧(decide ((x:Int)<(↑(0:Nat):Int))=false→Ob ((rkVN0 l)∧False)∧False)))
theorem rkVN_eq : rkVN = fun (l : List Int) (c : Nat) => vc Try.prog rkE 1 46 true (rkI l [] (.slice (some ⟨0,0,none⟩) l.length c) (.slice none 0 0) [ros l]) rkB [] (argFr 0 [.slice (some ⟨0,0,none⟩) l.length c,.slice none 0 0]) [ros l] (retK Try.prog Try.f21 (fun v _ => v = .tuple #[vi 0,vi 0,vi (errK l [])])) := by kernel_rfl
noncomputable def rkVH0 (l:List Int):Prop := (List.take l.length (List.drop 0 (List.map (Value.int IntKind.i64) l))=List.map (Value.int IntKind.i64) (List.take l.length (List.drop 0 (intsOf (List.map (Value.int IntKind.i64) l))))∧0+l.length≤(List.map (Value.int IntKind.i64) l).length∧true=true)
noncomputable def rkVH1 (l:List Int) := (List.take l.length (List.drop 0 (intsOf (List.map (Value.int IntKind.i64) l))))
noncomputable def rkVH :=
fun (l:List Int) (c:Nat) (s:Option Nat) (d:Nat)↦Ob ((rkVH0 l)∧(rkVH1 l).length≤1000000)∧((errC (rkVH1 l) !=(0:Int))=true→Ob ((rkVH0 l)∧(rkVH1 l).length≤1000000)∧True∧Ob (Value.tuple ⟨[vi (0:Int),vi (0:Int),vi (errC (rkVH1 l))]⟩=Value.tuple ⟨[vi (0:Int),vi (0:Int),vi (errK l [])]⟩))∧((errC (rkVH1 l) !=(0:Int))=false→(((↑(0:Nat):Int) !=(l.length:Int))=true→True∧Ob (Value.tuple ⟨[vi (0:Int),vi (0:Int),vi (15:Int)]⟩=Value.tuple ⟨[vi (0:Int),vi (0:Int),vi (errK l [])]⟩))∧(((↑(0:Nat):Int) !=(l.length:Int))=false→(∃ (y:Nat),Ob (y≤0∧errC l=(0:Int)∧0=l.length∧∀ (j:Nat),j<y→(0:Int)≤([]:List Int).getD j (0:Int)∧([]:List Int).getD j (0:Int)≤(1000:Int))∧(Ob (AObj.ro (List.map (Value.int IntKind.i64) l)=AObj.ro (List.map (nmap1 fun (b:Nat)↦b) (List.map (Value.int IntKind.i64) l))∧AObj.sc 2 (AObj.ro (List.map (Value.int IntKind.i64) l))=true)∧True)∧Ob (Value.slice (some (ad0 0)) l.length c=Value.slice (some (ad0 0)) l.length c)∧Ob (Value.slice (some ⟨1,0,s⟩) 0 d=Value.slice (some ⟨1,0,s⟩) 0 d)∧Ob ((0:Int)=(0:Int))∧Ob ((0:Int)=(0:Int))∧Ob ((0:Int)=(0:Int))∧Ob ((0:Int)=(y:Int))∧True)∧∀ (x:Nat),Ob (x≤0∧errC l=(0:Int)∧0=l.length∧∀ (j:Nat),j<x→(0:Int)≤([]:List Int).getD j (0:Int)∧([]:List Int).getD j (0:Int)≤(1000:Int))→(decide ((x:Int)<(↑(0:Nat):Int))=true→Ob ((0:Int)≤(x:Int)∧(x:Int)<(↑(0:Nat):Int)∧std ⟨1,0,s⟩ d=true)∧False)∧(decide ((x:Int)<(↑(0:Nat):Int))=false→Ob ((rkVH0 l)∧False)∧False)))
theorem rkVH_eq : rkVH = fun (l : List Int) (c : Nat) (s : Option Nat) (d : Nat) => vc Try.prog rkE 2 46 true (rkI l [] (.slice (some ⟨0,0,none⟩) l.length c) (.slice (some ⟨1,0,s⟩) 0 d) [ros l,.gone]) rkB [] (argFr 0 [.slice (some ⟨0,0,none⟩) l.length c,.slice (some ⟨1,0,s⟩) 0 d]) [ros l,.gone] (retK Try.prog Try.f21 (fun v _ => v = .tuple #[vi 0,vi 0,vi (errK l [])])) := by kernel_rfl
noncomputable def rkNN0  : Array Value := { toList := [vi (0 : Int),vi (0 : Int),vi (6 : Int)] }
noncomputable def rkNN :=
fun (x:Unit)↦Ob True∧(true=true→Ob True∧True∧Ob (Value.tuple rkNN0=Value.tuple rkNN0))∧(true=false→(false=true→True∧Ob (Value.tuple ⟨[vi (0:Int),vi (0:Int),vi (15:Int)]⟩=Value.tuple rkNN0))∧(false=false→False))
theorem rkNN_eq : rkNN = fun (_ : Unit) => vc Try.prog rkE 0 46 true (fun _ => none) rkB [] (argFr 0 [.slice none 0 0,.slice none 0 0]) [] (retK Try.prog Try.f21 (fun v _ => v = .tuple #[vi 0,vi 0,vi 6])) := by kernel_rfl
noncomputable def rkNH0  : Array Value := { toList := [vi (0 : Int),vi (0 : Int),vi (6 : Int)] }
noncomputable def rkNH :=
fun (d:Nat) (t:Option Nat)↦Ob True∧(true=true→Ob True∧True∧Ob (Value.tuple rkNH0=Value.tuple rkNH0))∧(true=false→(false=true→True∧Ob (Value.tuple ⟨[vi (0:Int),vi (0:Int),vi (15:Int)]⟩=Value.tuple rkNH0))∧(false=false→False))
theorem rkNH_eq : rkNH = fun (d : Nat) (t : Option Nat) => vc Try.prog rkE 1 46 true (fun _ => none) rkB [] (argFr 0 [.slice none 0 0,.slice (some ⟨0,0,t⟩) 0 d]) [.gone] (retK Try.prog Try.f21 (fun v _ => v = .tuple #[vi 0,vi 0,vi 6])) := by kernel_rfl
noncomputable def rkNV0  : Array Value := { toList := [vi (0 : Int),vi (0 : Int),vi (6 : Int)] }
noncomputable def rkNV :=
fun (m:List Int) (d:Nat)↦Ob True∧(true=true→Ob True∧True∧Ob (Value.tuple rkNV0=Value.tuple rkNV0))∧(true=false→(((m.length:Int) !=(↑(0:Nat):Int))=true→True∧Ob (Value.tuple ⟨[vi (0:Int),vi (0:Int),vi (15:Int)]⟩=Value.tuple rkNV0))∧(((m.length:Int) !=(↑(0:Nat):Int))=false→False))
theorem rkNV_eq : rkNV = fun (m : List Int) (d : Nat) => vc Try.prog rkE 1 46 true (fun _ => none) rkB [] (argFr 0 [.slice none 0 0,.slice (some ⟨0,0,none⟩) m.length d]) [ros m] (retK Try.prog Try.f21 (fun v _ => v = .tuple #[vi 0,vi 0,vi 6])) := by kernel_rfl
noncomputable def rkHN0  : Array Value := { toList := [vi (0 : Int),vi (0 : Int),vi (6 : Int)] }
noncomputable def rkHN :=
fun (c:Nat) (s:Option Nat)↦Ob True∧(true=true→Ob True∧True∧Ob (Value.tuple rkHN0=Value.tuple rkHN0))∧(true=false→(false=true→True∧Ob (Value.tuple ⟨[vi (0:Int),vi (0:Int),vi (15:Int)]⟩=Value.tuple rkHN0))∧(false=false→False))
theorem rkHN_eq : rkHN = fun (c : Nat) (s : Option Nat) => vc Try.prog rkE 1 46 true (fun _ => none) rkB [] (argFr 0 [.slice (some ⟨0,0,s⟩) 0 c,.slice none 0 0]) [.gone] (retK Try.prog Try.f21 (fun v _ => v = .tuple #[vi 0,vi 0,vi 6])) := by kernel_rfl
noncomputable def rkHH0  : Array Value := { toList := [vi (0 : Int),vi (0 : Int),vi (6 : Int)] }
noncomputable def rkHH :=
fun (c:Nat) (s:Option Nat) (d:Nat) (t:Option Nat)↦Ob True∧(true=true→Ob True∧True∧Ob (Value.tuple rkHH0=Value.tuple rkHH0))∧(true=false→(false=true→True∧Ob (Value.tuple ⟨[vi (0:Int),vi (0:Int),vi (15:Int)]⟩=Value.tuple rkHH0))∧(false=false→False))
theorem rkHH_eq : rkHH = fun (c : Nat) (s : Option Nat) (d : Nat) (t : Option Nat) => vc Try.prog rkE 2 46 true (fun _ => none) rkB [] (argFr 0 [.slice (some ⟨0,0,s⟩) 0 c,.slice (some ⟨1,0,t⟩) 0 d]) [.gone,.gone] (retK Try.prog Try.f21 (fun v _ => v = .tuple #[vi 0,vi 0,vi 6])) := by kernel_rfl
noncomputable def rkHV0  : Array Value := { toList := [vi (0 : Int),vi (0 : Int),vi (6 : Int)] }
noncomputable def rkHV :=
fun (c:Nat) (s:Option Nat) (m:List Int) (d:Nat)↦Ob True∧(true=true→Ob True∧True∧Ob (Value.tuple rkHV0=Value.tuple rkHV0))∧(true=false→(((m.length:Int) !=(↑(0:Nat):Int))=true→True∧Ob (Value.tuple ⟨[vi (0:Int),vi (0:Int),vi (15:Int)]⟩=Value.tuple rkHV0))∧(((m.length:Int) !=(↑(0:Nat):Int))=false→False))
theorem rkHV_eq : rkHV = fun (c : Nat) (s : Option Nat) (m : List Int) (d : Nat) => vc Try.prog rkE 2 46 true (fun _ => none) rkB [] (argFr 0 [.slice (some ⟨0,0,s⟩) 0 c,.slice (some ⟨1,0,none⟩) m.length d]) [.gone,ros m] (retK Try.prog Try.f21 (fun v _ => v = .tuple #[vi 0,vi 0,vi 6])) := by kernel_rfl
theorem three_eq {x y z x' y' z' : Int} (h1 : x = x') (h2 : y = y') (h3 : z = z') : ({ toList := [vi x,vi y,vi z] } : Array Value) = { toList := [vi x',vi y',vi z'] } := by rw [h1,h2,h3]
theorem chA_no {l m : List Int} (h : errK l m ≠ 0) : chA l m = 0 := by rw [chA,if_neg h]
theorem chM_no {l m : List Int} (h : errK l m ≠ 0) : chM l m = 0 := by rw [chM,if_neg h]
theorem chk_no {l m : List Int} {e : Int} (h : errK l m = e) (he : e ≠ 0) : ({ toList := [vi 0,vi 0,vi e] } : Array Value) = { toList := [vi (chA l m),vi (chM l m),vi (errK l m)] } :=
 three_eq (chA_no (by rw [h]; exact he)).symm (chM_no (by rw [h]; exact he)).symm h.symm
theorem errK_c {l m : List Int} (h : errC l ≠ 0) : errK l m = errC l := by rw [errK,if_pos h]
theorem errK_15 {l m : List Int} (h : errC l = 0) (h2 : m.length ≠ l.length) : errK l m = 15 := by rw [errK,if_neg (fun k => k h),if_pos h2]
theorem errK_3 {l m : List Int} (h : errC l = 0) (h2 : m.length = l.length) (h3 : ¬ ∀ x ∈ m,0≤x∧x≤1000) : errK l m = 3 := by
 rw [errK,if_neg (fun k => k h),if_neg (fun k => k h2),if_pos (by rw [wiF,decide_eq_false_iff_not]; exact h3)]
theorem errK_0 {l m : List Int} (h : errC l = 0) (h2 : m.length = l.length) (h3 : ∀ x ∈ m,0≤x∧x≤1000) : errK l m = 0 := by
 rw [errK,if_neg (fun k => k h),if_neg (fun k => k h2),if_neg (by rw [show wiF 0 1000 m = true from decide_eq_true h3]; exact Bool.noConfusion)]
theorem rkVV_ok (l m : List Int) (c d : Nat) (hl : l.length≤1000000) (hm : m.length≤1000000) : rkVV l m c d := by
 unfold rkVV rkVV7 rkVV6 rkVV5 rkVV4 rkVV3 rkVV2 rkVV1 rkVV0
 simp only [SS,reduceCtorEq,Arg.list,Arg.num,Arg.flag,intOf,andP,Nat.reduceLeDiff,Nat.reduceAdd,Nat.reduceMul,Nat.reduceLT]
 refine ⟨hl,fun h => ⟨hl,chk_no (errK_c h) h⟩,fun h => ⟨fun h2 => chk_no (errK_15 h (by omega)) (by decide),fun h2 => ⟨⟨0,⟨by omega,h,by omega,all_none⟩,rfl⟩,fun x ⟨hx,_,he,hj⟩ => ⟨fun h3 => ?_,fun h3 => ?_⟩⟩⟩⟩
 · have no : ¬ (0≤m.getD x 0∧m.getD x 0≤1000)→({ toList := [vi 0,vi 0,vi 3] } : Array Value) = { toList := [vi (chA l m),vi (chM l m),vi (errK l m)] } := fun hn => chk_no (errK_3 h he fun hh => hn (hh _ (ints_mem (by omega)))) (by decide)
   exact ⟨by omega,by omega,fun h4 => ⟨by omega,by omega,fun h5 => no (by omega),fun h5 => ⟨x + 1,⟨by omega,h,he,all_snoc hj (by omega)⟩,by omega,wrap_succ (n := 1000000) (by omega) (by omega)⟩⟩,fun h4 => no (by omega)⟩
 · have hc := errC_ok.1 h
   have hall : ∀ y ∈ m,0≤y∧y≤1000 := ints_all (i := x) (by omega) hj
   have h0 := errK_0 h he hall
   have := hc.few
   refine ⟨⟨by omega,by omega,fun j hj => by have := coin_rng hc hj; omega,fun j hj2 => by have := hj j (by omega); omega⟩,three_eq ?_ ?_ h0.symm⟩
   · rw [chA,if_pos h0]
   · rw [chM,if_pos h0]
theorem rkVN_ok (l : List Int) (c : Nat) (hl : l.length≤1000000) : rkVN l c := by
 unfold rkVN rkVN1 rkVN0
 simp only [SS,reduceCtorEq,Arg.list,Arg.num,Arg.flag,intOf,andP,Nat.reduceLeDiff,Nat.reduceAdd,Nat.reduceMul,Nat.reduceLT]
 refine ⟨hl,fun h => ⟨hl,three_eq rfl rfl (errK_c h).symm⟩,fun h => ⟨fun h2 => three_eq rfl rfl (errK_15 h (by simp; omega)).symm,fun h2 => ?_⟩⟩
 have := (errC_ok.1 h).pos
 omega
theorem rkVH_ok (l : List Int) (c : Nat) (s : Option Nat) (d : Nat) (hl : l.length≤1000000) : rkVH l c s d := by
 unfold rkVH rkVH1 rkVH0
 simp only [SS,reduceCtorEq,Arg.list,Arg.num,Arg.flag,intOf,andP,Nat.reduceLeDiff,Nat.reduceAdd,Nat.reduceMul,Nat.reduceLT]
 refine ⟨hl,fun h => ⟨hl,three_eq rfl rfl (errK_c h).symm⟩,fun h => ⟨fun h2 => three_eq rfl rfl (errK_15 h (by simp; omega)).symm,fun h2 => ?_⟩⟩
 have := (errC_ok.1 h).pos
 omega
theorem rkE_ok : VOk Try.prog rkE := VOk.ofCt ((CtOk.none.add rcG_ok).add suG_ok)
def rkS (r : List Arg) : Prop × Value := match r with
 | [.ints _ l,.ints _ m] => (l.length≤1000000∧m.length≤1000000,.tuple #[vi (chA l m),vi (chM l m),vi (errK l m)])
 | [.ints _ l,_] => (l.length≤1000000,.tuple #[vi 0,vi 0,vi (errK l [])])
 | [_,.ints _ m] => (m.length≤1000000,.tuple #[vi 0,vi 0,vi 6])
 | [_,_] => (True,.tuple #[vi 0,vi 0,vi 6])
 | _ => (False,undef)
theorem rkNN_ok (u : Unit) : rkNN u := by
 unfold rkNN rkNN0
 simp only [SS,reduceCtorEq,Arg.list,Arg.num,Arg.flag,intOf,andP,Nat.reduceLeDiff,Nat.reduceAdd,Nat.reduceMul,Nat.reduceLT]
theorem rkNH_ok (d : Nat) (t : Option Nat) : rkNH d t := by
 unfold rkNH rkNH0
 simp only [SS,reduceCtorEq,Arg.list,Arg.num,Arg.flag,intOf,andP,Nat.reduceLeDiff,Nat.reduceAdd,Nat.reduceMul,Nat.reduceLT]
theorem rkNV_ok (m : List Int) (d : Nat) (hm : m.length≤1000000) : rkNV m d := by
 unfold rkNV rkNV0
 simp only [SS,reduceCtorEq,Arg.list,Arg.num,Arg.flag,intOf,andP,Nat.reduceLeDiff,Nat.reduceAdd,Nat.reduceMul,Nat.reduceLT]
theorem rkHN_ok (c : Nat) (s : Option Nat) : rkHN c s := by
 unfold rkHN rkHN0
 simp only [SS,reduceCtorEq,Arg.list,Arg.num,Arg.flag,intOf,andP,Nat.reduceLeDiff,Nat.reduceAdd,Nat.reduceMul,Nat.reduceLT]
theorem rkHH_ok (c : Nat) (s : Option Nat) (d : Nat) (t : Option Nat) : rkHH c s d t := by
 unfold rkHH rkHH0
 simp only [SS,reduceCtorEq,Arg.list,Arg.num,Arg.flag,intOf,andP,Nat.reduceLeDiff,Nat.reduceAdd,Nat.reduceMul,Nat.reduceLT]
theorem rkHV_ok (c : Nat) (s : Option Nat) (m : List Int) (d : Nat) (hm : m.length≤1000000) : rkHV c s m d := by
 unfold rkHV rkHV0
 simp only [SS,reduceCtorEq,Arg.list,Arg.num,Arg.flag,intOf,andP,Nat.reduceLeDiff,Nat.reduceAdd,Nat.reduceMul,Nat.reduceLT]
theorem rkG_ok : ∀ args H φ v H' l,pureG [.ints .i64,.ints .i64] rkS args H = some (φ,v,H',l)→Asks φ→Call Try.prog 21 args H (fun v' H2 => v' = v∧H2 = H')∧Kept H H' l :=
 pureG_ok fun r hk hs => match r,hk with
   | [_,_],⟨hl,hm,_⟩ => by
     rcases hl with rfl | ⟨s,rfl⟩ | ⟨l,rfl⟩ <;> rcases hm with rfl | ⟨t,rfl⟩ | ⟨m,rfl⟩
     · exact ⟨by simp [rkS,sc,sc2,sc1,sc0],fun caps => Call.ofVc rkE_ok mixed (c := rkB) (inv := fun _ => none) Try.func21 (by kernel_rfl) (cast (congrFun rkNN_eq ()) (rkNN_ok ()))⟩
     · exact ⟨by simp [rkS,sc,sc2,sc1,sc0],fun caps => Call.ofVc rkE_ok mixed (c := rkB) (inv := fun _ => none) Try.func21 (by kernel_rfl) (cast (congrFun (congrFun rkNH_eq (caps 0)) t) (rkNH_ok (caps 0) t))⟩
     · exact ⟨by simp [rkS,sc,sc2,sc1,sc0],fun caps => Call.ofVc rkE_ok mixed (c := rkB) (inv := fun _ => none) Try.func21 (by kernel_rfl) (cast (congrFun (congrFun rkNV_eq m) (caps 0)) (rkNV_ok m (caps 0) hs))⟩
     · exact ⟨by simp [rkS,sc,sc2,sc1,sc0],fun caps => Call.ofVc rkE_ok mixed (c := rkB) (inv := fun _ => none) Try.func21 (by kernel_rfl) (cast (congrFun (congrFun rkHN_eq (caps 0)) s) (rkHN_ok (caps 0) s))⟩
     · exact ⟨by simp [rkS,sc,sc2,sc1,sc0],fun caps => Call.ofVc rkE_ok mixed (c := rkB) (inv := fun _ => none) Try.func21 (by kernel_rfl) (cast (congrFun (congrFun (congrFun (congrFun rkHH_eq (caps 0)) s) (caps 1)) t) (rkHH_ok (caps 0) s (caps 1) t))⟩
     · exact ⟨by simp [rkS,sc,sc2,sc1,sc0],fun caps => Call.ofVc rkE_ok mixed (c := rkB) (inv := fun _ => none) Try.func21 (by kernel_rfl) (cast (congrFun (congrFun (congrFun (congrFun rkHV_eq (caps 0)) s) m) (caps 1)) (rkHV_ok (caps 0) s m (caps 1) hs))⟩
     · exact ⟨by simp [rkS,sc,sc2,sc1,sc0],fun caps => Call.ofVc rkE_ok mixed (c := rkB) (inv := rkI l [] (.slice (some ⟨0,0,none⟩) l.length (caps 0)) (.slice none 0 0) [ros l]) Try.func21 (by kernel_rfl) (cast (congrFun (congrFun rkVN_eq l) (caps 0)) (rkVN_ok l (caps 0) hs))⟩
     · exact ⟨by simp [rkS,sc,sc2,sc1,sc0],fun caps => Call.ofVc rkE_ok mixed (c := rkB) (inv := rkI l [] (.slice (some ⟨0,0,none⟩) l.length (caps 0)) (.slice (some ⟨1,0,t⟩) 0 (caps 1)) [ros l,.gone]) Try.func21 (by kernel_rfl) (cast (congrFun (congrFun (congrFun (congrFun rkVH_eq l) (caps 0)) t) (caps 1)) (rkVH_ok l (caps 0) t (caps 1) hs))⟩
     · exact ⟨by simp [rkS,sc,sc2,sc1,sc0],fun caps => Call.ofVc rkE_ok mixed (c := rkB) (inv := rkI l m (.slice (some ⟨0,0,none⟩) l.length (caps 0)) (.slice (some ⟨1,0,none⟩) m.length (caps 1)) [ros l,ros m]) Try.func21 (by kernel_rfl) (cast (congrFun (congrFun (congrFun (congrFun rkVV_eq l) m) (caps 0)) (caps 1)) (rkVV_ok l m (caps 0) (caps 1) hs.1 hs.2))⟩
end Go.Pier.Fl
namespace Go.Pier.Fl
open Go Go.Pier Go.Proofs
noncomputable def xgE (l : List Int) (c : Nat) : VEnv := { ct := (fwT.add 67 (cgCt l c)).add 74 (born3 [.agg [.rows [.i .i64] false],ps5] liS),cc := ccOr (ccIn Try.prog (tiE l c) [⟨66,Try.f66,fun _ _ _ => none⟩]) (ccIn Try.prog { ct := fwT.add 74 (born3 [.agg [.rows [.i .i64] false],ps5] liS) } [⟨71,Try.f71,fun _ _ _ => none⟩]) }
noncomputable def xgB : Code := Try.f26.body.getD .skip
def bestL (l : List Int) (a : Int) : List Int := List.take l.length (L5 (bF l a.toNat))
noncomputable def xgV0 (l:List Int) (a:Int):Array Value := ⟨[Value.slice none 0 0,vi (errN l a)]⟩
noncomputable def xgV1 (l:List Int) (a:Int) := (!(a==(0:Int) || !same5 (l5 (bF l a.toNat 0) (bF l a.toNat 1) (bF l a.toNat 2) (bF l a.toNat 3) (bF l a.toNat 4)) z5))
noncomputable def xgV2 (a:Int) := (!wiF (Arg.plain (vi (0:Int))).num (Arg.plain (vi (300:Int))).num [intOf (vi a)])
noncomputable def xgV3 (l:List Int) := (List.map (Value.int IntKind.i64) l)
noncomputable def xgV4 (a:Int):Prop := (([vi a]=[vi (intOf (vi a))]∧0+1≤1∧true=true)∧1≤1000000)
noncomputable def xgV5 (l:List Int) (a:Int):Prop := (Value.tuple ⟨[Value.slice none 0 0,vi (3:Int)]⟩=Value.tuple (xgV0 l a))
noncomputable def xgV6 (l:List Int) (a:Int):Prop := (Value.tuple ⟨[Value.slice none 0 0,vi (0:Int)]⟩=Value.tuple (xgV0 l a))
noncomputable def xgV7 (l:List Int) (a:Int):Prop := (Value.tuple ⟨[Value.slice none 0 0,vi (5:Int)]⟩=Value.tuple (xgV0 l a))
noncomputable def xgV8 (l:List Int) (a:Int):Prop := (Value.tuple ⟨[Value.slice none 0 0,vi (errC l)]⟩=Value.tuple (xgV0 l a))
noncomputable def xgV :=
fun (l:List Int) (c:Nat) (a:Int)↦Ob (some (AObj.ro (xgV3 l))=some (AObj.ro (xgV3 l))∧l.length=l.length∧c=c∧l.length≤1000000)∧(Ob (errC l≠(0:Int))→((errC l==(0:Int))=true→Ob (xgV4 a)∧((xgV2 a)=true→(true=true→True∧Ob (xgV5 l a))∧(true=false→False))∧((xgV2 a)=false→((errC l !=(0:Int))=true→True∧Ob (xgV8 l a))∧((errC l !=(0:Int))=false→False)))∧((errC l==(0:Int))=false→((errC l !=(0:Int))=true→True∧Ob (xgV8 l a))∧((errC l !=(0:Int))=false→False)))∧(Ob (errC l=(0:Int))→∀ (zl:List Int),Ob (isZ zl)→(true=true→Ob (xgV4 a)∧((xgV2 a)=true→(true=true→True∧Ob (xgV5 l a))∧(true=false→False))∧((xgV2 a)=false→(false=true→True∧Ob (xgV6 l a))∧(false=false→Ob (AtZ l c [AObj.ro (xgV3 l),AObj.rw (Value.slice (some (ad0 0)) l.length c::List.map (Value.int IntKind.i64) zl) none,AObj.rw [vi a] none]∧Coins l∧(0:Int)≤a∧a≤(5000:Int))∧Ob True∧((xgV1 l a)=true→True∧Ob (xgV7 l a))∧((xgV1 l a)=false→Ob ((true=true∧Flat (xgV3 l))∧okC (Leaf.view (xgV3 l) l.length false))∧True∧Ob (Value.tuple ⟨[Value.slice (some ⟨4,0,some 0⟩) l.length 0,vi (0:Int)]⟩=Value.tuple (xgV0 l a))))))∧(true=false→(false=true→True∧Ob (xgV6 l a))∧(false=false→Ob (AtZ l c [AObj.ro (xgV3 l),AObj.rw (Value.slice (some (ad0 0)) l.length c::List.map (Value.int IntKind.i64) zl) none]∧Coins l∧(0:Int)≤a∧a≤(5000:Int))∧Ob True∧((xgV1 l a)=true→True∧Ob (xgV7 l a))∧((xgV1 l a)=false→Ob ((true=true∧Flat (xgV3 l))∧okC (Leaf.view (xgV3 l) l.length false))∧True∧Ob (Value.tuple ⟨[Value.slice (some ⟨3,0,some 0⟩) l.length 0,vi (0:Int)]⟩=Value.tuple (xgV0 l a))))))
theorem xgV_eq : xgV = fun (l : List Int) (c : Nat) (a : Int) => vc Try.prog (xgE l c) 1 25 true (fun _ => none) xgB [] (argFr 0 [.slice (some ⟨0,0,none⟩) l.length c,vi a]) [ros l] (retK Try.prog Try.f26 (fun v H => v = .tuple #[.slice none 0 0,vi (errN l a)])) := by kernel_rfl
noncomputable def xgO0 (l:List Int):Prop := (AObj.ro (List.map (Value.int IntKind.i64) l)=AObj.ro (List.map (nmap1 (nsub 1 4)) (List.map (Value.int IntKind.i64) l))∧AObj.sc 2 (AObj.ro (List.map (Value.int IntKind.i64) l))=true)
noncomputable def xgO1 (l:List Int):Array Value := ⟨[Value.slice (some ⟨4,0,some 0⟩) l.length 0,vi (0:Int)]⟩
noncomputable def xgO2 (l:List Int) (a:Int) := (!(a==(0:Int) || !same5 (l5 (bF l a.toNat 0) (bF l a.toNat 1) (bF l a.toNat 2) (bF l a.toNat 3) (bF l a.toNat 4)) z5))
noncomputable def xgO3 (a:Int) := (!wiF (Arg.plain (vi (0:Int))).num (Arg.plain (vi (300:Int))).num [intOf (vi a)])
noncomputable def xgO4  := (Value.int IntKind.i64)
noncomputable def xgO5 (a:Int):Prop := (([vi a]=[vi (intOf (vi a))]∧0+1≤1∧true=true)∧1≤1000000)
noncomputable def xgO6 (l:List Int):Prop := (Value.tuple ⟨[Value.slice none 0 0,vi (3:Int)]⟩=Value.tuple (xgO1 l))
noncomputable def xgO7 (l:List Int):Prop := (Value.tuple ⟨[Value.slice none 0 0,vi (0:Int)]⟩=Value.tuple (xgO1 l))
noncomputable def xgO8 (l:List Int):Prop := (Value.tuple ⟨[Value.slice none 0 0,vi (5:Int)]⟩=Value.tuple (xgO1 l))
noncomputable def xgO9 (l:List Int):Prop := (Value.tuple ⟨[Value.slice none 0 0,vi (errC l)]⟩=Value.tuple (xgO1 l))
noncomputable def xgO10 (l:List Int):Prop := ((true=true∧Flat (List.map xgO4 l))∧okC (Leaf.view (List.map xgO4 l) l.length false))
noncomputable def xgO :=
fun (l:List Int) (c:Nat) (a:Int)↦Ob (some (AObj.ro (List.map xgO4 l))=some (AObj.ro (List.map xgO4 l))∧l.length=l.length∧c=c∧l.length≤1000000)∧(Ob (errC l≠(0:Int))→((errC l==(0:Int))=true→Ob (xgO5 a)∧((xgO3 a)=true→(true=true→(Ob (xgO0 l)∧False)∧Ob (xgO6 l)∧True)∧(true=false→False))∧((xgO3 a)=false→((errC l !=(0:Int))=true→(Ob (xgO0 l)∧False)∧Ob (xgO9 l)∧True)∧((errC l !=(0:Int))=false→False)))∧((errC l==(0:Int))=false→((errC l !=(0:Int))=true→(Ob (xgO0 l)∧False)∧Ob (xgO9 l)∧True)∧((errC l !=(0:Int))=false→False)))∧(Ob (errC l=(0:Int))→∀ (zl:List Int),Ob (isZ zl)→(true=true→Ob (xgO5 a)∧((xgO3 a)=true→(true=true→(Ob (xgO0 l)∧False)∧Ob (xgO6 l)∧True)∧(true=false→False))∧((xgO3 a)=false→(false=true→(Ob (xgO0 l)∧False)∧Ob (xgO7 l)∧True)∧(false=false→Ob (AtZ l c [AObj.ro (List.map xgO4 l),AObj.rw (Value.slice (some (ad0 0)) l.length c::List.map xgO4 zl) none,AObj.rw [vi a] none]∧Coins l∧(0:Int)≤a∧a≤(5000:Int))∧Ob True∧((xgO2 l a)=true→(Ob (xgO0 l)∧False)∧Ob (xgO8 l)∧True)∧((xgO2 l a)=false→Ob (xgO10 l)∧(Ob (xgO0 l)∧Ob (AObj.rw (List.map xgO4 (List.take l.length [l5 (bF l a.toNat 0) (bF l a.toNat 1) (bF l a.toNat 2) (bF l a.toNat 3) (bF l a.toNat 4) 0,l5 (bF l a.toNat 0) (bF l a.toNat 1) (bF l a.toNat 2) (bF l a.toNat 3) (bF l a.toNat 4) 1,l5 (bF l a.toNat 0) (bF l a.toNat 1) (bF l a.toNat 2) (bF l a.toNat 3) (bF l a.toNat 4) 2,l5 (bF l a.toNat 0) (bF l a.toNat 1) (bF l a.toNat 2) (bF l a.toNat 3) (bF l a.toNat 4) 3,l5 (bF l a.toNat 0) (bF l a.toNat 1) (bF l a.toNat 2) (bF l a.toNat 3) (bF l a.toNat 4) 4])) (some 1)=AObj.rw (List.map (nmap1 (nsub 1 4)) (List.map xgO4 (bestL l a))) (some 1)∧AObj.sc 2 (AObj.rw (List.map xgO4 (bestL l a)) (some 1))=true)∧True)∧Ob (Value.tuple (xgO1 l)=Value.tuple (xgO1 l))∧True))))∧(true=false→(false=true→(Ob (xgO0 l)∧False)∧Ob (xgO7 l)∧True)∧(false=false→Ob (AtZ l c [AObj.ro (List.map xgO4 l),AObj.rw (Value.slice (some (ad0 0)) l.length c::List.map xgO4 zl) none]∧Coins l∧(0:Int)≤a∧a≤(5000:Int))∧Ob True∧((xgO2 l a)=true→(Ob (xgO0 l)∧False)∧Ob (xgO8 l)∧True)∧((xgO2 l a)=false→Ob (xgO10 l)∧(Ob (xgO0 l)∧False)∧Ob (Value.tuple ⟨[Value.slice (some ⟨3,0,some 0⟩) l.length 0,vi (0:Int)]⟩=Value.tuple (xgO1 l))∧True))))
noncomputable def xgN0  : Array Value := { toList := [Value.slice none (0 : Nat) (0 : Nat),vi (6 : Int)] }
noncomputable def xgN1 (a:Int) := (!wiF (Arg.plain (vi (0:Int))).num (Arg.plain (vi (300:Int))).num [intOf (vi a)])
noncomputable def xgN :=
fun (a:Int)↦Ob True∧(false=true→Ob (([vi a]=[vi (intOf (vi a))]∧1≤1∧true=true)∧1≤1000000)∧((xgN1 a)=true→(true=true→True∧Ob (Value.tuple ⟨[Value.slice none 0 0,vi (3:Int)]⟩=Value.tuple xgN0))∧(true=false→False))∧((xgN1 a)=false→(true=true→True∧Ob (Value.tuple xgN0=Value.tuple xgN0))∧(true=false→False)))∧(false=false→(true=true→True∧Ob (Value.tuple xgN0=Value.tuple xgN0))∧(true=false→False))
theorem xgN_eq : xgN = fun (a : Int) => vc Try.prog fnE 0 25 true (fun _ => none) xgB [] (argFr 0 [.slice none 0 0,vi a]) [] (retK Try.prog Try.f26 (fun v H => v = .tuple #[.slice none 0 0,vi 6])) := by kernel_rfl
noncomputable def xgH0  : Array Value := { toList := [Value.slice none (0 : Nat) (0 : Nat),vi (6 : Int)] }
noncomputable def xgH1 (a:Int) := (!wiF (Arg.plain (vi (0:Int))).num (Arg.plain (vi (300:Int))).num [intOf (vi a)])
noncomputable def xgH :=
fun (s:Option Nat) (c:Nat) (a:Int)↦Ob True∧(false=true→Ob (([vi a]=[vi (intOf (vi a))]∧1≤1∧true=true)∧1≤1000000)∧((xgH1 a)=true→(true=true→True∧Ob (Value.tuple ⟨[Value.slice none 0 0,vi (3:Int)]⟩=Value.tuple xgH0))∧(true=false→False))∧((xgH1 a)=false→(true=true→True∧Ob (Value.tuple xgH0=Value.tuple xgH0))∧(true=false→False)))∧(false=false→(true=true→True∧Ob (Value.tuple xgH0=Value.tuple xgH0))∧(true=false→False))
theorem xgH_eq : xgH = fun (s : Option Nat) (c : Nat) (a : Int) => vc Try.prog fnE 1 25 true (fun _ => none) xgB [] (argFr 0 [.slice (some ⟨0,0,s⟩) 0 c,vi a]) [.gone] (retK Try.prog Try.f26 (fun v H => v = .tuple #[.slice none 0 0,vi 6])) := by kernel_rfl
theorem nil_eq {x y : Int} (h : x = y) : ({ toList := [Value.slice none 0 0,vi x] } : Array Value) = { toList := [Value.slice none 0 0,vi y] } := by rw [h]
theorem okC_of {l : List Int} (hc : Coins l) {r : Bool} : okC (Leaf.view (List.map (Value.int .i64) l) l.length r) := ⟨by rw [intsOf_map],by simp,hc.pos,hc.few⟩
theorem xgV_ok (l : List Int) (c : Nat) (a : Int) (hl : l.length≤1000000) (hn : errN l a ≠ 0) : xgV l c a := by
 unfold xgV xgV8 xgV7 xgV6 xgV5 xgV4 xgV3 xgV2 xgV1 xgV0
 simp only [SS,reduceCtorEq,Arg.list,Arg.num,Arg.flag,intOf,andP,Nat.reduceLeDiff,Nat.reduceAdd,Nat.reduceMul,Nat.reduceLT]
 refine ⟨hl,fun he => ⟨fun h => absurd h he,fun _ => ⟨fun _ => nil_eq (by rw [errN_a (by rw [errA_c he]; exact he),errA_c he]),fun h => he h⟩⟩,fun he zl hz => ⟨fun h => ?_,fun h => ?_⟩⟩
 · have h3 := errA_3 he ((wi_300 h).2 rfl)
   exact nil_eq (by rw [errN_a (by rw [h3]; decide),h3])
 · have hr := (wi_300 h).1 rfl
   have hc := errC_ok.1 he
   have h0 : errA l a = 0 := errA_0.2 ⟨he,hr⟩
   exact ⟨⟨at_z,hc,by omega,by omega⟩,fun h4 => nil_eq (errN_5 h0 (can_ofI hr.1 h4)).symm,fun h4 => absurd (errN_0 h0 (can_ofI hr.1 h4)) hn⟩
theorem xgO_ok (l : List Int) (c : Nat) (a : Int) (hn : errN l a = 0) : xgO l c a := by
 unfold xgO xgO10 xgO9 xgO8 xgO7 xgO6 xgO5 xgO4 xgO3 xgO2 xgO1 xgO0
 simp only [SS,reduceCtorEq,Arg.list,Arg.num,Arg.flag,intOf,andP,Nat.reduceLeDiff,Nat.reduceAdd,Nat.reduceMul,Nat.reduceLT,til_sc,nm_sl]
 have h0 : errA l a = 0 := by
   by_cases h : errA l a = 0
   · exact h
   · rw [errN_a h] at hn; exact absurd hn h
 obtain ⟨he,hr⟩ := errA_0.1 h0
 have hc := errC_ok.1 he
 have := hc.few
 refine ⟨by omega,fun h => absurd he h,fun _ zl hz => ⟨fun h => (wi_300 h).2 rfl hr,fun h => ⟨⟨at_z,hc,by omega,by omega⟩,fun h4 => ?_,fun h4 => ⟨⟨all_sc_int,okC_of hc⟩,rfl⟩⟩⟩⟩
 rw [errN_5 h0 (can_ofI hr.1 h4)] at hn
 cases hn
theorem xgN_ok (a : Int) : xgN a := by
 unfold xgN xgN1 xgN0
 simp only [SS,reduceCtorEq,Arg.list,Arg.num,Arg.flag,intOf,andP,Nat.reduceLeDiff,Nat.reduceAdd,Nat.reduceMul,Nat.reduceLT]
theorem xgH_ok (s : Option Nat) (c : Nat) (a : Int) : xgH s c a := by
 unfold xgH xgH1 xgH0
 simp only [SS,reduceCtorEq,Arg.list,Arg.num,Arg.flag,intOf,andP,Nat.reduceLeDiff,Nat.reduceAdd,Nat.reduceMul,Nat.reduceLT]
noncomputable def xg1E : VEnv := { ct := fwT.add 74 (born3 [.agg [.rows [.i .i64] false],ps5] liS) }
theorem xg1E_ok : VOk Try.prog xg1E := VOk.ofCt (fwT_ok.add liG_ok)
theorem xgE_ok {l : List Int} {c : Nat} : VOk Try.prog (xgE l c) := ⟨(fwT_ok.add cgCt_ok).add liG_ok,ccOr_ok (ccIn_ok tiE_ok mixed (inl_one Try.func66)) (ccIn_ok xg1E_ok mixed (inl_one Try.func71)),E0_ok.yc,E0_ok.orc⟩
def xgES (r : List Arg) : Prop × Value := match r with
 | [.ints _ l,.plain (.int .i64 a)] => (l.length≤1000000∧errN l a ≠ 0,.tuple #[.slice none 0 0,vi (errN l a)])
 | [_,.plain (.int .i64 _)] => (True,.tuple #[.slice none 0 0,vi 6])
 | _ => (False,undef)
theorem xgEG_ok : ∀ args H φ v H' l,pureG [.ints .i64,.int .i64] xgES args H = some (φ,v,H',l)→Asks φ→Call Try.prog 26 args H (fun v' H2 => v' = v∧H2 = H')∧Kept H H' l :=
 pureG_ok fun r hk hs => match r,hk with
   | [_,_],⟨hl,⟨a,ha⟩,_⟩ => by
     subst ha
     rcases hl with rfl | ⟨s,rfl⟩ | ⟨l,rfl⟩
     · exact ⟨by simp [xgES,sc,sc2,sc1,sc0],fun caps => Call.ofVc fnE_ok mixed (c := xgB) (inv := fun _ => none) Try.func26 (by kernel_rfl) (cast (congrFun xgN_eq a) (xgN_ok a))⟩
     · exact ⟨by simp [xgES,sc,sc2,sc1,sc0],fun caps => Call.ofVc fnE_ok mixed (c := xgB) (inv := fun _ => none) Try.func26 (by kernel_rfl) (cast (congrFun (congrFun (congrFun xgH_eq s) (caps 0)) a) (xgH_ok s _ a))⟩
     · exact ⟨by simp [xgES,sc,sc2,sc1,sc0],fun caps => Call.ofVc xgE_ok mixed (c := xgB) (inv := fun _ => none) Try.func26 (by kernel_rfl) (cast (congrFun (congrFun (congrFun xgV_eq l) (caps 0)) a) (xgV_ok l _ a hs.1 hs.2))⟩
def xgOS (r : List Arg) : Option (Prop × Back) := match r with
 | [.ints _ l,.plain (.int .i64 a)] => some (errN l a = 0,.both (bestL l a) [vi 0])
 | _ => none
theorem best_len {l : List Int} {a : Int} (h : l.length≤5) : (bestL l a).length = l.length := tk_len h
theorem xgOG_ok : ∀ args H φ v H' l,newG [.ints .i64,.int .i64] xgOS args H = some (φ,v,H',l)→Asks φ→Call Try.prog 26 args H (fun v' H2 => v' = v∧H2 = H')∧Kept H H' l :=
 newG_ok fun r ψ b hk hs hψ => match r,hk with
   | [_,_],⟨hl,⟨a,ha⟩,_⟩ => by
     subst ha
     rcases hl with rfl | ⟨s,rfl⟩ | ⟨l,rfl⟩
     · cases hs
     · cases hs
     · cases hs
       refine ⟨rfl,fun caps => ?_⟩
       have h0 : errA l a = 0 := by
         by_cases h : errA l a = 0
         · exact h
         · rw [errN_a h] at hψ; exact absurd hψ h
       have hc := errC_ok.1 (errA_0.1 h0).1
       have h := Call.ofVcR (E := xgE l (caps 0)) (H := [ros l]) (args := [.slice (some ⟨0,0,none⟩) l.length (caps 0),vi a]) (σ := nsub 1 4) (v2 := .tuple #[newSlice 1 l.length,vi 0]) (H2 := [ros l,.rw ((bestL l a).map (.int .i64)) (some 1)]) xgE_ok mixed (c := xgB) (inv := fun _ => none) Try.func26 (by kernel_rfl) (cast (by kernel_rfl) (xgO_ok l (caps 0) a hψ))
       have h' : Call Try.prog 26 [.slice (some ⟨0,0,none⟩) l.length (caps 0),vi a] [ros l] fun v H' => v = .tuple #[newSlice 1 (bestL l a).length,vi 0]∧H' = [ros l] ++ [.rw ((bestL l a).map (.int .i64)) (some 1)] := by
         rw [best_len hc.few]
         exact h
       exact h'
def xgCc : Cc := fun f args H => match Nat.beq f 26 with
 | true => match toArgs H [.ints .i64,.int .i64] args with
   | some (φ,[.ints _ l,.plain (.int .i64 a)]) => some fun Q => Ob (Asks φ∧l.length≤1000000)∧(Ob (errN l a ≠ 0)→Q (.tuple #[.slice none 0 0,vi (errN l a)]) H)∧(Ob (errN l a = 0)→Q (.tuple #[newSlice H.length l.length,vi 0]) (H ++ [.rw ((bestL l a).map (.int .i64)) (some 1)]))
   | _ => none
 | false => none
theorem xgCc_ok : CcOk Try.prog xgCc := fun f args H T h Q hT => by
 unfold xgCc at h
 split at h <;> try (cases h; done)
 rename_i hf
 obtain rfl := Nat.eq_of_beq_eq_true hf
 split at h <;> cases h
 rename_i φ k l a ht
 obtain ⟨h1,h2,h3⟩ := hT
 obtain ⟨hφ,hl⟩ := h1.out
 by_cases he : errN l a = 0
 · have h4 := (xgOG_ok args H (andO φ (some (errN l a = 0))) (.tuple #[newSlice H.length (bestL l a).length,vi 0]) (H ++ [.rw ((bestL l a).map (.int .i64)) (some 1)]) [] (by unfold newG; rw [ht]; rfl) (andO_iff.2 ⟨hφ,he⟩)).1
   have h0 : errA l a = 0 := by
     by_cases h : errA l a = 0
     · exact h
     · rw [errN_a h] at he; exact absurd he h
   have hc := errC_ok.1 (errA_0.1 h0).1
   rw [best_len hc.few] at h4
   refine h4.mono fun v H' hh => ?_
   obtain ⟨rfl,rfl⟩ := hh
   exact h3 ⟨he⟩
 · refine (xgEG_ok args H (andO φ (some (l.length≤1000000∧errN l a ≠ 0))) (.tuple #[.slice none 0 0,vi (errN l a)]) H [] (by unfold pureG; rw [ht]; rfl) (andO_iff.2 ⟨hφ,hl,he⟩)).1.mono fun v H' hh => ?_
   obtain ⟨rfl,rfl⟩ := hh
   exact h2 ⟨he⟩
end Go.Pier.Fl
namespace Go.Pier.Fl
open Go Go.Pier Go.Proofs
noncomputable def pdE : VEnv := { ct := (Ct.none.add 24 (pureG [.ints .i64,.int .i64] fwS)).add 21 (pureG [.ints .i64,.ints .i64] rkS),cc := xgCc }
noncomputable def pdB : Code := Try.f51.body.getD .skip
noncomputable def pdV0 (l:List Int) := (List.take l.length (List.drop 0 (intsOf (List.map (Value.int IntKind.i64) l))))
noncomputable def pdV1 (l:List Int) (a:Int):Prop := (Value.tuple ⟨[vi (fewF (pdV0 l) a),Value.bool true,Value.bool false]⟩=Value.tuple ⟨[vi (fewF l a),Value.bool (canB l a.toNat),Value.bool true]⟩)
noncomputable def pdV2 (l:List Int) (a:Int):Prop := (Value.tuple ⟨[vi (0:Int),Value.bool false,Value.bool false]⟩=Value.tuple ⟨[vi (fewF l a),Value.bool (canB l a.toNat),Value.bool true]⟩)
noncomputable def pdV3 (l:List Int) (a:Int) := (List.take (pdV0 l).length (List.drop 0 (intsOf (List.map (Value.int IntKind.i64) (bestL (pdV0 l) a)))))
noncomputable def pdV4 (l:List Int):Prop := (List.take l.length (List.drop 0 (List.map (Value.int IntKind.i64) l))=List.map (Value.int IntKind.i64) (pdV0 l)∧0+l.length≤(List.map (Value.int IntKind.i64) l).length∧true=true)
noncomputable def pdV5 (l:List Int) (a:Int):Prop := (Value.tuple ⟨[vi (fewF (pdV0 l) a),Value.bool true,Value.bool (decide (fewF (pdV0 l) a≤(300:Int)))]⟩=Value.tuple ⟨[vi (fewF l a),Value.bool (canB l a.toNat),Value.bool true]⟩)
noncomputable def pdV6 (l:List Int) (a:Int):Bool := (errN (pdV0 l) a==(5:Int))
noncomputable def pdV :=
fun (l:List Int) (c:Nat) (a:Int)↦Ob ((pdV4 l)∧(pdV0 l).length≤1000000)∧Ob (Asks (some (pdV4 l))∧(pdV0 l).length≤1000000)∧(Ob (errN (pdV0 l) a≠(0:Int))→((errN (pdV0 l) a !=(0:Int))=true→((pdV6 l a)=true→((pdV6 l a)=true→((fewF (pdV0 l) a==(0:Int))=true→True∧Ob (Value.tuple ⟨[vi (0:Int),Value.bool false,Value.bool true]⟩=Value.tuple ⟨[vi (fewF l a),Value.bool (canB l a.toNat),Value.bool true]⟩))∧((fewF (pdV0 l) a==(0:Int))=false→True∧Ob (pdV2 l a)))∧((pdV6 l a)=false→True∧Ob (pdV2 l a)))∧((pdV6 l a)=false→True∧Ob (pdV2 l a)))∧((errN (pdV0 l) a !=(0:Int))=false→Ob ((pdV4 l)∧(pdV0 l).length≤1000000)∧((errN (pdV0 l) a==(0:Int))=true→((errK (pdV0 l) []==(0:Int))=true→(((0:Int)==a)=true→(((0:Int)==fewF (pdV0 l) a)=true→True∧Ob (pdV5 l a))∧(((0:Int)==fewF (pdV0 l) a)=false→True∧Ob (pdV1 l a)))∧(((0:Int)==a)=false→True∧Ob (pdV1 l a)))∧((errK (pdV0 l) []==(0:Int))=false→True∧Ob (pdV1 l a)))∧((errN (pdV0 l) a==(0:Int))=false→True∧Ob (pdV1 l a))))∧(Ob (errN (pdV0 l) a=(0:Int))→((errN (pdV0 l) a !=(0:Int))=true→((pdV6 l a)=true→(false=true→((fewF (pdV0 l) a==(0:Int))=true→True∧Ob (Value.tuple ⟨[vi (0:Int),Value.bool false,Value.bool ((↑(pdV0 l).length:Int)==(0:Int))]⟩=Value.tuple ⟨[vi (fewF l a),Value.bool (canB l a.toNat),Value.bool true]⟩))∧((fewF (pdV0 l) a==(0:Int))=false→True∧Ob (pdV2 l a)))∧(false=false→True∧Ob (pdV2 l a)))∧((pdV6 l a)=false→True∧Ob (pdV2 l a)))∧((errN (pdV0 l) a !=(0:Int))=false→Ob (((pdV4 l)∧List.take (pdV0 l).length (List.drop 0 (List.map (Value.int IntKind.i64) (bestL (pdV0 l) a)))=List.map (Value.int IntKind.i64) (pdV3 l a)∧0+(pdV0 l).length≤(List.map (Value.int IntKind.i64) (bestL (pdV0 l) a)).length∧true=true)∧(pdV0 l).length≤1000000∧(pdV3 l a).length≤1000000)∧(true=true→((errK (pdV0 l) (pdV3 l a)==(0:Int))=true→((chA (pdV0 l) (pdV3 l a)==a)=true→((chM (pdV0 l) (pdV3 l a)==fewF (pdV0 l) a)=true→True∧Ob (pdV5 l a))∧((chM (pdV0 l) (pdV3 l a)==fewF (pdV0 l) a)=false→True∧Ob (pdV1 l a)))∧((chA (pdV0 l) (pdV3 l a)==a)=false→True∧Ob (pdV1 l a)))∧((errK (pdV0 l) (pdV3 l a)==(0:Int))=false→True∧Ob (pdV1 l a)))∧(true=false→True∧Ob (pdV1 l a))))
theorem pdV_eq : pdV = fun (l : List Int) (c : Nat) (a : Int) => vc Try.prog pdE 1 71 true (fun _ => none) pdB [] (argFr 0 [.slice (some ⟨0,0,none⟩) l.length c,vi a]) [ros l] (retK Try.prog Try.f51 (fun v H => v = .tuple #[vi (fewF l a),.bool (canB l a.toNat),.bool true])) := by kernel_rfl
noncomputable def fiE : VEnv := { ct := Ct.none.add 23 (pureG [.ints .i64] ciS),cc := ccIn Try.prog {} [⟨18,Try.f18,fun _ _ _ => none⟩] }
noncomputable def fnB : Code := Try.f49.body.getD .skip
noncomputable def fnV0 (l:List Int) := (List.take l.length (List.drop 0 (intsOf (List.map (Value.int IntKind.i64) l))))
noncomputable def fnV :=
fun (l:List Int) (c:Nat)↦((!decide ((10:Int)<(l.length:Int)))=true→Ob ((List.take l.length (List.drop 0 (List.map (Value.int IntKind.i64) l))=List.map (Value.int IntKind.i64) (fnV0 l)∧0+l.length≤(List.map (Value.int IntKind.i64) l).length∧true=true)∧(fnV0 l).length≤1000000)∧True∧Ob (Value.bool (errC (fnV0 l)==(0:Int))=Value.bool (errC l==(0:Int))))∧((!decide ((10:Int)<(l.length:Int)))=false→True∧Ob (Value.bool false=Value.bool (errC l==(0:Int))))
theorem fnV_eq : fnV = fun (l : List Int) (c : Nat) => vc Try.prog fiE 1 11 true (fun _ => none) fnB [] (argFr 0 [.slice (some ⟨0,0,none⟩) l.length c]) [ros l] (retK Try.prog Try.f49 (fun v H => v = .bool (errC l == 0))) := by kernel_rfl
noncomputable def fnN :=
fun (x:Unit)↦(true=true→Ob True∧True∧Ob (Value.bool false=Value.bool false))∧(true=false→True∧Ob (Value.bool false=Value.bool false))
theorem fnN_eq : fnN = fun (_ : Unit) => vc Try.prog fiE 0 11 true (fun _ => none) fnB [] (argFr 0 [.slice none 0 0]) [] (retK Try.prog Try.f49 (fun v H => v = .bool false)) := by kernel_rfl
noncomputable def fnH :=
fun (s:Option Nat) (c:Nat)↦(true=true→Ob True∧True∧Ob (Value.bool false=Value.bool false))∧(true=false→True∧Ob (Value.bool false=Value.bool false))
theorem fnH_eq : fnH = fun (s : Option Nat) (c : Nat) => vc Try.prog fiE 1 11 true (fun _ => none) fnB [] (argFr 0 [.slice (some ⟨0,0,s⟩) 0 c]) [.gone] (retK Try.prog Try.f49 (fun v H => v = .bool false)) := by kernel_rfl
theorem gt_best {l : List Int} {a : Int} {k : Nat} (hk : k < l.length) (h5 : l.length≤5) : gt (bestL l a) k = bF l a.toNat k := by
 unfold gt bestL
 rw [List.getD_eq_getElem?_getD,List.getElem?_take,if_pos hk]
 unfold L5
 rcases k with _ | _ | _ | _ | _ | k <;> first | rfl | omega
theorem pf_dot {l : List Int} {y : Nat→Int} : ∀ n,(∀ k,k < n→1≤l.getD k 0∧0≤y k)→pf y n≤dotF l y n
 | 0,_ => Int.le_refl _
 | n + 1,h => by
   have h1 := pf_dot n fun k hk => h k (by omega)
   have h2 := h n (by omega)
   have := Int.mul_le_mul_of_nonneg_right h2.1 h2.2
   rw [pf,dotF]; omega
theorem best_fact {l : List Int} {a : Int} (hc : Coins l) (ha : 0≤a∧a≤300) (h : errN l a = 0) : canB l a.toNat = true∧errK l (bestL l a) = 0∧chA l (bestL l a) = a∧chM l (bestL l a) = fewF l a∧0≤fewF l a∧fewF l a≤300 := by
 have hf := hc.few
 have h0 : errA l a = 0 := errA_0.2 ⟨errC_ok.2 hc,ha⟩
 have hcan : canB l a.toNat = true := by
   cases hx : canB l a.toNat with
   | true => rfl
   | false => rw [errN_5 h0 hx] at h; cases h
 have hl := best_len (a := a) hf
 obtain ⟨⟨⟨p1,p2⟩,p3⟩,_⟩ : (isCh l a.toNat (bF l a.toNat)∧_)∧True := ⟨(best_is hc a.toNat (by omega)).1 hcan,trivial⟩
 have hbd : ∀ k,k < l.length→0≤bF l a.toNat k∧bF l a.toNat k≤300 := fun k hk => by
   have := bF_bd hc (a := a.toNat) (by omega) (k := k) (by omega)
   omega
 have hall : ∀ x ∈ bestL l a,0≤x∧x≤1000 := ints_all (i := l.length) (by omega) fun j hj => by
   have e : (bestL l a).getD j 0 = bF l a.toNat j := gt_best hj hf
   rw [e]; have := hbd j hj; omega
 have hk := errK_0 (errC_ok.2 hc) hl hall
 have hA : chA l (bestL l a) = a := by
   rw [chA,if_pos hk,dot_congr (z := bF l a.toNat) _ fun k hk => gt_best hk hf,p2]; omega
 have hm : m5 (bF l a.toNat) = pf (bF l a.toNat) l.length := best_m5 hc (by omega) hcan
 have hM : chM l (bestL l a) = fewF l a := by
   rw [chM,if_pos hk,pf_congr (z := bF l a.toNat) _ fun k hk => gt_best hk hf,fewF_ok h,hm]
 have hpd := pf_dot (l := l) (y := bF l a.toNat) l.length fun k hk => ⟨by have := coin_rng hc hk; omega,p1 k hk⟩
 have hd := (dot_bd (l := l) (y := bF l a.toNat) (B := 50) (C := 300) (by omega) (by omega) l.length (fun j hj => by have := coin_rng hc hj; omega) fun j hj => hbd j hj).2.1
 rw [p2] at hpd
 refine ⟨hcan,hk,hA,hM,?_,?_⟩ <;> rw [fewF_ok h,hm] <;> omega
theorem best_take {l : List Int} {a : Int} (h : l.length≤5) : List.take l.length (bestL l a) = bestL l a := by
 rw [← best_len (a := a) h,List.take_length]
theorem pdV_ok (l : List Int) (c : Nat) (a : Int) (hc : Coins l) (ha : 0≤a∧a≤300) : pdV l c a := by
 unfold pdV pdV6 pdV5 pdV4 pdV3 pdV2 pdV1 pdV0
 have hf := hc.few
 have h0 : errA l a = 0 := errA_0.2 ⟨errC_ok.2 hc,ha⟩
 have hl := best_len (a := a) hf
 simp only [SS,reduceCtorEq,Arg.list,Arg.num,Arg.flag,intOf,andP,Nat.reduceLeDiff,Nat.reduceAdd,Nat.reduceMul,Nat.reduceLT,best_take hf,hl]
 have tup : ∀ {x x' : Int} {b b' d : Bool},x = x'→b = b'→d = true→({ toList := [vi x,Value.bool b,Value.bool d] } : Array Value) = { toList := [vi x',Value.bool b',Value.bool true] } := fun h1 h2 h3 => by rw [h1,h2,h3]
 refine ⟨by omega,⟨trivial,by omega⟩,fun h => ⟨fun _ => ?_,fun h2 => absurd h2 h⟩,fun h => ⟨fun h2 => absurd h h2,fun _ => ?_⟩⟩
 · have hx : canB l a.toNat = false := by
     cases hx : canB l a.toNat with
     | false => rfl
     | true => exact absurd (errN_0 h0 hx) h
   have h5 := errN_5 h0 hx
   have hz := fewF_no h
   exact ⟨fun _ => ⟨fun _ => ⟨fun _ => tup hz.symm hx.symm rfl,fun h6 => absurd hz h6⟩,fun h6 => absurd h5 h6⟩,fun h6 => absurd h5 h6⟩
 · obtain ⟨b1,b2,b3,b4,b5,b6⟩ := best_fact hc ha h
   refine ⟨⟨?_,by omega,by omega⟩,fun _ => ⟨fun _ => ⟨fun _ => tup rfl b1.symm (decide_eq_true b6),fun h6 => absurd b4 h6⟩,fun h6 => absurd b3 h6⟩,fun h6 => absurd b2 h6⟩
   rw [← hl,List.take_of_length_le (by rw [List.length_map]; exact Nat.le_refl _)]
theorem fnV_ok (l : List Int) (c : Nat) : fnV l c := by
 unfold fnV fnV0
 simp only [SS,reduceCtorEq,Arg.list,Arg.num,Arg.flag,intOf,andP,Nat.reduceLeDiff,Nat.reduceAdd,Nat.reduceMul,Nat.reduceLT]
 refine ⟨fun _ => by omega,fun h => ?_⟩
 rw [errC_6 (by omega)]; rfl
theorem fnN_ok (u : Unit) : fnN u := by
 unfold fnN
 simp only [SS,reduceCtorEq,Arg.list,Arg.num,Arg.flag,intOf,andP,Nat.reduceLeDiff,Nat.reduceAdd,Nat.reduceMul,Nat.reduceLT]
theorem fnH_ok (s : Option Nat) (c : Nat) : fnH s c := by
 unfold fnH
 simp only [SS,reduceCtorEq,Arg.list,Arg.num,Arg.flag,intOf,andP,Nat.reduceLeDiff,Nat.reduceAdd,Nat.reduceMul,Nat.reduceLT]
theorem pdE_ok : VOk Try.prog pdE := ⟨(CtOk.none.add fwG_ok).add rkG_ok,xgCc_ok,E0_ok.yc,E0_ok.orc⟩
def pdS (r : List Arg) : Prop × Value := match r with
 | [.ints _ l,.plain (.int .i64 a)] => (Coins l∧0≤a∧a≤300,.tuple #[vi (fewF l a),.bool (canB l a.toNat),.bool true])
 | _ => (False,undef)
theorem pdG_ok : ∀ args H φ v H' l,pureG [.ints .i64,.int .i64] pdS args H = some (φ,v,H',l)→Asks φ→Call Try.prog 51 args H (fun v' H2 => v' = v∧H2 = H')∧Kept H H' l :=
 pureG_ok fun r hk hs => match r,hk with
   | [_,_],⟨hl,⟨a,ha⟩,_⟩ => by
     subst ha
     rcases hl with rfl | ⟨s,rfl⟩ | ⟨l,rfl⟩
     · exact hs.elim
     · exact hs.elim
     · exact ⟨by simp [pdS,sc,sc2,sc1,sc0],fun caps => Call.ofVc pdE_ok mixed (c := pdB) (inv := fun _ => none) Try.func51 (by kernel_rfl) (cast (congrFun (congrFun (congrFun pdV_eq l) (caps 0)) a) (pdV_ok l _ a hs.1 hs.2))⟩
theorem fiE_ok : VOk Try.prog fiE := ⟨CtOk.none.add rcG_ok,ccIn_ok E0_ok mixed (inl_one Try.func18),E0_ok.yc,E0_ok.orc⟩
def fnS (r : List Arg) : Prop × Value := match r with
 | [.ints _ l] => (True,.bool (errC l == 0))
 | [_] => (True,.bool false)
 | _ => (False,undef)
theorem fnG_ok : ∀ args H φ v H' l,pureG [.ints .i64] fnS args H = some (φ,v,H',l)→Asks φ→Call Try.prog 49 args H (fun v' H2 => v' = v∧H2 = H')∧Kept H H' l :=
 pureG_ok fun r hk hs => match r,hk with
   | [_],⟨hl,_⟩ => by
     rcases hl with rfl | ⟨s,rfl⟩ | ⟨l,rfl⟩
     · exact ⟨rfl,fun caps => Call.ofVc fiE_ok mixed (c := fnB) (inv := fun _ => none) Try.func49 (by kernel_rfl) (cast (congrFun fnN_eq ()) (fnN_ok ()))⟩
     · exact ⟨rfl,fun caps => Call.ofVc fiE_ok mixed (c := fnB) (inv := fun _ => none) Try.func49 (by kernel_rfl) (cast (congrFun (congrFun fnH_eq s) (caps 0)) (fnH_ok s _))⟩
     · exact ⟨rfl,fun caps => Call.ofVc fiE_ok mixed (c := fnB) (inv := fun _ => none) Try.func49 (by kernel_rfl) (cast (congrFun (congrFun fnV_eq l) (caps 0)) (fnV_ok l _))⟩
end Go.Pier.Fl
namespace Go.Pier.Fl
open Go Go.Pier Go.Proofs
noncomputable def re_c0 : Code := (Code.region (3 : Nat) { toList := [{ dst := some (4 : Nat),op := Op.assign (Operand.tmp (26 : Nat)),type := (2 : Nat),pos := "rests.go:13",after := { toList := [] },guard := none }] } false)
noncomputable def re_c1 : Code := (Code.block (1 : Nat) ((Code.region (4 : Nat) { toList := [{ dst := some (28 : Nat),op := Op.move (Operand.tmp (4 : Nat)),type := (2 : Nat),pos := "rests.go:14",after := { toList := [] },guard := none },{ dst := some (29 : Nat),op := Op.load (61 : Nat) (Operand.tmp (1 : Nat)),type := (61 : Nat),pos := "rests.go:14",after := { toList := [] },guard := none },{ dst := some (30 : Nat),op := Op.nilCheck (Operand.tmp (29 : Nat)),type := (0 : Nat),pos := "rests.go:14",after := { toList := [{ on := (1 : Nat),ground := Ground.data }] },guard := none },{ dst := some (31 : Nat),op := Op.fieldAddr (68 : Nat) (Operand.tmp (30 : Nat)) (0 : Nat),type := (0 : Nat),pos := "rests.go:14",after := { toList := [{ on := (2 : Nat),ground := Ground.data }] },guard := none },{ dst := some (32 : Nat),op := Op.load (65 : Nat) (Operand.tmp (31 : Nat)),type := (65 : Nat),pos := "rests.go:14",after := { toList := [{ on := (3 : Nat),ground := Ground.data }] },guard := none },{ dst := some (33 : Nat),op := Op.call { callee := Callee.value (Operand.func (78 : Nat)),args := { toList := [Operand.tmp (32 : Nat)] },argTypes := { toList := [(65 : Nat)] } },type := (2 : Nat),pos := "rests.go:14",after := { toList := [{ on := (4 : Nat),ground := Ground.data }] },guard := none },{ dst := some (34 : Nat),op := Op.binOp BinOp.rem (2 : Nat) (Operand.tmp (28 : Nat)) (Operand.tmp (33 : Nat)) (2 : Nat),type := (2 : Nat),pos := "rests.go:14",after := { toList := [{ on := (0 : Nat),ground := Ground.data },{ on := (5 : Nat),ground := Ground.data }] },guard := none },{ dst := some (5 : Nat),op := Op.assign (Operand.tmp (34 : Nat)),type := (2 : Nat),pos := "rests.go:14",after := { toList := [{ on := (6 : Nat),ground := Ground.data },{ on := (5 : Nat),ground := Ground.chain },{ on := (0 : Nat),ground := Ground.phase },{ on := (1 : Nat),ground := Ground.phase },{ on := (2 : Nat),ground := Ground.phase },{ on := (3 : Nat),ground := Ground.phase },{ on := (4 : Nat),ground := Ground.phase },{ on := (5 : Nat),ground := Ground.phase },{ on := (6 : Nat),ground := Ground.phase }] },guard := none }] } false).seq ((Code.region (5 : Nat) { toList := [{ dst := some (35 : Nat),op := Op.load (22 : Nat) (Operand.tmp (3 : Nat)),type := (22 : Nat),pos := "rests.go:14",after := { toList := [] },guard := none },{ dst := some (36 : Nat),op := Op.move (Operand.tmp (5 : Nat)),type := (2 : Nat),pos := "rests.go:14",after := { toList := [] },guard := none },{ dst := some (37 : Nat),op := Op.indexAddr (22 : Nat) (Operand.tmp (35 : Nat)) (Operand.tmp (36 : Nat)),type := (0 : Nat),pos := "rests.go:14",after := { toList := [{ on := (0 : Nat),ground := Ground.data },{ on := (1 : Nat),ground := Ground.data }] },guard := none },{ dst := some (38 : Nat),op := Op.load (2 : Nat) (Operand.tmp (37 : Nat)),type := (2 : Nat),pos := "rests.go:14",after := { toList := [{ on := (2 : Nat),ground := Ground.data }] },guard := none },{ dst := some (39 : Nat),op := Op.binOp BinOp.eql (2 : Nat) (Operand.tmp (38 : Nat)) (Operand.const (vi (-1 : Int))) (2 : Nat),type := (4 : Nat),pos := "rests.go:14",after := { toList := [{ on := (3 : Nat),ground := Ground.data }] },guard := none }] } false).seq (Code.cond (Operand.tmp (39 : Nat)) (Code.region (6 : Nat) { toList := [{ dst := some (40 : Nat),op := Op.load (22 : Nat) (Operand.tmp (3 : Nat)),type := (22 : Nat),pos := "rests.go:15",after := { toList := [] },guard := none },{ dst := some (41 : Nat),op := Op.move (Operand.tmp (5 : Nat)),type := (2 : Nat),pos := "rests.go:15",after := { toList := [] },guard := none },{ dst := some (42 : Nat),op := Op.move (Operand.tmp (4 : Nat)),type := (2 : Nat),pos := "rests.go:15",after := { toList := [] },guard := none },{ dst := some (43 : Nat),op := Op.indexAddr (22 : Nat) (Operand.tmp (40 : Nat)) (Operand.tmp (41 : Nat)),type := (0 : Nat),pos := "rests.go:15",after := { toList := [{ on := (0 : Nat),ground := Ground.data },{ on := (1 : Nat),ground := Ground.data },{ on := (0 : Nat),ground := Ground.phase },{ on := (1 : Nat),ground := Ground.phase },{ on := (2 : Nat),ground := Ground.phase }] },guard := none },{ dst := none,op := Op.store (2 : Nat) (Operand.tmp (43 : Nat)) (Operand.tmp (42 : Nat)),type := (0 : Nat),pos := "rests.go:15",after := { toList := [{ on := (3 : Nat),ground := Ground.data },{ on := (2 : Nat),ground := Ground.data },{ on := (0 : Nat),ground := Ground.phase },{ on := (1 : Nat),ground := Ground.phase },{ on := (2 : Nat),ground := Ground.phase }] },guard := none }] } false) Code.skip))))
def fstF (l : List Int) : Int := l.getD 0 0
def rsF (l : List Int) : Nat→List Int
 | 0 => List.replicate (fstF l).toNat (-1)
 | a + 1 => bif canB l a && (rsF l a).getD ((a : Int).tmod (fstF l)).toNat 0 == -1 then (rsF l a).set ((a : Int).tmod (fstF l)).toNat a else rsF l a
noncomputable def re0E (l : List Int) : VEnv := { ct := kiT l }
def topF (l : List Int) : Nat := (fstF l * lastF l).toNat
noncomputable def reE (l : List Int) (c : Nat) (zl : List Int) (am : Nat) : VEnv := { ct := (kiT l).add 93 caCt,cc := ccOr rpCc (ccIn Try.prog (chE l c zl (re0E l)) [⟨104,Try.f104,chI l am (fun a H => H.set 4 (.rw ((rsF l a).map (.int .i64)) none)) (fun _ => True)⟩]) }
noncomputable def reB : Code := Try.f81.body.getD .skip
noncomputable def reV0 (l:List Int) (c:Nat):Array Value := ⟨[ptr0 1,ptr0 2,Value.slice none 0 0,ptr0 5,junk,junk,Value.slice (some (ad0 3)) 1 1,ptr0 1,ptr0 1,ptr0 1,Value.agg ⟨[Value.slice (some (ad0 0)) l.length c]⟩,vi (l.getD 0 (0:Int)),Value.slice (some (ad0 4)) (l.getD 0 (0:Int)).toNat (l.getD 0 (0:Int)).toNat,ptr0 1,ptr0 1,ptr0 1,ptr0 1,Value.agg ⟨[Value.slice (some (ad0 0)) l.length c]⟩,vi (l.getD 0 (0:Int)),ptr0 1,ptr0 1,ptr0 1,Value.agg ⟨[Value.slice (some (ad0 0)) l.length c]⟩,vi (lastF l),vi (IntKind.i64.wrap (l.getD 0 (0:Int) * lastF l)),Value.func (Fn.func (104:FuncId)) ⟨[]⟩ ⟨[ptr0 7,ptr0 6]⟩,junk,junk,junk,junk,junk,junk,junk,junk,junk,junk,junk,junk,junk,junk,junk,junk,junk,junk,junk]⟩
noncomputable def reV1 (l:List Int) (x:Nat × List MapEntry × Nat):List Value := [vi ((bstF l (lookE uA x.snd.fst) (x.fst:Int) l.length).fst 0),vi ((bstF l (lookE uA x.snd.fst) (x.fst:Int) l.length).fst 1),vi ((bstF l (lookE uA x.snd.fst) (x.fst:Int) l.length).fst 2),vi ((bstF l (lookE uA x.snd.fst) (x.fst:Int) l.length).fst 3),vi ((bstF l (lookE uA x.snd.fst) (x.fst:Int) l.length).fst 4)]
noncomputable def reV2 (l:List Int) (c:Nat):Prop := (AObj.loop LoopState.ready none (reV0 l c) ⟨[26,27]⟩ re_c0 re_c1=AObj.loop LoopState.ready none ⟨[ptr0 1,ptr0 2,Value.slice none 0 0,ptr0 5,junk,junk,Value.slice (some (ad0 3)) 1 1,ptr0 1,ptr0 1,ptr0 1,Value.agg ⟨[Value.slice (some (ad0 0)) l.length c]⟩,vi (l.getD 0 (0:Int)),Value.slice (some (ad0 4)) (l.getD 0 (0:Int)).toNat (l.getD 0 (0:Int)).toNat,ptr0 1,ptr0 1,ptr0 1,ptr0 1,Value.agg ⟨[Value.slice (some (ad0 0)) l.length c]⟩,vi (l.getD 0 (0:Int)),ptr0 1,ptr0 1,ptr0 1,Value.agg ⟨[Value.slice (some (ad0 0)) l.length c]⟩,vi (lastF l),vi (IntKind.i64.wrap (l.getD 0 (0:Int) * lastF l)),Value.func (Fn.func (104:FuncId)) ⟨[]⟩ ⟨[Value.pointer (some ⟨6+1,0,none⟩),ptr0 6]⟩,junk,junk,junk,junk,junk,junk,junk,junk,junk,junk,junk,junk,junk,junk,junk,junk,junk,junk,junk]⟩ ⟨[26,27]⟩ re_c0 re_c1∧true=true)
noncomputable def reV3 (l:List Int) (c:Nat) (zl:List Int) := (Value.slice (some (ad0 0)) l.length c::List.map (Value.int IntKind.i64) zl)
noncomputable def reV4 (l:List Int) (x:Nat × List MapEntry × Nat) := (Value.agg ⟨[vi (IntKind.i64.wrap ((x.fst:Int)-getI (List.map (Value.int IntKind.i64) l) (0+(IntKind.i64.wrap ((l.length:Int)-(1:Int))).toNat * 1)))]⟩)
noncomputable def reV5 (l:List Int):List Value := [Value.slice (some (ad0 4)) (l.getD 0 (0:Int)).toNat (l.getD 0 (0:Int)).toNat]
noncomputable def reV6  := (Value.int IntKind.i64)
noncomputable def reV7 (l:List Int) := (IntKind.i64.wrap (l.getD 0 (0:Int) * lastF l))
noncomputable def reV8 (l:List Int) (x:Nat × List MapEntry × Nat) := (x.snd.fst++[{ key := Value.agg ⟨[vi (x.fst:Int)]⟩,val := Value.agg { toList := (reV1 l x) },born := x.snd.snd }])
noncomputable def reV9 (l:List Int) (x:Nat × List MapEntry × Nat) := (0+((x.fst:Int).tmod (l.getD 0 (0:Int))).toNat * 1)
noncomputable def reV10  : Prop := (Value.func (Fn.yield (8 : Nat)) { toList := [] } { toList := [] } = Value.func (Fn.yield (8 : Nat)) { toList := [] } { toList := [] })
noncomputable def reV11 (l:List Int) (x:Nat × List MapEntry × Nat) := (bstF l (lookE uA x.snd.fst) (x.fst:Int) l.length)
noncomputable def reV12  : Prop := (AObj.rw [ptr0 1] none = AObj.rw [ptr0 1] none∧true = true)
noncomputable def reV13 (l:List Int) (x:Nat × List MapEntry × Nat) := (List.map reV6 (rsF l x.fst))
noncomputable def reV14  : Prop := (Value.pointer (some { block := (6 : Nat) + (1 : Nat),off := (0 : Nat),spot := none }) = Value.pointer (some { block := (6 : Nat) + (1 : Nat),off := (0 : Nat),spot := none }))
noncomputable def reV15 (l:List Int):Prop := (AObj.ro (List.map reV6 l)=AObj.ro (List.map (nmap1 (nsub 2 4)) (List.map reV6 l))∧AObj.sc 3 (AObj.ro (List.map reV6 l))=true)
noncomputable def reV16 (l:List Int):Prop := (Value.slice (some (ad0 4)) (l.getD 0 (0:Int)).toNat (l.getD 0 (0:Int)).toNat=Value.slice (some (ad0 4)) (fstF l).toNat (fstF l).toNat)
noncomputable def reV17 (l:List Int) (c:Nat) (zl:List Int):Prop := (AObj.rw (reV3 l c zl) none=AObj.rw (List.map (nmap1 (nsub 2 4)) (reV3 l c zl)) none∧AObj.sc 3 (AObj.rw (reV3 l c zl) none)=true)
noncomputable def reV18 (l:List Int) := (IntAt IntKind.i64 (List.map reV6 l) (0+(IntKind.i64.wrap ((l.length:Int)-(1:Int))).toNat * 1))
noncomputable def reV19  : Prop := (AObj.rw [vi (-1 : Int)] none = AObj.rw [vi (-1 : Int)] none∧true = true)
noncomputable def reV20 (l:List Int) := (AObj.ro (List.map reV6 l))
noncomputable def reV21 (l:List Int):Prop := (AObj.rw [vi (reV7 l)] none=AObj.rw [vi (reV7 l)] none∧true=true)
noncomputable def reV22 (l:List Int) (am:Nat) (x:Nat × List MapEntry × Nat):Prop := (AObj.rw (reV13 l x) none=AObj.rw (List.map (nmap1 (nsub 2 4)) (List.map reV6 (rsF l (am+1)))) none∧AObj.sc 3 (AObj.rw (List.map reV6 (rsF l (am+1))) none)=true)
noncomputable def reV23 (l:List Int) (x:Nat × List MapEntry × Nat):Bool := ((x.fst:Int)==(0:Int) || !same5 (l5 ((reV11 l x).fst 0) ((reV11 l x).fst 1) ((reV11 l x).fst 2) ((reV11 l x).fst 3) ((reV11 l x).fst 4)) z5)
noncomputable def reV24  : List Value := [Value.map (some (9 : Nat))]
noncomputable def reV25 (l:List Int):Prop := (AObj.rw (reV5 l) none=AObj.rw (reV5 l) none∧true=true)
noncomputable def reV26  : Prop := (Value.map (some (9 : Nat)) = Value.map (some (9 : Nat)))
noncomputable def reV27 (l:List Int) (y:Nat × List MapEntry × Nat) := (List.map reV6 (rsF l y.fst))
noncomputable def reV28 (l:List Int) (x:Nat × List MapEntry × Nat) := (putL (reV13 l x) (reV9 l x) [vi (x.fst:Int)])
noncomputable def reV29 (l:List Int) := (l.getD 0 (0:Int))
noncomputable def reV30 (l:List Int) (c:Nat):List Value := [Value.slice (some (ad0 0)) l.length c]
noncomputable def reV31  (x:Nat × List MapEntry × Nat) (y:Nat × List MapEntry × Nat):Prop := (IntKind.i64.wrap ((x.fst:Int)+(1:Int))=(y.fst:Int))
noncomputable def reV32 (l:List Int) (am:Nat) (y:Nat × List MapEntry × Nat):Prop := (y.fst≤am+1∧keptP l y.fst y.snd.fst∧True)
noncomputable def reV33 (am:Nat) := (↑(am+1):Int)
noncomputable def reV34 (l:List Int) := ((l.length:Int)-(1:Int))
noncomputable def reV35  (x:Nat × List MapEntry × Nat) := (x.snd.snd+1)
noncomputable def reV36 (l:List Int) (x:Nat × List MapEntry × Nat) := (delE uA (reV8 l x) (uA (reV4 l x)))
noncomputable def reV37 (am:Nat) (x:Nat × List MapEntry × Nat) (y:Nat × List MapEntry × Nat):Prop := (am+1-y.fst<am+1-x.fst)
noncomputable def reV38  (y:Nat × List MapEntry × Nat) := (AObj.map y.snd.fst y.snd.snd)
noncomputable def reV39  := (Value.map (some (9 : Nat)))
noncomputable def reV :=
fun (l:List Int) (c:Nat) (zl:List Int) (am:Nat)↦Ob (some (reV20 l)=some (reV20 l)∧l.length=l.length∧0<l.length∧l.length≤5)∧Ob (some (AObj.rw [vi (-1:Int)] none)=some (AObj.rw [vi (-1:Int)] none)∧(1:Int)≤l.getD 0 (0:Int)∧l.getD 0 (0:Int)≤(50:Int))∧Ob (0+1≤1)∧Ob (some (reV20 l)=some (reV20 l)∧l.length=l.length∧0<l.length∧l.length≤5)∧Ob (some (reV20 l)=some (reV20 l)∧l.length=l.length∧0<l.length∧l.length≤5)∧Ob (some (vi (reV7 l))=some (vi (reV7 l)))∧(∃ (y:Nat × List MapEntry × Nat),Ob (reV32 l am y)∧(Ob (AObj.ro (List.map reV6 l)=AObj.ro (List.map (nmap1 fun (b:Nat)↦b) (List.map reV6 l))∧AObj.sc 10 (reV20 l)=true)∧Ob (AObj.rw (reV3 l c zl) none=AObj.rw (List.map (nmap1 fun (b:Nat)↦b) (reV3 l c zl)) none∧AObj.sc 10 (AObj.rw (reV3 l c zl) none)=true)∧Ob reV12∧Ob reV19∧Ob (AObj.rw (List.map reV6 (List.replicate (reV29 l).toNat (-1:Int))) none=AObj.rw (List.map (nmap1 fun (b:Nat)↦b) (reV27 l y)) none∧AObj.sc 10 (AObj.rw (reV27 l y) none)=true)∧Ob (reV25 l)∧Ob reV12∧Ob (reV21 l)∧Ob (AObj.loop LoopState.ready none (reV0 l c) ⟨[26,27]⟩ re_c0 re_c1=AObj.loop LoopState.ready none (reV0 l c) ⟨[26,27]⟩ re_c0 re_c1∧true=true)∧Ob (AObj.map [] 0=AObj.map (List.map (fun (e:MapEntry)↦{ key := e.key,val := nmap2 (fun (b:Nat)↦b) e.val,born := e.born }) y.snd.fst) y.snd.snd∧AObj.sc 10 (reV38 y)=true)∧True)∧Ob reV10∧Ob (Value.pointer (some ⟨6+1,0,none⟩)=ptr0 7)∧Ob (ptr0 6=ptr0 6)∧Ob reV26∧Ob (IntKind.i64.wrap (IntKind.i64.wrap (l.getD 0 (0:Int) * lastF l)+(1:Int))=(reV33 am))∧Ob ((0:Int)=(y.fst:Int))∧True)∧∀ (x:Nat × List MapEntry × Nat),Ob (x.fst≤am+1∧keptP l x.fst x.snd.fst∧True)→(decide ((x.fst:Int)<(reV33 am))=true→Ob (AtT l c zl [AObj.ro (List.map reV6 l),AObj.rw (reV3 l c zl) none,AObj.rw [ptr0 1] none,AObj.rw [vi (-1:Int)] none,AObj.rw (reV13 l x) none,AObj.rw (reV5 l) none,AObj.rw [ptr0 1] none,AObj.rw [vi (reV7 l)] none,AObj.loop LoopState.ready none (reV0 l c) ⟨[26,27]⟩ re_c0 re_c1,AObj.map x.snd.fst x.snd.snd,AObj.rw [ptr0 1] none,AObj.rw reV24 none,AObj.rw [vi (x.fst:Int)] none]∧rngC l∧((0:Int)≤(x.fst:Int)∧(x.fst:Int)≤(5000:Int))∧EntOk x.snd.fst∧true=true∧6≤13)∧Ob (0+5≤5)∧Ob True∧((reV23 l x)=true→Ob (aMapUpdate Try.prog [AObj.ro (List.map reV6 l),AObj.rw (reV3 l c zl) none,AObj.rw [ptr0 1] none,AObj.rw [vi (-1:Int)] none,AObj.rw (reV13 l x) none,AObj.rw (reV5 l) none,AObj.rw [ptr0 1] none,AObj.rw [vi (reV7 l)] none,AObj.loop LoopState.ready none (reV0 l c) ⟨[26,27]⟩ re_c0 re_c1,AObj.map x.snd.fst x.snd.snd,AObj.rw [ptr0 1] none,AObj.rw reV24 none,AObj.rw [vi (x.fst:Int)] none,AObj.rw (reV1 l x) none] 112 reV39 (Value.agg ⟨[vi (x.fst:Int)]⟩) (Value.agg { toList := (reV1 l x) })=some [AObj.ro (List.map reV6 l),AObj.rw (reV3 l c zl) none,AObj.rw [ptr0 1] none,AObj.rw [vi (-1:Int)] none,AObj.rw (reV13 l x) none,AObj.rw (reV5 l) none,AObj.rw [ptr0 1] none,AObj.rw [vi (reV7 l)] none,AObj.loop LoopState.ready none (reV0 l c) ⟨[26,27]⟩ re_c0 re_c1,AObj.map (reV8 l x) (reV35 x),AObj.rw [ptr0 1] none,AObj.rw reV24 none,AObj.rw [vi (x.fst:Int)] none,AObj.rw (reV1 l x) none])∧Ob (some (reV20 l)=some (reV20 l)∧l.length=l.length∧0<l.length∧l.length≤5)∧Ob (l.getD 0 (0:Int)≠(0:Int))∧Ob ((0:Int)≤(x.fst:Int).tmod (reV29 l)∧(x.fst:Int).tmod (reV29 l)<(↑(reV29 l).toNat:Int)∧true=true)∧Ob (IntAt IntKind.i64 (reV13 l x) (reV9 l x))∧((getI (reV13 l x) (reV9 l x)==(-1:Int))=true→Ob ((0:Int)≤(x.fst:Int).tmod (reV29 l)∧(x.fst:Int).tmod (reV29 l)<(↑(reV29 l).toNat:Int)∧true=true)∧Ob (0+((x.fst:Int).tmod (reV29 l)).toNat * 1+1≤(reV13 l x).length)∧(false=true→(Ob (reV15 l)∧Ob (reV17 l c zl)∧Ob (AObj.rw (reV28 l x) none=AObj.rw (List.map (nmap1 (nsub 2 4)) (List.map reV6 (rsF l (am+1)))) none∧AObj.sc 3 (AObj.rw (List.map reV6 (rsF l (am+1))) none)=true)∧True)∧Ob (reV16 l)∧True)∧(false=false→Ob ((0:Int)≤IntKind.i64.wrap (reV34 l)∧IntKind.i64.wrap (reV34 l)<(l.length:Int)∧true=true)∧Ob (reV18 l)∧Ob (aDelete Try.prog [AObj.ro (List.map reV6 l),AObj.rw (reV3 l c zl) none,AObj.rw [ptr0 1] none,AObj.rw [vi (-1:Int)] none,AObj.rw (reV28 l x) none,AObj.rw (reV5 l) none,AObj.rw [ptr0 1] none,AObj.rw [vi (reV7 l)] none,AObj.loop LoopState.ready none (reV0 l c) ⟨[26,27]⟩ re_c0 re_c1,AObj.map (reV8 l x) (reV35 x),AObj.rw [ptr0 1] none,AObj.rw reV24 none,AObj.rw [vi (x.fst:Int)] none,AObj.rw (reV1 l x) none,AObj.rw (reV30 l c) none] ⟨[112,115]⟩ reV39 (reV4 l x)=some [AObj.ro (List.map reV6 l),AObj.rw (reV3 l c zl) none,AObj.rw [ptr0 1] none,AObj.rw [vi (-1:Int)] none,AObj.rw (reV28 l x) none,AObj.rw (reV5 l) none,AObj.rw [ptr0 1] none,AObj.rw [vi (reV7 l)] none,AObj.loop LoopState.ready none (reV0 l c) ⟨[26,27]⟩ re_c0 re_c1,AObj.map (reV36 l x) (reV35 x),AObj.rw [ptr0 1] none,AObj.rw reV24 none,AObj.rw [vi (x.fst:Int)] none,AObj.rw (reV1 l x) none,AObj.rw (reV30 l c) none])∧∃ (y:Nat × List MapEntry × Nat),Ob (reV32 l am y)∧Ob (reV37 am x y)∧(Ob (AObj.ro (List.map reV6 l)=AObj.ro (List.map (nmap1 fun (b:Nat)↦b) (List.map reV6 l))∧AObj.sc 10 (reV20 l)=true)∧Ob (AObj.rw (reV3 l c zl) none=AObj.rw (List.map (nmap1 fun (b:Nat)↦b) (reV3 l c zl)) none∧AObj.sc 10 (AObj.rw (reV3 l c zl) none)=true)∧Ob reV12∧Ob reV19∧Ob (AObj.rw (reV28 l x) none=AObj.rw (List.map (nmap1 fun (b:Nat)↦b) (reV27 l y)) none∧AObj.sc 10 (AObj.rw (reV27 l y) none)=true)∧Ob (reV25 l)∧Ob reV12∧Ob (reV21 l)∧Ob (reV2 l c)∧Ob (AObj.map (reV36 l x) (reV35 x)=AObj.map (List.map (fun (e:MapEntry)↦{ key := e.key,val := nmap2 (fun (b:Nat)↦b) e.val,born := e.born }) y.snd.fst) y.snd.snd∧AObj.sc 10 (reV38 y)=true)∧True)∧Ob reV10∧Ob reV14∧Ob (ptr0 6=ptr0 6)∧Ob reV26∧Ob ((reV33 am)=(reV33 am))∧Ob (reV31 x y)∧True))∧((getI (reV13 l x) (reV9 l x)==(-1:Int))=false→(false=true→(Ob (reV15 l)∧Ob (reV17 l c zl)∧Ob (reV22 l am x)∧True)∧Ob (reV16 l)∧True)∧(false=false→Ob ((0:Int)≤IntKind.i64.wrap (reV34 l)∧IntKind.i64.wrap (reV34 l)<(l.length:Int)∧true=true)∧Ob (reV18 l)∧Ob (aDelete Try.prog [AObj.ro (List.map reV6 l),AObj.rw (reV3 l c zl) none,AObj.rw [ptr0 1] none,AObj.rw [vi (-1:Int)] none,AObj.rw (reV13 l x) none,AObj.rw (reV5 l) none,AObj.rw [ptr0 1] none,AObj.rw [vi (reV7 l)] none,AObj.loop LoopState.ready none (reV0 l c) ⟨[26,27]⟩ re_c0 re_c1,AObj.map (reV8 l x) (reV35 x),AObj.rw [ptr0 1] none,AObj.rw reV24 none,AObj.rw [vi (x.fst:Int)] none,AObj.rw (reV1 l x) none,AObj.rw (reV30 l c) none] ⟨[112,115]⟩ reV39 (reV4 l x)=some [AObj.ro (List.map reV6 l),AObj.rw (reV3 l c zl) none,AObj.rw [ptr0 1] none,AObj.rw [vi (-1:Int)] none,AObj.rw (reV13 l x) none,AObj.rw (reV5 l) none,AObj.rw [ptr0 1] none,AObj.rw [vi (reV7 l)] none,AObj.loop LoopState.ready none (reV0 l c) ⟨[26,27]⟩ re_c0 re_c1,AObj.map (reV36 l x) (reV35 x),AObj.rw [ptr0 1] none,AObj.rw reV24 none,AObj.rw [vi (x.fst:Int)] none,AObj.rw (reV1 l x) none,AObj.rw (reV30 l c) none])∧∃ (y:Nat × List MapEntry × Nat),Ob (reV32 l am y)∧Ob (reV37 am x y)∧(Ob (AObj.ro (List.map reV6 l)=AObj.ro (List.map (nmap1 fun (b:Nat)↦b) (List.map reV6 l))∧AObj.sc 10 (reV20 l)=true)∧Ob (AObj.rw (reV3 l c zl) none=AObj.rw (List.map (nmap1 fun (b:Nat)↦b) (reV3 l c zl)) none∧AObj.sc 10 (AObj.rw (reV3 l c zl) none)=true)∧Ob reV12∧Ob reV19∧Ob (AObj.rw (reV13 l x) none=AObj.rw (List.map (nmap1 fun (b:Nat)↦b) (reV27 l y)) none∧AObj.sc 10 (AObj.rw (reV27 l y) none)=true)∧Ob (reV25 l)∧Ob reV12∧Ob (reV21 l)∧Ob (reV2 l c)∧Ob (AObj.map (reV36 l x) (reV35 x)=AObj.map (List.map (fun (e:MapEntry)↦{ key := e.key,val := nmap2 (fun (b:Nat)↦b) e.val,born := e.born }) y.snd.fst) y.snd.snd∧AObj.sc 10 (reV38 y)=true)∧True)∧Ob reV10∧Ob reV14∧Ob (ptr0 6=ptr0 6)∧Ob reV26∧Ob ((reV33 am)=(reV33 am))∧Ob (reV31 x y)∧True)))∧((reV23 l x)=false→Ob ((0:Int)≤IntKind.i64.wrap (reV34 l)∧IntKind.i64.wrap (reV34 l)<(l.length:Int)∧true=true)∧Ob (reV18 l)∧Ob (aDelete Try.prog [AObj.ro (List.map reV6 l),AObj.rw (reV3 l c zl) none,AObj.rw [ptr0 1] none,AObj.rw [vi (-1:Int)] none,AObj.rw (reV13 l x) none,AObj.rw (reV5 l) none,AObj.rw [ptr0 1] none,AObj.rw [vi (reV7 l)] none,AObj.loop LoopState.ready none (reV0 l c) ⟨[26,27]⟩ re_c0 re_c1,AObj.map x.snd.fst x.snd.snd,AObj.rw [ptr0 1] none,AObj.rw reV24 none,AObj.rw [vi (x.fst:Int)] none,AObj.rw (reV1 l x) none,AObj.rw (reV30 l c) none] ⟨[112,115]⟩ reV39 (reV4 l x)=some [AObj.ro (List.map reV6 l),AObj.rw (reV3 l c zl) none,AObj.rw [ptr0 1] none,AObj.rw [vi (-1:Int)] none,AObj.rw (reV13 l x) none,AObj.rw (reV5 l) none,AObj.rw [ptr0 1] none,AObj.rw [vi (reV7 l)] none,AObj.loop LoopState.ready none (reV0 l c) ⟨[26,27]⟩ re_c0 re_c1,AObj.map (delE uA x.snd.fst (uA (reV4 l x))) x.snd.snd,AObj.rw [ptr0 1] none,AObj.rw reV24 none,AObj.rw [vi (x.fst:Int)] none,AObj.rw (reV1 l x) none,AObj.rw (reV30 l c) none])∧∃ (y:Nat × List MapEntry × Nat),Ob (reV32 l am y)∧Ob (reV37 am x y)∧(Ob (AObj.ro (List.map reV6 l)=AObj.ro (List.map (nmap1 fun (b:Nat)↦b) (List.map reV6 l))∧AObj.sc 10 (reV20 l)=true)∧Ob (AObj.rw (reV3 l c zl) none=AObj.rw (List.map (nmap1 fun (b:Nat)↦b) (reV3 l c zl)) none∧AObj.sc 10 (AObj.rw (reV3 l c zl) none)=true)∧Ob reV12∧Ob reV19∧Ob (AObj.rw (reV13 l x) none=AObj.rw (List.map (nmap1 fun (b:Nat)↦b) (reV27 l y)) none∧AObj.sc 10 (AObj.rw (reV27 l y) none)=true)∧Ob (reV25 l)∧Ob reV12∧Ob (reV21 l)∧Ob (reV2 l c)∧Ob (AObj.map (delE uA x.snd.fst (uA (reV4 l x))) x.snd.snd=AObj.map (List.map (fun (e:MapEntry)↦{ key := e.key,val := nmap2 (fun (b:Nat)↦b) e.val,born := e.born }) y.snd.fst) y.snd.snd∧AObj.sc 10 (reV38 y)=true)∧True)∧Ob reV10∧Ob reV14∧Ob (ptr0 6=ptr0 6)∧Ob reV26∧Ob ((reV33 am)=(reV33 am))∧Ob (reV31 x y)∧True))∧(decide ((x.fst:Int)<(reV33 am))=false→(Ob (reV15 l)∧Ob (reV17 l c zl)∧Ob (reV22 l am x)∧True)∧Ob (reV16 l)∧True)
theorem rs_len {l : List Int} : ∀ a,(rsF l a).length = (fstF l).toNat
 | 0 => by rw [rsF,List.length_replicate]
 | a + 1 => by
   rw [rsF]
   cases canB l a && (rsF l a).getD ((a : Int).tmod (fstF l)).toNat 0 == -1
   · exact rs_len a
   · show ((rsF l a).set _ _).length = _
     rw [List.length_set,rs_len a]
theorem reV_ok (l : List Int) (c : Nat) (zl : List Int) (am : Nat) (hc : Coins l) (ham : am = topF l) : reV l c zl am := by
 unfold reV reV39 reV38 reV37 reV36 reV35 reV34 reV33 reV32 reV31 reV30 reV29 reV28 reV27 reV26 reV25 reV24 reV23 reV22 reV21 reV20 reV19 reV18 reV17 reV16 reV15 reV14 reV13 reV12 reV11 reV10 reV9 reV8 reV7 reV6 reV5 reV4 reV3 reV2 reV1 reV0
 have hl := last_rng hc
 have hp := hc.pos
 have hw := hc.few
 have hf : 1≤fstF l∧fstF l≤50 := coin_rng hc (by omega)
 have hm : am≤2500 := by
   rw [ham,topF]
   have := Int.mul_le_mul hf.2 hl.2 (by omega) (by omega)
   omega
 simp only [SS,reduceCtorEq,Arg.list,Arg.num,Arg.flag,intOf,andP,Nat.reduceLeDiff,Nat.reduceAdd,Nat.reduceMul,Nat.reduceLT,til_sc,nm_sl,uA_k,len_pred hc,putL_int,List.length_replicate]
 have fold : l.getD 0 0 = fstF l := rfl
 have wm : IntKind.i64.wrap (fstF l * lastF l) = (am : Int) := by
   have h0 : 0≤fstF l * lastF l := Int.mul_nonneg (by omega) (by omega)
   have h1 : (am : Int) = fstF l * lastF l := by rw [ham,topF]; omega
   rw [wrap_in (by omega) (by omega),h1]
 rw [fold,wm]
 have kL : 0 < l.length∧l.length≤5 := by omega
 refine ⟨kL,hf,kL,kL,⟨(0,[],0),⟨by simp,kept_0⟩,⟨rfl,rfl,rfl⟩,by rw [wrap_in (by omega) (by omega)]; rfl,rfl⟩,fun x hx => ⟨fun h1 => ?_,fun h1 => ?_⟩⟩
 · obtain ⟨a,es,k⟩ := x
   obtain ⟨x1,hk⟩ := hx
   simp only at x1 hk h1
   simp only [kept_bF hc hk]
   have h5 : a≤2500 := by omega
   have hA : ∀ r,AtT l c zl (AObj.ro (List.map (Value.int IntKind.i64) l) :: AObj.rw (Value.slice (some (ad0 0)) l.length c :: List.map (Value.int IntKind.i64) zl) none :: r) := fun r => ⟨rfl,rfl⟩
   have wk : IntKind.i64.wrap ((a : Int) - l.getD (l.length - 1) 0) = (a : Int) - lastF l := by unfold lastF at *; rw [wrap_in (by omega) (by omega)]
   rw [wk]
   have nx : IntKind.i64.wrap ((a : Int) + 1) = ((a + 1 : Nat) : Int) := wrap_succ (n := 10000) (by omega) (by omega)
   have hd := div_bd (r := (a : Int)) (v := fstF l) (by omega) hf.1
   have hlen := rs_len (l := l) a
   refine ⟨⟨hA _,rng_of hc,by omega,hk.1⟩,fun h2 => ⟨new_es hk.1 rfl (kept_fresh hc (by omega) hk),kL,by omega,by omega,by omega,fun h3 => ?_,fun h3 => ?_⟩,fun h2 => ?_⟩
   · have e : rsF l (a + 1) = (rsF l a).set ((a : Int).tmod (fstF l)).toNat a := by
       rw [rsF,can_of h2,h3]; rfl
     refine ⟨by omega,by omega,by omega,by omega,del_es (hk.1.snoc (bF_less hc (by omega))) rfl rfl,(a + 1,delE uA (es ++ [⟨kA a,C5 (bF l a),k⟩]) ((a : Int) - lastF l),k + 1),⟨by simp; omega,kept_new hc (by omega) hk (can_of h2)⟩,by simp; omega,?_,nx⟩
     rw [e]
     exact ⟨rfl,map_same (kept_new hc (by omega) hk (can_of h2)).1⟩
   · have e : rsF l (a + 1) = rsF l a := by
       rw [rsF,show ((rsF l a).getD ((a : Int).tmod (fstF l)).toNat 0 == -1) = false by simpa using h3,Bool.and_false]; rfl
     refine ⟨by omega,by omega,del_es (hk.1.snoc (bF_less hc (by omega))) rfl rfl,(a + 1,delE uA (es ++ [⟨kA a,C5 (bF l a),k⟩]) ((a : Int) - lastF l),k + 1),⟨by simp; omega,kept_new hc (by omega) hk (can_of h2)⟩,by simp; omega,?_,nx⟩
     rw [e]
     exact ⟨rfl,map_same (kept_new hc (by omega) hk (can_of h2)).1⟩
   · have e : rsF l (a + 1) = rsF l a := by
       rw [rsF,can_of h2,Bool.false_and]; rfl
     refine ⟨by omega,by omega,del_es hk.1 rfl rfl,(a + 1,delE uA es ((a : Int) - lastF l),k),⟨by simp; omega,kept_old hc (by omega) hk (can_of h2)⟩,by simp; omega,?_,nx⟩
     rw [e]
     exact ⟨rfl,map_same (kept_old hc (by omega) hk (can_of h2)).1⟩
 · rw [show x.1 = am + 1 by omega]
   exact ⟨⟨rfl,rfl⟩,rfl,rfl⟩
theorem re0E_ok {l : List Int} : VOk Try.prog (re0E l) := VOk.ofCt kiT_ok
theorem reE_ok {l : List Int} {c : Nat} {zl : List Int} {am : Nat} : VOk Try.prog (reE l c zl am) := ⟨kiT_ok.add caCt_ok,ccOr_ok rpCc_ok (ccIn_ok (chE_ok re0E_ok) mixed (inl_one Try.func104)),E0_ok.yc,E0_ok.orc⟩
def resF (l : List Int) : List Int := rsF l (topF l + 1)
theorem res_len {l : List Int} : (resF l).length = (fstF l).toNat := rs_len _
theorem re_call (l : List Int) (c : Nat) (zl : List Int) (hc : Coins l) : Call Try.prog 81 [ptr0 1] [ros l,tillO l.length c zl] fun v H' => v = .slice (some ⟨2,0,none⟩) (resF l).length (resF l).length∧H' = [ros l,tillO l.length c zl] ++ [.rw ((resF l).map (.int .i64)) none] := by
 have := Call.ofVcR (E := reE l c zl (topF l)) (H := [ros l,tillO l.length c zl]) (args := [ptr0 1]) (σ := nsub 2 4) (v2 := .slice (some ⟨2,0,none⟩) (fstF l).toNat (fstF l).toNat) (H2 := [ros l,tillO l.length c zl,.rw ((rsF l (topF l + 1)).map (.int .i64)) none]) reE_ok mixed (c := reB) (inv := fun _ => none) Try.func81 (by kernel_rfl) (cast (by kernel_rfl) (reV_ok l c zl (topF l) hc rfl))
 rw [res_len]
 exact this
noncomputable def reCt (l : List Int) (c : Nat) : List Value→Heap→Option (Option Prop × Value × Heap × List Nat) := fun args H => match args with
 | [.pointer (some ⟨1,0,none⟩)] => some (some (AtZ l c H∧Coins l),.slice (some ⟨H.length,0,none⟩) (resF l).length (resF l).length,H ++ [.rw ((resF l).map (.int .i64)) none],[])
 | _ => none
theorem rw_omap {σ : Nat→Nat} {rs : List Int} {r : Option Nat} : omap σ (.rw (rs.map (.int .i64)) r) = .rw (rs.map (.int .i64)) r := omap_ints
theorem reCt_ok {l : List Int} {c : Nat} : ∀ args H φ v H' k,reCt l c args H = some (φ,v,H',k)→Asks φ→Call Try.prog 81 args H (fun v' H2 => v' = v∧H2 = H')∧Kept H H' k := fun args H φ v H' k h hφ => by
 unfold reCt at h
 split at h <;> cases h
 obtain ⟨⟨zl,hA⟩,hc⟩ := hφ
 refine ⟨?_,Kept.append _ _ _⟩
 have hH : 1 < H.length := (List.getElem?_eq_some_iff.1 hA.2).1
 have e0 : nameL [0,1] 2 H.length 0 = 0 := by simp [nameL]
 have e1 : nameL [0,1] 2 H.length 1 = 1 := by simp [nameL]
 have e2 : nameL [0,1] 2 H.length 2 = H.length := by simp [nameL]
 have := Call.frameG (P := Try.prog) (f := 81) (Et := [ros l,tillO l.length c zl]) (Ft := [ros l,tillO l.length c zl]) (N := [.rw ((resF l).map (.int .i64)) none]) (H := H) (L := [0,1]) (args := [ptr0 1]) (vs := [ptr0 1]) (v := .slice (some ⟨2,0,none⟩) (resF l).length (resF l).length) rfl rfl (by simp) (fun x hx => by simp at hx; omega)
   (fun c' o h => ?_) (fun o ho => ?_) rfl rfl (re_call l c zl hc) (fun o ho => ?_) (fun o ho => by rw [List.mem_singleton.1 ho]; rfl) (by simp [nm,nm2,nm1,nm0]) (fun o ho => ?_) (by simp [nmap,nmap2,nmap1,nmap0,am,e2,sc,sc2,sc1,sc0])
 · obtain ⟨t1,_⟩ := this
   have hv : nmap (nameL [0,1] ([ros l,tillO l.length c zl] : Heap).length H.length) (.slice (some ⟨2,0,none⟩) (resF l).length (resF l).length) = .slice (some ⟨H.length,0,none⟩) (resF l).length (resF l).length := by
     show nmap (nameL [0,1] 2 H.length) _ = _
     simp [nmap,nmap2,nmap1,nmap0,am,e2]
   have hs : setG H [ros l,tillO l.length c zl] [0,1] (([ros l,tillO l.length c zl] : Heap).map (omap (nameL [0,1] ([ros l,tillO l.length c zl] : Heap).length H.length))) = H := by
     show H.set 1 (omap (nameL [0,1] 2 H.length) (tillO l.length c zl)) = H
     rw [til_omap e0]
     obtain ⟨k1,k2⟩ := List.getElem?_eq_some_iff.1 hA.2
     rw [← k2]
     exact List.set_getElem_self k1
   rw [hv,hs,List.map_cons,List.map_nil,rw_omap] at t1
   exact t1
 · rcases c' with _ | _ | c'
   · cases h; exact .inr (by rw [ros_omap]; exact hA.1)
   · cases h; exact .inr (by rw [til_omap rfl]; exact hA.2)
   · simp at h
 · rcases List.mem_cons.1 ho with rfl | ho
   · exact ros_sc
   · rw [List.mem_singleton.1 ho]; exact til_sc
 · simp only [List.mem_append,List.mem_cons,List.not_mem_nil,or_false] at ho
   rcases ho with (rfl | rfl) | rfl
   · exact ros_nm
   · exact til_nm rfl
   · exact nm_ints
 · simp only [List.mem_append,List.mem_cons,List.not_mem_nil,or_false] at ho
   rcases ho with (rfl | rfl) | rfl
   · rw [ros_omap]; exact ros_sc
   · show (omap (nameL [0,1] 2 H.length) _).sc _ = true
     rw [til_omap e0]; exact til_sc
   · rw [rw_omap]; exact sc_ints
end Go.Pier.Fl
namespace Go.Pier.Fl
open Go Go.Pier Go.Proofs
noncomputable def ctB : Code := Try.f83.body.getD .skip
def ctI (l : List Int) (x : Int) : List Value→Heap→Nat→Option LInv := fun args H => match args with
 | [s,y] => invOf 0 (LInv.one Nat (fun i => i≤l.length∧∀ j,j < i→l.getD j 0 ≠ x) (fun i => [(0,s),(1,y),(6,s),(7,vi l.length),(8,vi i)]) (fun _ => H) (fun i => l.length - i))
 | _ => fun _ => none
noncomputable def ctE (l : List Int) (x : Int) : VEnv := { cc := ccIn Try.prog {} [⟨100,Try.f100,ctI l x⟩] }
noncomputable def ctV0 (l:List Int) := (List.map (Value.int IntKind.i64) l)
noncomputable def ctV1 (l:List Int) (c:Nat):Prop := (Value.slice (some (ad0 0)) l.length c=Value.slice (some (ad0 0)) l.length c)
noncomputable def ctV2  (x_1:Nat) := (0+(x_1:Int).toNat * 1)
noncomputable def ctV :=
fun (l:List Int) (c:Nat) (x:Int)↦(∃ (y:Nat),Ob (y≤l.length∧∀ (j:Nat),j<y→l.getD j (0:Int)≠x)∧(Ob (AObj.ro (ctV0 l)=AObj.ro (List.map (nmap1 fun (b:Nat)↦b) (ctV0 l))∧AObj.sc 1 (AObj.ro (ctV0 l))=true)∧True)∧Ob (ctV1 l c)∧Ob (x=x)∧Ob (ctV1 l c)∧Ob ((l.length:Int)=(l.length:Int))∧Ob ((0:Int)=(y:Int))∧True)∧∀ (x_1:Nat),Ob (x_1≤l.length∧∀ (j:Nat),j<x_1→l.getD j (0:Int)≠x)→(decide ((x_1:Int)<(l.length:Int))=true→Ob ((0:Int)≤(x_1:Int)∧(x_1:Int)<(l.length:Int)∧true=true)∧Ob (IntAt IntKind.i64 (ctV0 l) (ctV2 x_1))∧((x==getI (ctV0 l) (ctV2 x_1))=true→True∧Ob (Value.bool (decide ((0:Int)≤(x_1:Int)))=Value.bool (l.contains x)))∧((x==getI (ctV0 l) (ctV2 x_1))=false→∃ (y:Nat),Ob (y≤l.length∧∀ (j:Nat),j<y→l.getD j (0:Int)≠x)∧Ob (l.length-y<l.length-x_1)∧(Ob (AObj.ro (ctV0 l)=AObj.ro (List.map (nmap1 fun (b:Nat)↦b) (ctV0 l))∧AObj.sc 1 (AObj.ro (ctV0 l))=true)∧True)∧Ob (ctV1 l c)∧Ob (x=x)∧Ob (ctV1 l c)∧Ob ((l.length:Int)=(l.length:Int))∧Ob (IntKind.i64.wrap ((x_1:Int)+(1:Int))=(y:Int))∧True))∧(decide ((x_1:Int)<(l.length:Int))=false→True∧Ob (Value.bool false=Value.bool (l.contains x)))
theorem ctV_eq : ctV = fun (l : List Int) (c : Nat) (x : Int) => vc Try.prog (ctE l x) 1 9 true (fun _ => none) ctB [] (argFr 0 [.slice (some ⟨0,0,none⟩) l.length c,vi x]) [ros l] (retK Try.prog Try.f83 (fun v _ => v = .bool (l.contains x))) := by kernel_rfl
noncomputable def mxB : Code := Try.f84.body.getD .skip
def mxF (l : List Int) : Nat→Int
 | 0 => l.getD 0 0
 | i + 1 => if mxF l i < l.getD (i + 1) 0 then l.getD (i + 1) 0 else mxF l i
def mxI (l : List Int) (c : Nat) : Nat→Option LInv := invOf 0 (LInv.one Nat (fun i => i < l.length) (fun i => [(0,.slice (some ⟨0,0,none⟩) l.length c),(3,vi (mxF l i)),(4,vi ((i : Int) + 1))]) (fun _ => [ros l]) (fun i => l.length - i))
noncomputable def mxV0 (l:List Int) := (List.map (Value.int IntKind.i64) l)
noncomputable def mxV1  (x:Nat) := (0+((x:Int)+(1:Int)).toNat * 1)
noncomputable def mxV :=
fun (l:List Int) (c:Nat)↦(decide ((l.length:Int)<(1:Int))=true→False)∧(decide ((l.length:Int)<(1:Int))=false→Ob ((0:Int)≤(0:Int)∧(0:Int)<(l.length:Int)∧true=true)∧Ob (IntAt IntKind.i64 (mxV0 l) 0)∧(∃ (y:Nat),Ob (y<l.length)∧(Ob (AObj.ro (mxV0 l)=AObj.ro (List.map (nmap1 fun (b:Nat)↦b) (mxV0 l))∧AObj.sc 1 (AObj.ro (mxV0 l))=true)∧True)∧Ob (Value.slice (some (ad0 0)) l.length c=Value.slice (some (ad0 0)) l.length c)∧Ob (getI (mxV0 l) 0=mxF l y)∧Ob ((1:Int)=(y:Int)+(1:Int))∧True)∧∀ (x:Nat),Ob (x<l.length)→(decide ((x:Int)+(1:Int)<(l.length:Int))=true→Ob ((0:Int)≤(x:Int)+(1:Int)∧(x:Int)+(1:Int)<(l.length:Int)∧true=true)∧Ob (IntAt IntKind.i64 (mxV0 l) (mxV1 x))∧∃ (y:Nat),Ob (y<l.length)∧Ob (l.length-y<l.length-x)∧(Ob (AObj.ro (mxV0 l)=AObj.ro (List.map (nmap1 fun (b:Nat)↦b) (mxV0 l))∧AObj.sc 1 (AObj.ro (mxV0 l))=true)∧True)∧Ob (Value.slice (some (ad0 0)) l.length c=Value.slice (some (ad0 0)) l.length c)∧Ob ((if getI (mxV0 l) (mxV1 x) > mxF l x then getI (mxV0 l) (mxV1 x) else mxF l x)=mxF l y)∧Ob (IntKind.i64.wrap ((x:Int)+(1:Int)+(1:Int))=(y:Int)+(1:Int))∧True)∧(decide ((x:Int)+(1:Int)<(l.length:Int))=false→True∧Ob (vi (mxF l x)=vi (mxF l (l.length-1)))))
theorem mxV_eq : mxV = fun (l : List Int) (c : Nat) => vc Try.prog {} 1 25 true (mxI l c) mxB [] (argFr 0 [.slice (some ⟨0,0,none⟩) l.length c]) [ros l] (retK Try.prog Try.f84 (fun v _ => v = vi (mxF l (l.length - 1)))) := by kernel_rfl
theorem ctV_ok (l : List Int) (c : Nat) (x : Int) (hl : l.length≤1000000) : ctV l c x := by
 unfold ctV ctV2 ctV1 ctV0
 simp only [SS,reduceCtorEq,Arg.list,Arg.num,Arg.flag,intOf,andP,Nat.reduceLeDiff,Nat.reduceAdd,Nat.reduceMul,Nat.reduceLT]
 refine ⟨⟨0,⟨by omega,all_none⟩,rfl⟩,fun i ⟨hi,hj⟩ => ⟨fun h1 => ⟨by omega,by omega,fun h2 => ?_,fun h2 => ⟨i + 1,⟨by omega,all_snoc hj fun h => h2 h.symm⟩,by omega,wrap_succ (n := l.length) (by omega) hl⟩⟩,fun h1 => ?_⟩⟩
 · rw [decide_eq_true (by omega)]
   symm
   rw [List.contains_iff_mem,h2]
   exact ints_mem (by omega)
 · symm
   rw [Bool.eq_false_iff]
   intro h
   rw [List.contains_iff_mem] at h
   obtain ⟨j,hj2,e⟩ := List.getElem_of_mem h
   refine hj j (by omega) ?_
   rw [List.getD_eq_getElem?_getD,List.getElem?_eq_getElem hj2,e]; rfl
theorem mxV_ok (l : List Int) (c : Nat) (h0 : 0 < l.length) (hl : l.length≤1000000) : mxV l c := by
 unfold mxV mxV1 mxV0
 simp only [SS,reduceCtorEq,Arg.list,Arg.num,Arg.flag,intOf,andP,Nat.reduceLeDiff,Nat.reduceAdd,Nat.reduceMul,Nat.reduceLT]
 refine ⟨fun h => by omega,fun _ => ⟨⟨by omega,by omega⟩,h0,⟨0,h0,rfl,rfl⟩,fun x hx => ⟨fun h1 => ?_,fun h1 => by rw [show l.length - 1 = x by omega]⟩⟩⟩
 rw [show ((x : Int) + 1).toNat = x + 1 by omega]
 refine ⟨by omega,by omega,x + 1,by omega,by omega,rfl,?_⟩
 rw [wrap_in (by omega) (by omega)]; omega
theorem ctE_ok {l : List Int} {x : Int} : VOk Try.prog (ctE l x) := ⟨CtOk.none,ccIn_ok E0_ok mixed (inl_one Try.func100),E0_ok.yc,E0_ok.orc⟩
def ctS (r : List Arg) : Prop × Value := match r with
 | [.ints _ l,.plain (.int .i64 x)] => (l.length≤1000000,.bool (l.contains x))
 | _ => (False,undef)
theorem ctG_ok : ∀ args H φ v H' l,pureG [.ints .i64,.int .i64] ctS args H = some (φ,v,H',l)→Asks φ→Call Try.prog 83 args H (fun v' H2 => v' = v∧H2 = H')∧Kept H H' l :=
 pureG_ok fun r hk hs => match r,hk with
   | [_,_],⟨hl,⟨x,hx⟩,_⟩ => by
     subst hx
     rcases hl with rfl | ⟨s,rfl⟩ | ⟨l,rfl⟩
     · exact hs.elim
     · exact hs.elim
     · exact ⟨rfl,fun caps => Call.ofVc ctE_ok mixed (c := ctB) (inv := fun _ => none) Try.func83 (by kernel_rfl) (cast (congrFun (congrFun (congrFun ctV_eq l) _) x) (ctV_ok l _ x hs))⟩
def mxS (r : List Arg) : Prop × Value := match r with
 | [.ints _ l] => (0 < l.length∧l.length≤1000000,vi (mxF l (l.length - 1)))
 | _ => (False,undef)
theorem mxG_ok : ∀ args H φ v H' l,pureG [.ints .i64] mxS args H = some (φ,v,H',l)→Asks φ→Call Try.prog 84 args H (fun v' H2 => v' = v∧H2 = H')∧Kept H H' l :=
 pureG_ok fun r hk hs => match r,hk with
   | [_],⟨hl,_⟩ => by
     rcases hl with rfl | ⟨s,rfl⟩ | ⟨l,rfl⟩
     · exact hs.elim
     · exact hs.elim
     · exact ⟨rfl,fun caps => Call.ofVc E0_ok mixed (c := mxB) (inv := mxI l (caps 0)) Try.func84 (by kernel_rfl) (cast (congrFun (congrFun mxV_eq l) _) (mxV_ok l _ hs.1 hs.2))⟩
end Go.Pier.Fl
namespace Go.Pier.Fl
open Go Go.Pier Go.Proofs
noncomputable def apT (l : List Int) (c : Nat) : Ct := (((((((fwT.add 67 (cgCt l c)).add 80 (ibCt l c)).add 79 (bdCt l c)).add 78 (kiCt l (vi (fstF l)))).add 81 (reCt l c)).add 83 (pureG [.ints .i64,.int .i64] ctS)).add 84 (pureG [.ints .i64] mxS))
noncomputable def apE (l : List Int) (c : Nat) : VEnv := { ct := apT l c,cc := ccOr (twCc l c) (ccIn Try.prog (tiE l c) [⟨66,Try.f66,fun _ _ _ => none⟩]) }
noncomputable def anE' : VEnv := { ct := Ct.none.add 60 (pureG [.ints .i64] tnS),cc := ccIn Try.prog tjE [⟨66,Try.f66,fun _ _ _ => none⟩] }
def badV (l : List Int) : Int := if errC l ≠ 0 then 0 else if fstF l = 1 then bdVal l else 0
def badE (l : List Int) : Int := if errC l ≠ 0 then errC l else if fstF l = 1 then bdErr l else 2
def cbdE (l : List Int) (a : Int) : Int := if errN l a ≠ 0 then errN l a else bif badF l a (bF l a.toNat) then 0 else 16
def gtE (l : List Int) : Int := if errC l ≠ 0 then errC l else bif (resF l).contains (-1) then 4 else if mxF (resF l) ((resF l).length - 1) - fstF l < 0 then 5 else 0
def gtV (l : List Int) : Int := if gtE l = 0 then mxF (resF l) ((resF l).length - 1) - fstF l else 0
def smF (r : List Int) (f : Int) : Nat→Int
 | 0 => 0
 | i + 1 => smF r f i + (r.getD i 0).tdiv f
def mnE (l : List Int) : Int := if errC l ≠ 0 then errC l else bif (resF l).contains (-1) then 4 else 0
def mnV (l : List Int) : Int := if mnE l = 0 then smF (resF l) (fstF l) (resF l).length else 0
noncomputable def baB : Code := Try.f35.body.getD .skip
noncomputable def cbB : Code := Try.f37.body.getD .skip
noncomputable def gtB : Code := Try.f41.body.getD .skip
noncomputable def mnB : Code := Try.f43.body.getD .skip
noncomputable def rtB : Code := Try.f39.body.getD .skip
noncomputable def baV0 (l:List Int) := (AObj.ro (List.map (Value.int IntKind.i64) l))
noncomputable def baV1 (l:List Int):Array Value := ⟨[vi (badV l),vi (badE l)]⟩
noncomputable def baV :=
fun (l:List Int) (c:Nat)↦Ob (some (baV0 l)=some (baV0 l)∧l.length=l.length∧c=c∧l.length≤1000000)∧(Ob (errC l≠(0:Int))→((errC l !=(0:Int))=true→True∧Ob (Value.tuple ⟨[vi (0:Int),vi (errC l)]⟩=Value.tuple (baV1 l)))∧((errC l !=(0:Int))=false→False))∧(Ob (errC l=(0:Int))→∀ (zl:List Int),Ob (isZ zl)→(false=true→True∧Ob (Value.tuple ⟨[vi (0:Int),vi (0:Int)]⟩=Value.tuple (baV1 l)))∧(false=false→Ob (some (baV0 l)=some (baV0 l)∧l.length=l.length∧0<l.length∧l.length≤5)∧((fstF l !=(1:Int))=true→True∧Ob (Value.tuple ⟨[vi (0:Int),vi (2:Int)]⟩=Value.tuple (baV1 l)))∧((fstF l !=(1:Int))=false→Ob (AtZ l c [AObj.ro (List.map (Value.int IntKind.i64) l),AObj.rw (Value.slice (some (ad0 0)) l.length c::List.map (Value.int IntKind.i64) zl) none]∧Coins l)∧True∧Ob (Value.tuple ⟨[vi (bdVal l),vi (bdErr l)]⟩=Value.tuple (baV1 l)))))
theorem baV_eq : baV = fun (l : List Int) (c : Nat) => vc Try.prog (apE l c) 1 24 true (fun _ => none) baB [] (argFr 0 [.slice (some ⟨0,0,none⟩) l.length c]) [ros l] (retK Try.prog Try.f35 (fun v H => v = .tuple #[vi (badV l),vi (badE l)])) := by kernel_rfl
noncomputable def baN :=
fun (x:Unit)↦Ob True∧(true=true→True∧Ob (Value.tuple ⟨[vi (0:Int),vi (6:Int)]⟩=Value.tuple ⟨[vi (0:Int),vi (6:Int)]⟩))∧(true=false→False)
theorem baN_eq : baN = fun (_ : Unit) => vc Try.prog anE' 0 24 true (fun _ => none) baB [] (argFr 0 [.slice none 0 0]) [] (retK Try.prog Try.f35 (fun v H => v = .tuple #[vi 0,vi 6])) := by kernel_rfl
noncomputable def baH :=
fun (s:Option Nat) (c:Nat)↦Ob True∧(true=true→True∧Ob (Value.tuple ⟨[vi (0:Int),vi (6:Int)]⟩=Value.tuple ⟨[vi (0:Int),vi (6:Int)]⟩))∧(true=false→False)
theorem baH_eq : baH = fun (s : Option Nat) (c : Nat) => vc Try.prog anE' 1 24 true (fun _ => none) baB [] (argFr 0 [.slice (some ⟨0,0,s⟩) 0 c]) [.gone] (retK Try.prog Try.f35 (fun v H => v = .tuple #[vi 0,vi 6])) := by kernel_rfl
noncomputable def cbV0 (l:List Int) (a:Int) := (l5 (bF l a.toNat 0) (bF l a.toNat 1) (bF l a.toNat 2) (bF l a.toNat 3) (bF l a.toNat 4))
noncomputable def cbV1 (a:Int) := (!wiF (Arg.plain (vi (0:Int))).num (Arg.plain (vi (300:Int))).num [intOf (vi a)])
noncomputable def cbV2 (l:List Int) (c:Nat) (zl:List Int) := (Value.slice (some (ad0 0)) l.length c::List.map (Value.int IntKind.i64) zl)
noncomputable def cbV3 (l:List Int) := (List.map (Value.int IntKind.i64) l)
noncomputable def cbV4 (l:List Int) (a:Int):List Value := [vi (bF l a.toNat 0),vi (bF l a.toNat 1),vi (bF l a.toNat 2),vi (bF l a.toNat 3),vi (bF l a.toNat 4)]
noncomputable def cbV5 (a:Int):Prop := (([vi a]=[vi (intOf (vi a))]∧0+1≤1∧true=true)∧1≤1000000)
noncomputable def cbV6 (l:List Int) (a:Int) := (!(a==(0:Int) || !same5 (cbV0 l a) z5))
noncomputable def cbV :=
fun (l:List Int) (c:Nat) (a:Int)↦Ob (some (AObj.ro (cbV3 l))=some (AObj.ro (cbV3 l))∧l.length=l.length∧c=c∧l.length≤1000000)∧(Ob (errC l≠(0:Int))→((errC l==(0:Int))=true→Ob (cbV5 a)∧((cbV1 a)=true→(true=true→True∧Ob (vi (3:Int)=vi (cbdE l a)))∧(true=false→False))∧((cbV1 a)=false→((errC l !=(0:Int))=true→True∧Ob (vi (errC l)=vi (cbdE l a)))∧((errC l !=(0:Int))=false→False)))∧((errC l==(0:Int))=false→((errC l !=(0:Int))=true→True∧Ob (vi (errC l)=vi (cbdE l a)))∧((errC l !=(0:Int))=false→False)))∧(Ob (errC l=(0:Int))→∀ (zl:List Int),Ob (isZ zl)→(true=true→Ob (cbV5 a)∧((cbV1 a)=true→(true=true→True∧Ob (vi (3:Int)=vi (cbdE l a)))∧(true=false→False))∧((cbV1 a)=false→(false=true→True∧Ob (vi (0:Int)=vi (cbdE l a)))∧(false=false→Ob (AtZ l c [AObj.ro (cbV3 l),AObj.rw (cbV2 l c zl) none,AObj.rw [vi a] none]∧Coins l∧(0:Int)≤a∧a≤(5000:Int))∧Ob (0+5≤5)∧Ob True∧((cbV6 l a)=true→True∧Ob (vi (5:Int)=vi (cbdE l a)))∧((cbV6 l a)=false→Ob (AtZ l c [AObj.ro (cbV3 l),AObj.rw (cbV2 l c zl) none,AObj.rw [vi a] none,AObj.rw (cbV4 l a) none]∧Coins l∧((0:Int)≤a∧a≤(100000:Int))∧smallP (cbV0 l a))∧((!badF l a (cbV0 l a))=true→True∧Ob (vi (16:Int)=vi (cbdE l a)))∧((!badF l a (cbV0 l a))=false→True∧Ob (vi (0:Int)=vi (cbdE l a)))))))∧(true=false→(false=true→True∧Ob (vi (0:Int)=vi (cbdE l a)))∧(false=false→Ob (AtZ l c [AObj.ro (cbV3 l),AObj.rw (cbV2 l c zl) none]∧Coins l∧(0:Int)≤a∧a≤(5000:Int))∧Ob (0+5≤5)∧Ob True∧((cbV6 l a)=true→True∧Ob (vi (5:Int)=vi (cbdE l a)))∧((cbV6 l a)=false→Ob (AtZ l c [AObj.ro (cbV3 l),AObj.rw (cbV2 l c zl) none,AObj.rw (cbV4 l a) none]∧Coins l∧((0:Int)≤a∧a≤(100000:Int))∧smallP (cbV0 l a))∧((!badF l a (cbV0 l a))=true→True∧Ob (vi (16:Int)=vi (cbdE l a)))∧((!badF l a (cbV0 l a))=false→True∧Ob (vi (0:Int)=vi (cbdE l a)))))))
theorem cbV_eq : cbV = fun (l : List Int) (c : Nat) (a : Int) => vc Try.prog (apE l c) 1 29 true (fun _ => none) cbB [] (argFr 0 [.slice (some ⟨0,0,none⟩) l.length c,vi a]) [ros l] (retK Try.prog Try.f37 (fun v H => v = vi (cbdE l a))) := by kernel_rfl
noncomputable def cbN0 (a:Int) := (!wiF (Arg.plain (vi (0:Int))).num (Arg.plain (vi (300:Int))).num [intOf (vi a)])
noncomputable def cbN :=
fun (a:Int)↦Ob True∧(false=true→Ob (([vi a]=[vi (intOf (vi a))]∧1≤1∧true=true)∧1≤1000000)∧((cbN0 a)=true→(true=true→True∧Ob (vi (3:Int)=vi (6:Int)))∧(true=false→False))∧((cbN0 a)=false→(true=true→True∧Ob (vi (6:Int)=vi (6:Int)))∧(true=false→False)))∧(false=false→(true=true→True∧Ob (vi (6:Int)=vi (6:Int)))∧(true=false→False))
theorem cbN_eq : cbN = fun (a : Int) => vc Try.prog anE' 0 29 true (fun _ => none) cbB [] (argFr 0 [.slice none 0 0,vi a]) [] (retK Try.prog Try.f37 (fun v H => v = vi 6)) := by kernel_rfl
noncomputable def cbH0 (a:Int) := (!wiF (Arg.plain (vi (0:Int))).num (Arg.plain (vi (300:Int))).num [intOf (vi a)])
noncomputable def cbH :=
fun (s:Option Nat) (c:Nat) (a:Int)↦Ob True∧(false=true→Ob (([vi a]=[vi (intOf (vi a))]∧1≤1∧true=true)∧1≤1000000)∧((cbH0 a)=true→(true=true→True∧Ob (vi (3:Int)=vi (6:Int)))∧(true=false→False))∧((cbH0 a)=false→(true=true→True∧Ob (vi (6:Int)=vi (6:Int)))∧(true=false→False)))∧(false=false→(true=true→True∧Ob (vi (6:Int)=vi (6:Int)))∧(true=false→False))
theorem cbH_eq : cbH = fun (s : Option Nat) (c : Nat) (a : Int) => vc Try.prog anE' 1 29 true (fun _ => none) cbB [] (argFr 0 [.slice (some ⟨0,0,s⟩) 0 c,vi a]) [.gone] (retK Try.prog Try.f37 (fun v H => v = vi 6)) := by kernel_rfl
noncomputable def gtVV0 (l:List Int) := (List.take (resF l).length (List.drop 0 (intsOf (List.map (Value.int IntKind.i64) (resF l)))))
noncomputable def gtVV1 (l:List Int):Prop := (List.take (resF l).length (List.drop 0 (List.map (Value.int IntKind.i64) (resF l)))=List.map (Value.int IntKind.i64) (gtVV0 l)∧0+(resF l).length≤(List.map (Value.int IntKind.i64) (resF l)).length∧true=true)
noncomputable def gtVV2 (l:List Int):Array Value := ⟨[vi (gtV l),vi (gtE l)]⟩
noncomputable def gtVV3 (l:List Int) := (AObj.ro (List.map (Value.int IntKind.i64) l))
noncomputable def gtVV4 (l:List Int) := (mxF (gtVV0 l) ((gtVV0 l).length-1)-fstF l)
noncomputable def gtVV :=
fun (l:List Int) (c:Nat)↦Ob (some (gtVV3 l)=some (gtVV3 l)∧l.length=l.length∧c=c∧l.length≤1000000)∧(Ob (errC l≠(0:Int))→((errC l !=(0:Int))=true→True∧Ob (Value.tuple ⟨[vi (0:Int),vi (errC l)]⟩=Value.tuple (gtVV2 l)))∧((errC l !=(0:Int))=false→False))∧(Ob (errC l=(0:Int))→∀ (zl:List Int),Ob (isZ zl)→(false=true→True∧Ob (Value.tuple ⟨[vi (0:Int),vi (0:Int)]⟩=Value.tuple (gtVV2 l)))∧(false=false→Ob (AtZ l c [AObj.ro (List.map (Value.int IntKind.i64) l),AObj.rw (Value.slice (some (ad0 0)) l.length c::List.map (Value.int IntKind.i64) zl) none]∧Coins l)∧Ob ((gtVV1 l)∧(gtVV0 l).length≤1000000)∧((gtVV0 l).contains (-1:Int)=true→True∧Ob (Value.tuple ⟨[vi (0:Int),vi (4:Int)]⟩=Value.tuple (gtVV2 l)))∧((gtVV0 l).contains (-1:Int)=false→Ob ((gtVV1 l)∧0<(gtVV0 l).length∧(gtVV0 l).length≤1000000)∧Ob (some (gtVV3 l)=some (gtVV3 l)∧l.length=l.length∧0<l.length∧l.length≤5)∧(decide (IntKind.i64.wrap (gtVV4 l)<(0:Int))=true→True∧Ob (Value.tuple ⟨[vi (0:Int),vi (5:Int)]⟩=Value.tuple (gtVV2 l)))∧(decide (IntKind.i64.wrap (gtVV4 l)<(0:Int))=false→True∧Ob (Value.tuple ⟨[vi (IntKind.i64.wrap (gtVV4 l)),vi (0:Int)]⟩=Value.tuple (gtVV2 l))))))
theorem gtVV_eq : gtVV = fun (l : List Int) (c : Nat) => vc Try.prog (apE l c) 1 31 true (fun _ => none) gtB [] (argFr 0 [.slice (some ⟨0,0,none⟩) l.length c]) [ros l] (retK Try.prog Try.f41 (fun v H => v = .tuple #[vi (gtV l),vi (gtE l)])) := by kernel_rfl
noncomputable def gtN :=
fun (x:Unit)↦Ob True∧(true=true→True∧Ob (Value.tuple ⟨[vi (0:Int),vi (6:Int)]⟩=Value.tuple ⟨[vi (0:Int),vi (6:Int)]⟩))∧(true=false→False)
theorem gtN_eq : gtN = fun (_ : Unit) => vc Try.prog anE' 0 31 true (fun _ => none) gtB [] (argFr 0 [.slice none 0 0]) [] (retK Try.prog Try.f41 (fun v H => v = .tuple #[vi 0,vi 6])) := by kernel_rfl
noncomputable def gtH :=
fun (s:Option Nat) (c:Nat)↦Ob True∧(true=true→True∧Ob (Value.tuple ⟨[vi (0:Int),vi (6:Int)]⟩=Value.tuple ⟨[vi (0:Int),vi (6:Int)]⟩))∧(true=false→False)
theorem gtH_eq : gtH = fun (s : Option Nat) (c : Nat) => vc Try.prog anE' 1 31 true (fun _ => none) gtB [] (argFr 0 [.slice (some ⟨0,0,s⟩) 0 c]) [.gone] (retK Try.prog Try.f41 (fun v H => v = .tuple #[vi 0,vi 6])) := by kernel_rfl
def mnI (l : List Int) (c : Nat) : Nat→Option LInv := invOf 0 (LInv.one (Nat × List Int) (fun q => q.1≤(resF l).length) (fun q => [(4,ptr0 1),(7,vi (smF (resF l) (fstF l) q.1)),(22,.slice (some ⟨2,0,none⟩) (resF l).length (resF l).length),(23,vi (resF l).length),(24,vi q.1)]) (fun q => [ros l,tillO l.length c q.2,.rw ((resF l).map (.int .i64)) none]) (fun q => (resF l).length - q.1))
noncomputable def mnVV0  := (Value.int IntKind.i64)
noncomputable def mnVV1 (l:List Int) := (List.take (resF l).length (List.drop 0 (intsOf (List.map mnVV0 (resF l)))))
noncomputable def mnVV2 (l:List Int) := (List.map mnVV0 (resF l))
noncomputable def mnVV3 (l:List Int) (c:Nat) (y:Nat × List Int) := (Value.slice (some (ad0 0)) l.length c::List.map mnVV0 y.snd)
noncomputable def mnVV4 (l:List Int):Prop := (Value.slice (some (ad0 2)) (resF l).length (resF l).length=Value.slice (some (ad0 2)) (resF l).length (resF l).length)
noncomputable def mnVV5 (l:List Int) := (AObj.ro (List.map mnVV0 l))
noncomputable def mnVV6 (l:List Int):Array Value := ⟨[vi (mnV l),vi (mnE l)]⟩
noncomputable def mnVV7 (l:List Int) := (↑(resF l).length:Int)
noncomputable def mnVV :=
fun (l:List Int) (c:Nat)↦Ob (some (mnVV5 l)=some (mnVV5 l)∧l.length=l.length∧c=c∧l.length≤1000000)∧(Ob (errC l≠(0:Int))→((errC l !=(0:Int))=true→True∧Ob (Value.tuple ⟨[vi (0:Int),vi (errC l)]⟩=Value.tuple (mnVV6 l)))∧((errC l !=(0:Int))=false→False))∧(Ob (errC l=(0:Int))→∀ (zl:List Int),Ob (isZ zl)→(false=true→True∧Ob (Value.tuple ⟨[vi (0:Int),vi (0:Int)]⟩=Value.tuple (mnVV6 l)))∧(false=false→Ob (AtZ l c [AObj.ro (List.map mnVV0 l),AObj.rw (Value.slice (some (ad0 0)) l.length c::List.map mnVV0 zl) none]∧Coins l)∧Ob ((List.take (resF l).length (List.drop 0 (mnVV2 l))=List.map mnVV0 (mnVV1 l)∧0+(resF l).length≤(mnVV2 l).length∧true=true)∧(mnVV1 l).length≤1000000)∧((mnVV1 l).contains (-1:Int)=true→True∧Ob (Value.tuple ⟨[vi (0:Int),vi (4:Int)]⟩=Value.tuple (mnVV6 l)))∧((mnVV1 l).contains (-1:Int)=false→(∃ (y:Nat × List Int),Ob (y.fst≤(resF l).length)∧(Ob (AObj.ro (List.map mnVV0 l)=AObj.ro (List.map (nmap1 fun (b:Nat)↦b) (List.map mnVV0 l))∧AObj.sc 3 (mnVV5 l)=true)∧Ob (AObj.rw (Value.slice (some (ad0 0)) l.length c::List.map mnVV0 zl) none=AObj.rw (List.map (nmap1 fun (b:Nat)↦b) (mnVV3 l c y)) none∧AObj.sc 3 (AObj.rw (mnVV3 l c y) none)=true)∧Ob (AObj.rw (mnVV2 l) none=AObj.rw (List.map (nmap1 fun (b:Nat)↦b) (mnVV2 l)) none∧AObj.sc 3 (AObj.rw (mnVV2 l) none)=true)∧True)∧Ob (ptr0 1=ptr0 1)∧Ob ((0:Int)=smF (resF l) (fstF l) y.fst)∧Ob (mnVV4 l)∧Ob ((mnVV7 l)=(mnVV7 l))∧Ob ((0:Int)=(y.fst:Int))∧True)∧∀ (x:Nat × List Int),Ob (x.fst≤(resF l).length)→(decide ((x.fst:Int)<(mnVV7 l))=true→Ob ((0:Int)≤(x.fst:Int)∧(x.fst:Int)<(mnVV7 l)∧true=true)∧Ob (IntAt IntKind.i64 (mnVV2 l) (0+(x.fst:Int).toNat * 1))∧Ob (some (mnVV5 l)=some (mnVV5 l)∧l.length=l.length∧0<l.length∧l.length≤5)∧Ob (fstF l≠(0:Int))∧∃ (y:Nat × List Int),Ob (y.fst≤(resF l).length)∧Ob ((resF l).length-y.fst<(resF l).length-x.fst)∧(Ob (AObj.ro (List.map mnVV0 l)=AObj.ro (List.map (nmap1 fun (b:Nat)↦b) (List.map mnVV0 l))∧AObj.sc 3 (mnVV5 l)=true)∧Ob (AObj.rw (Value.slice (some (ad0 0)) l.length c::List.map mnVV0 x.snd) none=AObj.rw (List.map (nmap1 fun (b:Nat)↦b) (mnVV3 l c y)) none∧AObj.sc 3 (AObj.rw (mnVV3 l c y) none)=true)∧Ob (AObj.rw (mnVV2 l) none=AObj.rw (List.map (nmap1 fun (b:Nat)↦b) (mnVV2 l)) none∧AObj.sc 3 (AObj.rw (mnVV2 l) none)=true)∧True)∧Ob (ptr0 1=ptr0 1)∧Ob (IntKind.i64.wrap (smF (resF l) (fstF l) x.fst+IntKind.i64.wrap ((getI (mnVV2 l) (0+(x.fst:Int).toNat * 1)).tdiv (fstF l)))=smF (resF l) (fstF l) y.fst)∧Ob (mnVV4 l)∧Ob ((mnVV7 l)=(mnVV7 l))∧Ob (IntKind.i64.wrap ((x.fst:Int)+(1:Int))=(y.fst:Int))∧True)∧(decide ((x.fst:Int)<(mnVV7 l))=false→True∧Ob (Value.tuple ⟨[vi (smF (resF l) (fstF l) x.fst),vi (0:Int)]⟩=Value.tuple (mnVV6 l))))))
theorem mnVV_eq : mnVV = fun (l : List Int) (c : Nat) => vc Try.prog (apE l c) 1 39 true (mnI l c) mnB [] (argFr 0 [.slice (some ⟨0,0,none⟩) l.length c]) [ros l] (retK Try.prog Try.f43 (fun v H => v = .tuple #[vi (mnV l),vi (mnE l)])) := by kernel_rfl
noncomputable def mnN :=
fun (x:Unit)↦Ob True∧(true=true→True∧Ob (Value.tuple ⟨[vi (0:Int),vi (6:Int)]⟩=Value.tuple ⟨[vi (0:Int),vi (6:Int)]⟩))∧(true=false→False)
theorem mnN_eq : mnN = fun (_ : Unit) => vc Try.prog anE' 0 39 true (fun _ => none) mnB [] (argFr 0 [.slice none 0 0]) [] (retK Try.prog Try.f43 (fun v H => v = .tuple #[vi 0,vi 6])) := by kernel_rfl
noncomputable def mnH :=
fun (s:Option Nat) (c:Nat)↦Ob True∧(true=true→True∧Ob (Value.tuple ⟨[vi (0:Int),vi (6:Int)]⟩=Value.tuple ⟨[vi (0:Int),vi (6:Int)]⟩))∧(true=false→False)
theorem mnH_eq : mnH = fun (s : Option Nat) (c : Nat) => vc Try.prog anE' 1 39 true (fun _ => none) mnB [] (argFr 0 [.slice (some ⟨0,0,s⟩) 0 c]) [.gone] (retK Try.prog Try.f43 (fun v H => v = .tuple #[vi 0,vi 6])) := by kernel_rfl
theorem badV_c {l : List Int} (h : errC l ≠ 0) : badV l = 0 := by rw [badV,if_pos h]
theorem badE_c {l : List Int} (h : errC l ≠ 0) : badE l = errC l := by rw [badE,if_pos h]
theorem baV_ok (l : List Int) (c : Nat) (hl : l.length≤1000000) : baV l c := by
 unfold baV baV1 baV0
 simp only [SS,reduceCtorEq,Arg.list,Arg.num,Arg.flag,intOf,andP,Nat.reduceLeDiff,Nat.reduceAdd,Nat.reduceMul,Nat.reduceLT]
 refine ⟨hl,fun h => ⟨fun _ => two_eq (badV_c h).symm (badE_c h).symm,fun h2 => h h2⟩,fun h zl hz => ?_⟩
 have hc := errC_ok.1 h
 have h0 : ¬ errC l ≠ 0 := fun h2 => h2 h
 exact ⟨⟨hc.pos,hc.few⟩,fun h1 => two_eq (by rw [badV,if_neg h0,if_neg h1]) (by rw [badE,if_neg h0,if_neg h1]),fun h1 => ⟨⟨at_z,hc⟩,two_eq (by rw [badV,if_neg h0,if_pos h1]) (by rw [badE,if_neg h0,if_pos h1])⟩⟩
theorem cbV_ok (l : List Int) (c : Nat) (a : Int) (hl : l.length≤1000000) : cbV l c a := by
 unfold cbV cbV6 cbV5 cbV4 cbV3 cbV2 cbV1 cbV0
 simp only [SS,reduceCtorEq,Arg.list,Arg.num,Arg.flag,intOf,andP,Nat.reduceLeDiff,Nat.reduceAdd,Nat.reduceMul,Nat.reduceLT]
 have no : ∀ e,errN l a = e→e ≠ 0→e = cbdE l a := fun e h1 h2 => by rw [cbdE,if_pos (by rw [h1]; exact h2),h1]
 refine ⟨hl,fun he => ⟨fun h => absurd h he,fun _ => ⟨fun _ => no _ (by rw [errN_a (by rw [errA_c he]; exact he),errA_c he]) he,fun h => he h⟩⟩,fun he zl hz => ⟨fun h => ?_,fun h => ?_⟩⟩
 · have h3 := errA_3 he ((wi_300 h).2 rfl)
   exact no _ (by rw [errN_a (by rw [h3]; decide),h3]) (by decide)
 · have hr := (wi_300 h).1 rfl
   have hc := errC_ok.1 he
   have h0 : errA l a = 0 := errA_0.2 ⟨he,hr⟩
   have e5 : badF l a (l5 (bF l a.toNat 0) (bF l a.toNat 1) (bF l a.toNat 2) (bF l a.toNat 3) (bF l a.toNat 4)) = badF l a (bF l a.toNat) := rfl
   rw [e5]
   refine ⟨⟨at_z,hc,by omega,by omega⟩,fun h4 => no _ (errN_5 h0 (can_ofI hr.1 h4)) (by decide),fun h4 => ⟨⟨at_z,hc,by omega,bF_small hc (by omega)⟩,fun h5 => ?_,fun h5 => ?_⟩⟩
   · have h6 := errN_0 h0 (can_ofI hr.1 h4)
     rw [cbdE,if_neg (by omega),h5]; rfl
   · have h6 := errN_0 h0 (can_ofI hr.1 h4)
     rw [cbdE,if_neg (by omega),h5]; rfl
theorem rs_bd {l : List Int} : ∀ a,∀ x ∈ rsF l a,-1≤x∧x≤a
 | 0,x,h => by
   rw [rsF,List.mem_replicate] at h
   omega
 | a + 1,x,h => by
   rw [rsF] at h
   cases hb : canB l a && (rsF l a).getD ((a : Int).tmod (fstF l)).toNat 0 == -1 with
   | false =>
     rw [hb] at h
     have := rs_bd a x h
     omega
   | true =>
     rw [hb] at h
     rcases List.mem_or_eq_of_mem_set h with h | h
     · have := rs_bd a x h; omega
     · omega
theorem top_le {l : List Int} (hc : Coins l) : topF l≤2500 := by
 have hf : 1≤fstF l∧fstF l≤50 := coin_rng hc (by have := hc.pos; omega)
 have hl := last_rng hc
 have := Int.mul_le_mul hf.2 hl.2 (by omega) (by omega)
 rw [topF]; omega
theorem res_bd {l : List Int} (hc : Coins l) {j : Nat} (hj : j < (resF l).length) : -1≤(resF l).getD j 0∧(resF l).getD j 0≤2501 := by
 have := rs_bd (l := l) (topF l + 1) _ (ints_mem hj)
 have := top_le hc
 have e : resF l = rsF l (topF l + 1) := rfl
 rw [e] at *
 omega
theorem mx_bd {r : List Int} {B : Int} (h : ∀ j,j < r.length→-1≤r.getD j 0∧r.getD j 0≤B) : ∀ i,i < r.length→-1≤mxF r i∧mxF r i≤B
 | 0,hi => h 0 hi
 | i + 1,hi => by
   have h1 := mx_bd h i (by omega)
   have h2 := h (i + 1) hi
   rw [mxF]
   split <;> omega
theorem fst_rng {l : List Int} (hc : Coins l) : 1≤fstF l∧fstF l≤50 := coin_rng hc (by have := hc.pos; omega)
theorem gtE_c {l : List Int} (h : errC l ≠ 0) : gtE l = errC l := by rw [gtE,if_pos h]
theorem gtV_no {l : List Int} (h : gtE l ≠ 0) : gtV l = 0 := by rw [gtV,if_neg h]
theorem gtVV_ok (l : List Int) (c : Nat) (hl : l.length≤1000000) : gtVV l c := by
 unfold gtVV gtVV4 gtVV3 gtVV2 gtVV1 gtVV0
 simp only [SS,reduceCtorEq,Arg.list,Arg.num,Arg.flag,intOf,andP,Nat.reduceLeDiff,Nat.reduceAdd,Nat.reduceMul,Nat.reduceLT]
 have no : ∀ e,gtE l = e→e ≠ 0→({ toList := [vi 0,vi e] } : Array Value) = { toList := [vi (gtV l),vi (gtE l)] } := fun e h1 h2 => two_eq (gtV_no (by rw [h1]; exact h2)).symm h1.symm
 refine ⟨hl,fun h => ⟨fun _ => no _ (gtE_c h) h,fun h2 => h h2⟩,fun h zl hz => ?_⟩
 have hc := errC_ok.1 h
 have h0 : ¬ errC l ≠ 0 := fun h2 => h2 h
 have hf := fst_rng hc
 have hlen : (resF l).length = (fstF l).toNat := res_len
 have hm := mx_bd (fun j hj => res_bd hc hj) ((resF l).length - 1) (by omega)
 rw [wrap_in (by omega) (by omega)]
 refine ⟨⟨at_z,hc⟩,by omega,fun h1 => no _ (by rw [gtE,if_neg h0,h1]; rfl) (by decide),fun h1 => ⟨by omega,⟨hc.pos,hc.few⟩,fun h2 => no _ (by rw [gtE,if_neg h0,h1]; show (if _ then (5 : Int) else 0) = 5; rw [if_pos h2]) (by decide),fun h2 => ?_⟩⟩
 have e : gtE l = 0 := by rw [gtE,if_neg h0,h1]; show (if _ then (5 : Int) else 0) = 0; rw [if_neg h2]
 exact two_eq (by rw [gtV,if_pos e]) e.symm
theorem sm_bd {r : List Int} {f B : Int} (hf : 1≤f) (hB : 0≤B) (h : ∀ j,j < r.length→0≤r.getD j 0∧r.getD j 0≤B) : ∀ i,i≤r.length→0≤smF r f i∧smF r f i≤B * i
 | 0,_ => by simp [smF]
 | i + 1,hi => by
   have h1 := sm_bd hf hB h i (by omega)
   have h2 := h i (by omega)
   have h3 := div_bd h2.1 hf
   rw [smF]
   have e : B * ((i + 1 : Nat) : Int) = B * i + B := by push_cast; rw [Int.mul_add,Int.mul_one]
   rw [e]; omega
theorem not_cont {r : List Int} (h : r.contains (-1) = false) {j : Nat} (hj : j < r.length) : r.getD j 0 ≠ -1 := fun e => by
 have : r.contains (-1) = true := by rw [List.contains_iff_mem,← e]; exact ints_mem hj
 rw [h] at this; cases this
theorem mnE_c {l : List Int} (h : errC l ≠ 0) : mnE l = errC l := by rw [mnE,if_pos h]
theorem mnV_no {l : List Int} (h : mnE l ≠ 0) : mnV l = 0 := by rw [mnV,if_neg h]
theorem mnVV_ok (l : List Int) (c : Nat) (hl : l.length≤1000000) : mnVV l c := by
 unfold mnVV mnVV7 mnVV6 mnVV5 mnVV4 mnVV3 mnVV2 mnVV1 mnVV0
 simp only [SS,reduceCtorEq,Arg.list,Arg.num,Arg.flag,intOf,andP,Nat.reduceLeDiff,Nat.reduceAdd,Nat.reduceMul,Nat.reduceLT,til_sc,nm_sl]
 have no : ∀ e,mnE l = e→e ≠ 0→({ toList := [vi 0,vi e] } : Array Value) = { toList := [vi (mnV l),vi (mnE l)] } := fun e h1 h2 => two_eq (mnV_no (by rw [h1]; exact h2)).symm h1.symm
 refine ⟨hl,fun h => ⟨fun _ => no _ (mnE_c h) h,fun h2 => h h2⟩,fun h zl hz => ?_⟩
 have hc := errC_ok.1 h
 have h0 : ¬ errC l ≠ 0 := fun h2 => h2 h
 have hf := fst_rng hc
 have hlen : (resF l).length = (fstF l).toNat := res_len
 refine ⟨⟨at_z,hc⟩,by omega,fun h1 => no _ (by rw [mnE,if_neg h0,h1]; rfl) (by decide),fun h1 => ⟨⟨(0,zl),by simp,rfl,rfl,rfl⟩,fun x hx => ⟨fun h2 => ?_,fun h2 => ?_⟩⟩⟩
 · have hb : ∀ j, j < (resF l).length → 0 ≤ (resF l).getD j 0 ∧ (resF l).getD j 0 ≤ 2501 := fun j hj => by
     have := res_bd hc hj
     have := not_cont h1 hj
     omega
   have hs := sm_bd hf.1 (by omega) hb x.1 (by omega)
   have hx2 := hb x.1 (by omega)
   have hd := div_bd hx2.1 hf.1
   have hxb : x.1≤50 := by omega
   rw [wrap_in (x := ((resF l).getD x.1 0).tdiv (fstF l)) (by omega) (by omega)]
   have hxc : (2501 : Int) * (x.1 : Int)≤2501 * 50 := by omega
   exact ⟨by omega,by omega,⟨hc.pos,hc.few⟩,by omega,(x.1 + 1,x.2),by simp; omega,by simp; omega,rfl,by rw [wrap_in (by omega) (by omega)]; rfl,wrap_succ (n := 100) (by omega) (by omega)⟩
 · rw [show x.1 = (resF l).length by omega]
   have e : mnE l = 0 := by rw [mnE,if_neg h0,h1]; rfl
   exact two_eq (by rw [mnV,if_pos e]) e.symm
theorem apT_ok {l : List Int} {c : Nat} : CtOk Try.prog (apT l c) := ((((((fwT_ok.add cgCt_ok).add ibCt_ok).add bdCt_ok).add (kiCt_ok rfl fun c h1 _ => fi_call l c h1)).add reCt_ok).add ctG_ok).add mxG_ok
theorem apE_ok {l : List Int} {c : Nat} : VOk Try.prog (apE l c) := ⟨apT_ok,ccOr_ok twCc_ok (ccIn_ok tiE_ok mixed (inl_one Try.func66)),E0_ok.yc,E0_ok.orc⟩
theorem anE'_ok : VOk Try.prog anE' := ⟨CtOk.none.add tnG_ok,ccIn_ok tjE_ok mixed (inl_one Try.func66),E0_ok.yc,E0_ok.orc⟩
theorem baN_ok (u : Unit) : baN u := by
 unfold baN
 simp only [SS,reduceCtorEq,Arg.list,Arg.num,Arg.flag,intOf,andP,Nat.reduceLeDiff,Nat.reduceAdd,Nat.reduceMul,Nat.reduceLT]
theorem baH_ok (s : Option Nat) (c : Nat) : baH s c := by
 unfold baH
 simp only [SS,reduceCtorEq,Arg.list,Arg.num,Arg.flag,intOf,andP,Nat.reduceLeDiff,Nat.reduceAdd,Nat.reduceMul,Nat.reduceLT]
def baS (r : List Arg) : Prop × Value := match r with
 | [.ints _ l] => (l.length≤1000000,.tuple #[vi (badV l),vi (badE l)])
 | [_] => (True,.tuple #[vi 0,vi 6])
 | _ => (False,undef)
theorem baG_ok : ∀ args H φ v H' l,pureG [.ints .i64] baS args H = some (φ,v,H',l)→Asks φ→Call Try.prog 35 args H (fun v' H2 => v' = v∧H2 = H')∧Kept H H' l :=
 pureG_ok fun r hk hs => match r,hk with
   | [_],⟨hl,_⟩ => by
     rcases hl with rfl | ⟨s,rfl⟩ | ⟨l,rfl⟩
     · exact ⟨by simp [baS,sc,sc2,sc1,sc0],fun caps => Call.ofVc anE'_ok mixed (c := baB) (inv := fun _ => none) Try.func35 (by kernel_rfl) (cast (congrFun baN_eq ()) (baN_ok ()))⟩
     · exact ⟨by simp [baS,sc,sc2,sc1,sc0],fun caps => Call.ofVc anE'_ok mixed (c := baB) (inv := fun _ => none) Try.func35 (by kernel_rfl) (cast (congrFun (congrFun baH_eq s) (caps 0)) (baH_ok s _))⟩
     · exact ⟨by simp [baS,sc,sc2,sc1,sc0],fun caps => Call.ofVc apE_ok mixed (c := baB) (inv := fun _ => none) Try.func35 (by kernel_rfl) (cast (congrFun (congrFun baV_eq l) (caps 0)) (baV_ok l _ hs))⟩
theorem gtN_ok (u : Unit) : gtN u := by
 unfold gtN
 simp only [SS,reduceCtorEq,Arg.list,Arg.num,Arg.flag,intOf,andP,Nat.reduceLeDiff,Nat.reduceAdd,Nat.reduceMul,Nat.reduceLT]
theorem gtH_ok (s : Option Nat) (c : Nat) : gtH s c := by
 unfold gtH
 simp only [SS,reduceCtorEq,Arg.list,Arg.num,Arg.flag,intOf,andP,Nat.reduceLeDiff,Nat.reduceAdd,Nat.reduceMul,Nat.reduceLT]
def gtS (r : List Arg) : Prop × Value := match r with
 | [.ints _ l] => (l.length≤1000000,.tuple #[vi (gtV l),vi (gtE l)])
 | [_] => (True,.tuple #[vi 0,vi 6])
 | _ => (False,undef)
theorem gtG_ok : ∀ args H φ v H' l,pureG [.ints .i64] gtS args H = some (φ,v,H',l)→Asks φ→Call Try.prog 41 args H (fun v' H2 => v' = v∧H2 = H')∧Kept H H' l :=
 pureG_ok fun r hk hs => match r,hk with
   | [_],⟨hl,_⟩ => by
     rcases hl with rfl | ⟨s,rfl⟩ | ⟨l,rfl⟩
     · exact ⟨by simp [gtS,sc,sc2,sc1,sc0],fun caps => Call.ofVc anE'_ok mixed (c := gtB) (inv := fun _ => none) Try.func41 (by kernel_rfl) (cast (congrFun gtN_eq ()) (gtN_ok ()))⟩
     · exact ⟨by simp [gtS,sc,sc2,sc1,sc0],fun caps => Call.ofVc anE'_ok mixed (c := gtB) (inv := fun _ => none) Try.func41 (by kernel_rfl) (cast (congrFun (congrFun gtH_eq s) (caps 0)) (gtH_ok s _))⟩
     · exact ⟨by simp [gtS,sc,sc2,sc1,sc0],fun caps => Call.ofVc apE_ok mixed (c := gtB) (inv := fun _ => none) Try.func41 (by kernel_rfl) (cast (congrFun (congrFun gtVV_eq l) (caps 0)) (gtVV_ok l _ hs))⟩
theorem mnN_ok (u : Unit) : mnN u := by
 unfold mnN
 simp only [SS,reduceCtorEq,Arg.list,Arg.num,Arg.flag,intOf,andP,Nat.reduceLeDiff,Nat.reduceAdd,Nat.reduceMul,Nat.reduceLT]
theorem mnH_ok (s : Option Nat) (c : Nat) : mnH s c := by
 unfold mnH
 simp only [SS,reduceCtorEq,Arg.list,Arg.num,Arg.flag,intOf,andP,Nat.reduceLeDiff,Nat.reduceAdd,Nat.reduceMul,Nat.reduceLT]
def mnS (r : List Arg) : Prop × Value := match r with
 | [.ints _ l] => (l.length≤1000000,.tuple #[vi (mnV l),vi (mnE l)])
 | [_] => (True,.tuple #[vi 0,vi 6])
 | _ => (False,undef)
theorem mnG_ok : ∀ args H φ v H' l,pureG [.ints .i64] mnS args H = some (φ,v,H',l)→Asks φ→Call Try.prog 43 args H (fun v' H2 => v' = v∧H2 = H')∧Kept H H' l :=
 pureG_ok fun r hk hs => match r,hk with
   | [_],⟨hl,_⟩ => by
     rcases hl with rfl | ⟨s,rfl⟩ | ⟨l,rfl⟩
     · exact ⟨by simp [mnS,sc,sc2,sc1,sc0],fun caps => Call.ofVc anE'_ok mixed (c := mnB) (inv := fun _ => none) Try.func43 (by kernel_rfl) (cast (congrFun mnN_eq ()) (mnN_ok ()))⟩
     · exact ⟨by simp [mnS,sc,sc2,sc1,sc0],fun caps => Call.ofVc anE'_ok mixed (c := mnB) (inv := fun _ => none) Try.func43 (by kernel_rfl) (cast (congrFun (congrFun mnH_eq s) (caps 0)) (mnH_ok s _))⟩
     · exact ⟨by simp [mnS,sc,sc2,sc1,sc0],fun caps => Call.ofVc apE_ok mixed (c := mnB) (inv := mnI l (caps 0)) Try.func43 (by kernel_rfl) (cast (congrFun (congrFun mnVV_eq l) (caps 0)) (mnVV_ok l _ hs))⟩
theorem cbN_ok (a : Int) : cbN a := by
 unfold cbN cbN0
 simp only [SS,reduceCtorEq,Arg.list,Arg.num,Arg.flag,intOf,andP,Nat.reduceLeDiff,Nat.reduceAdd,Nat.reduceMul,Nat.reduceLT]
theorem cbH_ok (s : Option Nat) (c : Nat) (a : Int) : cbH s c a := by
 unfold cbH cbH0
 simp only [SS,reduceCtorEq,Arg.list,Arg.num,Arg.flag,intOf,andP,Nat.reduceLeDiff,Nat.reduceAdd,Nat.reduceMul,Nat.reduceLT]
def cbS (r : List Arg) : Prop × Value := match r with
 | [.ints _ l,.plain (.int .i64 a)] => (l.length≤1000000,vi (cbdE l a))
 | [_,.plain (.int .i64 _)] => (True,vi 6)
 | _ => (False,undef)
theorem cbG_ok : ∀ args H φ v H' l,pureG [.ints .i64,.int .i64] cbS args H = some (φ,v,H',l)→Asks φ→Call Try.prog 37 args H (fun v' H2 => v' = v∧H2 = H')∧Kept H H' l :=
 pureG_ok fun r hk hs => match r,hk with
   | [_,_],⟨hl,⟨a,ha⟩,_⟩ => by
     subst ha
     rcases hl with rfl | ⟨s,rfl⟩ | ⟨l,rfl⟩
     · exact ⟨rfl,fun caps => Call.ofVc anE'_ok mixed (c := cbB) (inv := fun _ => none) Try.func37 (by kernel_rfl) (cast (congrFun cbN_eq a) (cbN_ok a))⟩
     · exact ⟨rfl,fun caps => Call.ofVc anE'_ok mixed (c := cbB) (inv := fun _ => none) Try.func37 (by kernel_rfl) (cast (congrFun (congrFun (congrFun cbH_eq s) (caps 0)) a) (cbH_ok s _ a))⟩
     · exact ⟨rfl,fun caps => Call.ofVc apE_ok mixed (c := cbB) (inv := fun _ => none) Try.func37 (by kernel_rfl) (cast (congrFun (congrFun (congrFun cbV_eq l) (caps 0)) a) (cbV_ok l _ a hs))⟩
end Go.Pier.Fl
namespace Go.Pier.Fl
open Go Go.Pier Go.Proofs
def tv (a b c : Int) : Option Value := some (.agg #[vi a,vi b,vi c,vi 0,vi 0])
def lkR (T : List (Option Value)) (x : Int) : Option Value := match x with
 | .ofNat n => T.getD n none
 | .negSucc _ => none
def eqO : Option Value→Option Value→Bool
 | some a,some b => eqV a b
 | none,none => true
 | _,_ => false
theorem eqO_eq {a b : Option Value} (h : eqO a b = true) : a = b := by
 cases a <;> cases b <;> first | rfl | (cases h; done) | exact congrArg some (eqV_eq h)
def tabOk (l : List Int) (T : List (Option Value)) : Nat→Bool
 | 0 => true
 | n + 1 => tabOk l T n && eqO (entV l (lkR T) n) (T.getD n none)
theorem tabOk_at {l : List Int} {T : List (Option Value)} : ∀ {n},tabOk l T n = true→∀ a,a < n→entV l (lkR T) a = T.getD a none
 | 0,_,a,h => by omega
 | n + 1,h,a,ha => by
   simp only [tabOk,Bool.and_eq_true] at h
   by_cases e : a = n
   · subst e; exact eqO_eq h.2
   · exact tabOk_at h.1 a (by omega)
def bT (l : List Int) (T : List (Option Value)) (a : Nat) : Nat→Int := (bstF l (lkR T) a l.length).1
def lbT (l : List Int) (T : List (Option Value)) : Nat→Nat→Option Nat
 | 0,_ => none
 | n + 1,a => bif (T.getD a none).isSome && badF l a (bT l T a) then some a else lbT l T n (a + 1)
def rsT (l : List Int) (T : List (Option Value)) : Nat→List Int
 | 0 => List.replicate (fstF l).toNat (-1)
 | a + 1 => bif (T.getD a none).isSome && (rsT l T a).getD ((a : Int).tmod (fstF l)).toNat 0 == -1 then (rsT l T a).set ((a : Int).tmod (fstF l)).toNat a else rsT l T a
section
variable {l : List Int} {T : List (Option Value)} {n : Nat} (hc : Coins l) (h : tabOk l T n = true)
include hc h
theorem q_tab : ∀ a,a≤n→∀ x : Int,x < a→qF l a x = lkR T x
 | 0,_,x,hx => by
   cases x with
   | ofNat m => exact absurd hx (by simp)
   | negSucc m => rfl
 | a + 1,ha,x,hx => by
   have ih := q_tab a (by omega)
   show (if x = (a : Int) then entV l (qF l a) a else qF l a x) = _
   by_cases e : x = (a : Int)
   · subst e
     rw [if_pos rfl]
     have hb : bstF l (qF l a) a l.length = bstF l (lkR T) a l.length := bst_congr _ fun j hj => ih _ (by have := coin_rng hc hj; omega)
     have : entV l (qF l a) a = entV l (lkR T) a := by unfold entV; rw [hb]
     rw [this,tabOk_at h a (by omega)]; rfl
   · rw [if_neg e]; exact ih x (by omega)
theorem b_tab {a : Nat} (ha : a < n) : bF l a = bT l T a := by
 unfold bF bT
 rw [bst_congr (q' := lkR T) _ fun j hj => q_tab hc h a (by omega) _ (by have := coin_rng hc hj; omega)]
theorem can_tab {a : Nat} (ha : a < n) : canB l a = (T.getD a none).isSome := by
 have h1 := tabOk_at h a ha
 have hb : bstF l (qF l a) a l.length = bstF l (lkR T) a l.length := bst_congr _ fun j hj => q_tab hc h a (by omega) _ (by have := coin_rng hc hj; omega)
 have h2 : entV l (qF l a) a = T.getD a none := by rw [← h1]; unfold entV; rw [hb]
 rw [← h2]
 unfold entV canB bF
 cases ((a : Int) == 0) || !(same5 (bstF l (qF l a) a l.length).1 z5) <;> rfl
theorem lb_tab : ∀ k s,s + k≤n→lbF l k s = lbT l T k s
 | 0,_,_ => rfl
 | k + 1,s,hs => by
   rw [lbF,lbT,can_tab hc h (by omega),b_tab hc h (by omega),lb_tab k (s + 1) (by omega)]
theorem rs_tab : ∀ a,a≤n→rsF l a = rsT l T a
 | 0,_ => rfl
 | a + 1,ha => by
   rw [rsF,rsT,can_tab hc h (by omega),rs_tab a (by omega)]
end
def xlT : List Int := [5,8]
def xtT : List (Option Value) := [tv 0 0 0,none,none,none,none,tv 1 0 0,none,none,tv 0 1 0,none,tv 2 0 0,none,none,tv 1 1 0,none,tv 3 0 0,tv 0 2 0,none,tv 2 1 0,none,tv 4 0 0,tv 1 2 0,none,tv 3 1 0,tv 0 3 0,tv 5 0 0,tv 2 2 0,none,tv 4 1 0,tv 1 3 0,tv 6 0 0,tv 3 2 0,tv 0 4 0,tv 5 1 0,tv 2 3 0,tv 7 0 0,tv 4 2 0,tv 1 4 0,tv 6 1 0,tv 3 3 0,tv 0 5 0]
theorem xkT : tabOk xlT xtT 41 = true := by kernel_rfl
theorem xcT : Coins xlT := errC_ok.1 (by kernel_rfl)
def xlE : List Int := [4,6]
def xtE : List (Option Value) := [tv 0 0 0,none,none,none,tv 1 0 0,none,tv 0 1 0,none,tv 2 0 0,none,tv 1 1 0,none,tv 0 2 0,none,tv 2 1 0,none,tv 1 2 0,none,tv 0 3 0,none,tv 2 2 0,none,tv 1 3 0,none,tv 0 4 0]
theorem xkE : tabOk xlE xtE 25 = true := by kernel_rfl
theorem xcE : Coins xlE := errC_ok.1 (by kernel_rfl)
def xlK : List Int := [1,4,6]
def xtK : List (Option Value) := [tv 0 0 0,tv 1 0 0,tv 2 0 0,tv 3 0 0,tv 0 1 0,tv 1 1 0,tv 0 0 1,tv 1 0 1,tv 0 2 0,tv 1 2 0,tv 0 1 1,tv 1 1 1,tv 0 0 2,tv 1 0 2,tv 0 2 1,tv 1 2 1,tv 0 1 2,tv 1 1 2,tv 0 0 3,tv 1 0 3,tv 0 2 2,tv 1 2 2,tv 0 1 3,tv 1 1 3,tv 0 0 4,tv 1 0 4,tv 0 2 3,tv 1 2 3,tv 0 1 4,tv 1 1 4,tv 0 0 5,tv 1 0 5,tv 0 2 4,tv 1 2 4,tv 0 1 5,tv 1 1 5,tv 0 0 6,tv 1 0 6,tv 0 2 5,tv 1 2 5,tv 0 1 6,tv 1 1 6,tv 0 0 7,tv 1 0 7,tv 0 2 6,tv 1 2 6,tv 0 1 7,tv 1 1 7,tv 0 0 8,tv 1 0 8,tv 0 2 7,tv 1 2 7,tv 0 1 8,tv 1 1 8,tv 0 0 9,tv 1 0 9,tv 0 2 8,tv 1 2 8,tv 0 1 9,tv 1 1 9,tv 0 0 10,tv 1 0 10,tv 0 2 9,tv 1 2 9,tv 0 1 10,tv 1 1 10,tv 0 0 11,tv 1 0 11,tv 0 2 10,tv 1 2 10,tv 0 1 11,tv 1 1 11,tv 0 0 12,tv 1 0 12,tv 0 2 11,tv 1 2 11,tv 0 1 12,tv 1 1 12,tv 0 0 13,tv 1 0 13,tv 0 2 12,tv 1 2 12,tv 0 1 13,tv 1 1 13,tv 0 0 14,tv 1 0 14,tv 0 2 13,tv 1 2 13,tv 0 1 14,tv 1 1 14,tv 0 0 15,tv 1 0 15,tv 0 2 14,tv 1 2 14,tv 0 1 15,tv 1 1 15,tv 0 0 16,tv 1 0 16,tv 0 2 15,tv 1 2 15,tv 0 1 16]
theorem xkK : tabOk xlK xtK 101 = true := by kernel_rfl
theorem xcK : Coins xlK := errC_ok.1 (by kernel_rfl)
def xlC : List Int := [1,5,10]
def xtC : List (Option Value) := [tv 0 0 0,tv 1 0 0,tv 2 0 0,tv 3 0 0,tv 4 0 0,tv 0 1 0,tv 1 1 0,tv 2 1 0,tv 3 1 0,tv 4 1 0,tv 0 0 1,tv 1 0 1,tv 2 0 1,tv 3 0 1,tv 4 0 1,tv 0 1 1,tv 1 1 1,tv 2 1 1,tv 3 1 1,tv 4 1 1,tv 0 0 2,tv 1 0 2,tv 2 0 2,tv 3 0 2,tv 4 0 2,tv 0 1 2,tv 1 1 2,tv 2 1 2,tv 3 1 2,tv 4 1 2,tv 0 0 3,tv 1 0 3,tv 2 0 3,tv 3 0 3,tv 4 0 3,tv 0 1 3,tv 1 1 3,tv 2 1 3,tv 3 1 3,tv 4 1 3,tv 0 0 4,tv 1 0 4,tv 2 0 4,tv 3 0 4,tv 4 0 4,tv 0 1 4,tv 1 1 4,tv 2 1 4,tv 3 1 4,tv 4 1 4,tv 0 0 5,tv 1 0 5,tv 2 0 5,tv 3 0 5,tv 4 0 5,tv 0 1 5,tv 1 1 5,tv 2 1 5,tv 3 1 5,tv 4 1 5,tv 0 0 6,tv 1 0 6,tv 2 0 6,tv 3 0 6,tv 4 0 6,tv 0 1 6,tv 1 1 6,tv 2 1 6,tv 3 1 6,tv 4 1 6,tv 0 0 7,tv 1 0 7,tv 2 0 7,tv 3 0 7,tv 4 0 7,tv 0 1 7,tv 1 1 7,tv 2 1 7,tv 3 1 7,tv 4 1 7,tv 0 0 8,tv 1 0 8,tv 2 0 8,tv 3 0 8,tv 4 0 8,tv 0 1 8,tv 1 1 8,tv 2 1 8,tv 3 1 8,tv 4 1 8,tv 0 0 9,tv 1 0 9,tv 2 0 9,tv 3 0 9,tv 4 0 9,tv 0 1 9,tv 1 1 9,tv 2 1 9,tv 3 1 9,tv 4 1 9,tv 0 0 10]
theorem xkC : tabOk xlC xtC 101 = true := by kernel_rfl
theorem xcC : Coins xlC := errC_ok.1 (by kernel_rfl)
end Go.Pier.Fl
namespace Go.Pier.Fl
open Go Go.Pier Go.Proofs
noncomputable def rtV :=
fun (l:List Int) (c:Nat)↦Ob (some (AObj.ro (List.map (Value.int IntKind.i64) l))=some (AObj.ro (List.map (Value.int IntKind.i64) l))∧l.length=l.length∧c=c∧l.length≤1000000)∧(Ob (errC l≠(0:Int))→((errC l !=(0:Int))=true→(Ob (AObj.ro (List.map (Value.int IntKind.i64) l)=AObj.ro (List.map (nmap1 (nsub 1 2)) (List.map (Value.int IntKind.i64) l))∧AObj.sc 2 (AObj.ro (List.map (Value.int IntKind.i64) l))=true)∧False)∧Ob (Value.tuple ⟨[Value.slice none 0 0,vi (errC l)]⟩=Value.tuple ⟨[Value.slice (some (ad0 2)) (resF l).length (resF l).length,vi (0:Int)]⟩)∧True)∧((errC l !=(0:Int))=false→False))∧(Ob (errC l=(0:Int))→∀ (zl:List Int),Ob (isZ zl)→(false=true→(Ob (AObj.ro (List.map (Value.int IntKind.i64) l)=AObj.ro (List.map (nmap1 (nsub 1 2)) (List.map (Value.int IntKind.i64) l))∧AObj.sc 2 (AObj.ro (List.map (Value.int IntKind.i64) l))=true)∧False)∧Ob (Value.tuple ⟨[Value.slice none 0 0,vi (0:Int)]⟩=Value.tuple ⟨[Value.slice (some (ad0 2)) (resF l).length (resF l).length,vi (0:Int)]⟩)∧True)∧(false=false→Ob (AtZ l c [AObj.ro (List.map (Value.int IntKind.i64) l),AObj.rw (Value.slice (some (ad0 0)) l.length c::List.map (Value.int IntKind.i64) zl) none]∧Coins l)∧(Ob (AObj.ro (List.map (Value.int IntKind.i64) l)=AObj.ro (List.map (nmap1 (nsub 1 2)) (List.map (Value.int IntKind.i64) l))∧AObj.sc 2 (AObj.ro (List.map (Value.int IntKind.i64) l))=true)∧Ob (AObj.rw (List.map (Value.int IntKind.i64) (resF l)) none=AObj.rw (List.map (nmap1 (nsub 1 2)) (List.map (Value.int IntKind.i64) (resF l))) none∧AObj.sc 2 (AObj.rw (List.map (Value.int IntKind.i64) (resF l)) none)=true)∧True)∧Ob (Value.tuple ⟨[Value.slice (some (ad0 2)) (resF l).length (resF l).length,vi (0:Int)]⟩=Value.tuple ⟨[Value.slice (some (ad0 2)) (resF l).length (resF l).length,vi (0:Int)]⟩)∧True))
theorem rtV_ok (l : List Int) (c : Nat) (hc : Coins l) : rtV l c := by
 unfold rtV
 simp only [SS,reduceCtorEq,Arg.list,Arg.num,Arg.flag,intOf,andP,Nat.reduceLeDiff,Nat.reduceAdd,Nat.reduceMul,Nat.reduceLT,til_sc,nm_sl]
 have h0 := errC_ok.2 hc
 have := hc.few
 exact ⟨by omega,fun h => absurd h0 h,fun _ zl _ => ⟨at_z,hc⟩⟩
theorem rt_call (l : List Int) (c : Nat) (hc : Coins l) : Call Try.prog 39 [.slice (some ⟨0,0,none⟩) l.length c] [ros l] fun v H' => v = .tuple #[.slice (some ⟨1,0,none⟩) (resF l).length (resF l).length,vi 0]∧H' = [ros l] ++ [.rw ((resF l).map (.int .i64)) none] :=
 Call.ofVcR (E := apE l c) (H := [ros l]) (args := [.slice (some ⟨0,0,none⟩) l.length c]) (σ := nsub 1 2) (v2 := .tuple #[.slice (some ⟨1,0,none⟩) (resF l).length (resF l).length,vi 0]) (H2 := [ros l,.rw ((resF l).map (.int .i64)) none]) apE_ok mixed (c := rtB) (inv := fun _ => none) Try.func39 (by kernel_rfl) (cast (by kernel_rfl) (rtV_ok l c hc))
def okV : Leaf→Prop
 | .view cs n _ => cs = (intsOf cs).map (.int .i64)∧cs.length = n∧Coins (intsOf cs)
 | _ => False
def rtS : List Arg3→Option Born
 | [.one (.view cs n r)] => some ⟨okV (.view cs n r),fun b => .tuple #[.slice (some ⟨b,0,none⟩) (resF (intsOf cs)).length (resF (intsOf cs)).length,vi 0],[.rw ((resF (intsOf cs)).map (.int .i64)) none]⟩
 | _ => none
theorem rtG_ok : ∀ args H φ v H' l,born3 [.one (.rows [.i .i64] false)] rtS args H = some (φ,v,H',l)→Asks φ→Call Try.prog 39 args H (fun v' H2 => v' = v∧H2 = H')∧Kept H H' l :=
 born3_ok fun r s hk hs hψ => match r,hk with
   | [.one x],⟨hx,_⟩ => by
     rcases hx with rfl | ⟨s,rfl⟩ | ⟨cs,n,rfl⟩
     · cases hs
     · cases hs
     · cases hs
       obtain ⟨k1,k2,k3⟩ := hψ
       have kl : (intsOf cs).length = n := by rw [intsOf,List.length_map]; exact k2
       have ke : AObj.ro cs = ros (intsOf cs) := by show AObj.ro cs = .ro ((intsOf cs).map (.int .i64)); rw [← k1]
       refine ⟨⟨plainNew_ints,fun ρ b ρ' c h => ?_,fun n => ?_⟩,fun caps hcaps => ?_⟩
       · obtain ⟨h1,h2,h3⟩ := h 0 (by simp)
         simp only [Nat.add_zero] at h1 h2 h3
         simp [ren,ren2,ren1,ren0,Ren.addr,Ren.adr,Ren.cap,h1,h2,h3]
       · simp [sc,sc2,sc1,sc0]
       · have h := rt_call (intsOf cs) (caps 0) k3
         rw [kl] at h
         have e : canonH3 [Arg3.one (Leaf.view cs n false)] = [ros (intsOf cs)] := by
           show [AObj.ro cs] = _
           rw [ke]
         rw [e]
         exact h
theorem at1 {f : FuncId} {S : List Arg→Prop × Value} (hG : ∀ args H φ v H' l,pureG [.ints .i64] S args H = some (φ,v,H',l)→Asks φ→Call Try.prog f args H (fun v' H2 => v' = v∧H2 = H')∧Kept H H' l) (l : List Int) (hs : (S [.ints .i64 l]).1) :
   Call Try.prog f [.slice (some ⟨0,0,none⟩) l.length l.length] [.rw (l.map (.int .i64)) none] fun v H' => v = (S [.ints .i64 l]).2∧H' = [.rw (l.map (.int .i64)) none] := by
 have e : (((intsOf (l.map (.int .i64))).drop 0).take l.length) = l := by rw [intsOf_map,List.drop_zero,List.take_length]
 have h := (hG [.slice (some ⟨0,0,none⟩) l.length l.length] [.rw (l.map (.int .i64)) none] (some ((((l.map (Value.int .i64)).drop 0).take l.length = (((intsOf (l.map (.int .i64))).drop 0).take l.length).map (.int .i64)∧0 + l.length≤(l.map (Value.int .i64)).length∧std ⟨0,0,none⟩ l.length = true)∧(S [.ints .i64 (((intsOf (l.map (.int .i64))).drop 0).take l.length)]).1)) (S [.ints .i64 (((intsOf (l.map (.int .i64))).drop 0).take l.length)]).2 [.rw (l.map (.int .i64)) none] [] rfl
   ⟨⟨by rw [e,List.drop_zero,take_map_len],by simp,rfl⟩,by rw [e]; exact hs⟩).1
 rw [e] at h
 exact h
theorem at2 {f : FuncId} {S : List Arg→Prop × Value} (hG : ∀ args H φ v H' l,pureG [.ints .i64,.int .i64] S args H = some (φ,v,H',l)→Asks φ→Call Try.prog f args H (fun v' H2 => v' = v∧H2 = H')∧Kept H H' l) (l : List Int) (a : Int) (hs : (S [.ints .i64 l,.plain (vi a)]).1) :
   Call Try.prog f [.slice (some ⟨0,0,none⟩) l.length l.length,vi a] [.rw (l.map (.int .i64)) none] fun v H' => v = (S [.ints .i64 l,.plain (vi a)]).2∧H' = [.rw (l.map (.int .i64)) none] := by
 have e : (((intsOf (l.map (.int .i64))).drop 0).take l.length) = l := by rw [intsOf_map,List.drop_zero,List.take_length]
 have h := (hG [.slice (some ⟨0,0,none⟩) l.length l.length,vi a] [.rw (l.map (.int .i64)) none] (some ((((l.map (Value.int .i64)).drop 0).take l.length = (((intsOf (l.map (.int .i64))).drop 0).take l.length).map (.int .i64)∧0 + l.length≤(l.map (Value.int .i64)).length∧std ⟨0,0,none⟩ l.length = true)∧(S [.ints .i64 (((intsOf (l.map (.int .i64))).drop 0).take l.length),.plain (vi a)]).1)) (S [.ints .i64 (((intsOf (l.map (.int .i64))).drop 0).take l.length),.plain (vi a)]).2 [.rw (l.map (.int .i64)) none] [] rfl
   ⟨⟨by rw [e,List.drop_zero,take_map_len],by simp,rfl⟩,by rw [e]; exact hs⟩).1
 rw [e] at h
 exact h
theorem at3 (l : List Int) (hc : Coins l) : Call Try.prog 39 [.slice (some ⟨0,0,none⟩) l.length l.length] [.rw (l.map (.int .i64)) none] fun v H' => v = .tuple #[.slice (some ⟨1,0,none⟩) (resF l).length (resF l).length,vi 0]∧H' = [.rw (l.map (.int .i64)) none] ++ [.rw ((resF l).map (.int .i64)) none] := by
 have h := (rtG_ok [.slice (some ⟨0,0,none⟩) l.length l.length] [.rw (l.map (.int .i64)) none] (some ((std ⟨0,0,none⟩ l.length = true∧Flat (l.map (.int .i64)))∧okV (.view (l.map (.int .i64)) l.length false)))
   (.tuple #[.slice (some ⟨1,0,none⟩) (resF (intsOf (l.map (.int .i64)))).length (resF (intsOf (l.map (.int .i64)))).length,vi 0]) ([.rw (l.map (.int .i64)) none] ++ [.rw ((resF (intsOf (l.map (.int .i64)))).map (.int .i64)) none]) [] rfl
   ⟨⟨rfl,all_sc_int⟩,by rw [intsOf_map],by simp,by rw [intsOf_map]; exact hc⟩).1
 rw [intsOf_map] at h
 exact h
theorem frm_of {p : FrmC} {v : Value} {H' : Heap} (h : Call Try.prog p.f p.args p.E fun v' H2 => v' = v∧H2 = H') (hH : H' = p.F ++ p.N) (hv : v = p.v) (hc : p.chk = true) : p.Ok Try.prog := ⟨by rw [← hv,← hH]; exact h,hc⟩
theorem can_T {l : List Int} {T : List (Option Value)} {n a : Nat} {b : Bool} (hc : Coins l) (h : tabOk l T n = true) (ha : a < n) (hb : (T.getD a none).isSome = b) : canB l a = b := by rw [can_tab hc h ha,hb]
theorem few_T {l : List Int} {T : List (Option Value)} {n a : Nat} {x : Int} (hc : Coins l) (h : tabOk l T n = true) (ha : a < n) (h3 : a≤300) (hb : (T.getD a none).isSome = true) (hx : m5 (bT l T a) = x) : fewF l (a : Int) = x∧errN l (a : Int) = 0 := by
 have e : errN l (a : Int) = 0 := errN_0 (errA_0.2 ⟨errC_ok.2 hc,by omega⟩) (by rw [Int.toNat_natCast]; exact can_T hc h ha hb)
 refine ⟨?_,e⟩
 rw [fewF_ok e,Int.toNat_natCast,b_tab hc h ha,hx]
theorem few_5 {l : List Int} {T : List (Option Value)} {n a : Nat} (hc : Coins l) (h : tabOk l T n = true) (ha : a < n) (h3 : a≤300) (hb : (T.getD a none).isSome = false) : fewF l (a : Int) = 0∧errN l (a : Int) = 5 := by
 have e : errN l (a : Int) = 5 := errN_5 (errA_0.2 ⟨errC_ok.2 hc,by omega⟩) (by rw [Int.toNat_natCast]; exact can_T hc h ha hb)
 exact ⟨fewF_no (by rw [e]; decide),e⟩
theorem two_v {x y x' y' : Int} (h : x = x'∧y = y') : Value.tuple #[vi x,vi y] = Value.tuple #[vi x',vi y'] := by rw [h.1,h.2]
end Go.Pier.Fl
