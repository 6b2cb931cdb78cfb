import Derived.Test.YtbehncpoppoglaaPierKT6
import Derived.KernelRfl
set_option linter.unusedSimpArgs false
set_option linter.unusedVariables false
set_option maxRecDepth 100000
namespace Go.Pier.Fl
open Go Go.Pier Go.Proofs
def gcdF (x y : Int) : Int := ((Nat.gcd x.toNat y.toNat : Nat) : Int)
noncomputable def gdB : Code := Try.f52.body.getD .skip
def gdI (x y : Int) : Nat→Option LInv := invOf 0 (LInv.one (Nat × Nat) (fun q => Nat.gcd q.1 q.2 = Nat.gcd x.toNat y.toNat∧q.1≤1000∧q.2≤1000) (fun q => [(0,vi q.1),(1,vi q.2)]) (fun _ => []) (fun q => q.2))
noncomputable def gdV :=
fun (x y:Int)↦(∃ (y_1:Nat × Nat),Ob (y_1.fst.gcd y_1.snd=x.toNat.gcd y.toNat∧y_1.fst≤1000∧y_1.snd≤1000)∧True∧Ob (x=(y_1.fst:Int))∧Ob (y=(y_1.snd:Int))∧True)∧∀ (x_1:Nat × Nat),Ob (x_1.fst.gcd x_1.snd=x.toNat.gcd y.toNat∧x_1.fst≤1000∧x_1.snd≤1000)→(((x_1.snd:Int) !=(0:Int))=true→Ob ((x_1.snd:Int)≠(0:Int))∧∃ (y_1:Nat × Nat),Ob (y_1.fst.gcd y_1.snd=x.toNat.gcd y.toNat∧y_1.fst≤1000∧y_1.snd≤1000)∧Ob (y_1.snd<x_1.snd)∧True∧Ob ((x_1.snd:Int)=(y_1.fst:Int))∧Ob ((x_1.fst:Int).tmod (x_1.snd:Int)=(y_1.snd:Int))∧True)∧(((x_1.snd:Int) !=(0:Int))=false→True∧Ob (vi (x_1.fst:Int)=vi (gcdF x y)))
theorem gdV_eq : gdV = fun (x y : Int) => vc Try.prog {} 0 12 true (gdI x y) gdB [] (argFr 0 [vi x,vi y]) [] (retK Try.prog Try.f52 (fun v _ => v = vi (gcdF x y))) := by kernel_rfl
def gdS (r : List Arg) : Prop × Value := match r with
 | [.plain (.int .i64 x),.plain (.int .i64 y)] => (0≤x∧x≤1000∧0≤y∧y≤1000,vi (gcdF x y))
 | _ => (False,undef)
noncomputable def tpT : Ct := ((((Ct.none.add 19 (pureG [] worksS)).add 51 (pureG [.ints .i64,.int .i64] pdS)).add 41 (pureG [.ints .i64] gtS)).add 43 (pureG [.ints .i64] mnS)).add 52 (pureG [.int .i64,.int .i64] gdS)
noncomputable def tpE : VEnv := { ct := tpT,cc := ccIn Try.prog {} [⟨53,Try.f53,fun _ _ _ => none⟩] }
noncomputable def tpB : Code := Try.f12.body.getD .skip
noncomputable def tpK : KD := retK Try.prog Try.f12 isTrue
def avF (x : Int) : Int := 2 + x % 48
def bvF (a y : Int) : Int := a + 1 + y % (50 - a)
def tpF (a b w : Int) : Fr := [(2,.int .u16 w),(7,vi a),(8,vi b)]
noncomputable def tpV :=
fun (x y w:Int)↦Ob ((48:Int)≠(0:Int))∧Ob (IntKind.i64.wrap ((50:Int)-IntKind.i64.wrap ((2:Int)+(IntKind.i64.wrap x).tmod (48:Int)))≠(0:Int))∧∃ (y_1:Unit),Ob True∧True∧Ob (w=w)∧Ob (IntKind.i64.wrap ((2:Int)+(IntKind.i64.wrap x).tmod (48:Int))=avF x)∧Ob (IntKind.i64.wrap (IntKind.i64.wrap (IntKind.i64.wrap ((2:Int)+(IntKind.i64.wrap x).tmod (48:Int))+(1:Int))+(IntKind.i64.wrap y).tmod (IntKind.i64.wrap ((50:Int)-IntKind.i64.wrap ((2:Int)+(IntKind.i64.wrap x).tmod (48:Int)))))=bvF (avF x) y)∧True
theorem tpV_eq : tpV = fun (x y w : Int) => vc Try.prog tpE 0 138 true (fun _ => none) (headC 2 tpB) [] (argFr 0 [.int .u8 x,.int .u8 y,.int .u16 w]) [] (cutK 0 (fun b => b) (fun _ : Unit => True) (fun _ => tpF (avF x) (bvF (avF x) y) w) (fun _ => []) tpK) := by kernel_rfl
noncomputable def tpW :=
fun (a b w:Int)↦Ob ((0:Int)≤a∧a≤(1000:Int)∧(0:Int)≤b∧b≤(1000:Int))∧((gcdF a b !=(1:Int))=true→Ob (([vi a,vi b]=[vi (intOf (vi a)),vi (intOf (vi b))]∧2≤2∧true=true)∧2≤1000000)∧((gtE [intOf (vi a),intOf (vi b)]==(4:Int))=true→Ob True∧True∧Ob (isTrue (Value.bool true) [AObj.rw [vi a,vi b] none]))∧((gtE [intOf (vi a),intOf (vi b)]==(4:Int))=false→True∧Ob (isTrue (Value.bool false) [AObj.rw [vi a,vi b] none])))∧((gcdF a b !=(1:Int))=false→Ob (([vi a,vi b]=[vi (intOf (vi a)),vi (intOf (vi b))]∧2≤2∧true=true)∧2≤1000000)∧Ob (([vi a,vi b]=[vi (intOf (vi a)),vi (intOf (vi b))]∧0+2≤2∧true=true)∧2≤1000000)∧((gtE [intOf (vi a),intOf (vi b)] !=(0:Int))=false→((mnE [intOf (vi a),intOf (vi b)] !=(0:Int))=false→((gtV [intOf (vi a),intOf (vi b)] !=IntKind.i64.wrap (IntKind.i64.wrap (IntKind.i64.wrap (a * b)-a)-b))=false→((IntKind.i64.wrap ((2:Int) * mnV [intOf (vi a),intOf (vi b)]) !=IntKind.i64.wrap (IntKind.i64.wrap (IntKind.i64.wrap (IntKind.i64.wrap (a * b)-a)-b)+(1:Int)))=true→True∧Ob (isTrue (Value.bool false) [AObj.rw [vi a,vi b] none,AObj.rw [vi a,vi b] none]))∧((IntKind.i64.wrap ((2:Int) * mnV [intOf (vi a),intOf (vi b)]) !=IntKind.i64.wrap (IntKind.i64.wrap (IntKind.i64.wrap (IntKind.i64.wrap (a * b)-a)-b)+(1:Int)))=false→Ob (IntKind.i64.wrap ((if (300:Int)<IntKind.i64.wrap (IntKind.i64.wrap (IntKind.i64.wrap (a * b)-a)-b) then (300:Int) else IntKind.i64.wrap (IntKind.i64.wrap (IntKind.i64.wrap (a * b)-a)-b))+(1:Int))≠(0:Int))∧(decide ((300:Int)<IntKind.i64.wrap (IntKind.i64.wrap (IntKind.i64.wrap (IntKind.i64.wrap (a * b)-a)-b)-(IntKind.i64.wrap w).tmod (IntKind.i64.wrap ((if (300:Int)<IntKind.i64.wrap (IntKind.i64.wrap (IntKind.i64.wrap (a * b)-a)-b) then (300:Int) else IntKind.i64.wrap (IntKind.i64.wrap (IntKind.i64.wrap (a * b)-a)-b))+(1:Int)))))=true→Ob True∧True∧Ob (isTrue (Value.bool true) [AObj.rw [vi a,vi b] none,AObj.rw [vi a,vi b] none]))∧(decide ((300:Int)<IntKind.i64.wrap (IntKind.i64.wrap (IntKind.i64.wrap (IntKind.i64.wrap (a * b)-a)-b)-(IntKind.i64.wrap w).tmod (IntKind.i64.wrap ((if (300:Int)<IntKind.i64.wrap (IntKind.i64.wrap (IntKind.i64.wrap (a * b)-a)-b) then (300:Int) else IntKind.i64.wrap (IntKind.i64.wrap (IntKind.i64.wrap (a * b)-a)-b))+(1:Int)))))=false→Ob (([vi a,vi b]=[vi (intOf (vi a)),vi (intOf (vi b))]∧0+2≤2∧true=true)∧Coins [intOf (vi a),intOf (vi b)]∧(0:Int)≤(IntKind.i64.wrap w).tmod (IntKind.i64.wrap ((if (300:Int)<IntKind.i64.wrap (IntKind.i64.wrap (IntKind.i64.wrap (a * b)-a)-b) then (300:Int) else IntKind.i64.wrap (IntKind.i64.wrap (IntKind.i64.wrap (a * b)-a)-b))+(1:Int)))∧(IntKind.i64.wrap w).tmod (IntKind.i64.wrap ((if (300:Int)<IntKind.i64.wrap (IntKind.i64.wrap (IntKind.i64.wrap (a * b)-a)-b) then (300:Int) else IntKind.i64.wrap (IntKind.i64.wrap (IntKind.i64.wrap (a * b)-a)-b))+(1:Int)))≤(300:Int))∧Ob (([vi a,vi b]=[vi (intOf (vi a)),vi (intOf (vi b))]∧0+2≤2∧true=true)∧Coins [intOf (vi a),intOf (vi b)]∧(0:Int)≤IntKind.i64.wrap (IntKind.i64.wrap (IntKind.i64.wrap (IntKind.i64.wrap (a * b)-a)-b)-(IntKind.i64.wrap w).tmod (IntKind.i64.wrap ((if (300:Int)<IntKind.i64.wrap (IntKind.i64.wrap (IntKind.i64.wrap (a * b)-a)-b) then (300:Int) else IntKind.i64.wrap (IntKind.i64.wrap (IntKind.i64.wrap (a * b)-a)-b))+(1:Int))))∧IntKind.i64.wrap (IntKind.i64.wrap (IntKind.i64.wrap (IntKind.i64.wrap (a * b)-a)-b)-(IntKind.i64.wrap w).tmod (IntKind.i64.wrap ((if (300:Int)<IntKind.i64.wrap (IntKind.i64.wrap (IntKind.i64.wrap (a * b)-a)-b) then (300:Int) else IntKind.i64.wrap (IntKind.i64.wrap (IntKind.i64.wrap (a * b)-a)-b))+(1:Int))))≤(300:Int))∧(true=true→(true=true→((!canB [intOf (vi a),intOf (vi b)] ((IntKind.i64.wrap w).tmod (IntKind.i64.wrap ((if (300:Int)<IntKind.i64.wrap (IntKind.i64.wrap (IntKind.i64.wrap (a * b)-a)-b) then (300:Int) else IntKind.i64.wrap (IntKind.i64.wrap (IntKind.i64.wrap (a * b)-a)-b))+(1:Int)))).toNat==canB [intOf (vi a),intOf (vi b)] (IntKind.i64.wrap (IntKind.i64.wrap (IntKind.i64.wrap (IntKind.i64.wrap (a * b)-a)-b)-(IntKind.i64.wrap w).tmod (IntKind.i64.wrap ((if (300:Int)<IntKind.i64.wrap (IntKind.i64.wrap (IntKind.i64.wrap (a * b)-a)-b) then (300:Int) else IntKind.i64.wrap (IntKind.i64.wrap (IntKind.i64.wrap (a * b)-a)-b))+(1:Int))))).toNat)=true→Ob True∧True∧Ob (isTrue (Value.bool true) [AObj.rw [vi a,vi b] none,AObj.rw [vi a,vi b] none,AObj.rw [vi a,vi b] none,AObj.rw [vi a,vi b] none]))∧((!canB [intOf (vi a),intOf (vi b)] ((IntKind.i64.wrap w).tmod (IntKind.i64.wrap ((if (300:Int)<IntKind.i64.wrap (IntKind.i64.wrap (IntKind.i64.wrap (a * b)-a)-b) then (300:Int) else IntKind.i64.wrap (IntKind.i64.wrap (IntKind.i64.wrap (a * b)-a)-b))+(1:Int)))).toNat==canB [intOf (vi a),intOf (vi b)] (IntKind.i64.wrap (IntKind.i64.wrap (IntKind.i64.wrap (IntKind.i64.wrap (a * b)-a)-b)-(IntKind.i64.wrap w).tmod (IntKind.i64.wrap ((if (300:Int)<IntKind.i64.wrap (IntKind.i64.wrap (IntKind.i64.wrap (a * b)-a)-b) then (300:Int) else IntKind.i64.wrap (IntKind.i64.wrap (IntKind.i64.wrap (a * b)-a)-b))+(1:Int))))).toNat)=false→True∧Ob (isTrue (Value.bool false) [AObj.rw [vi a,vi b] none,AObj.rw [vi a,vi b] none,AObj.rw [vi a,vi b] none,AObj.rw [vi a,vi b] none])))∧(true=false→True∧Ob (isTrue (Value.bool false) [AObj.rw [vi a,vi b] none,AObj.rw [vi a,vi b] none,AObj.rw [vi a,vi b] none,AObj.rw [vi a,vi b] none])))∧(true=false→True∧Ob (isTrue (Value.bool false) [AObj.rw [vi a,vi b] none,AObj.rw [vi a,vi b] none,AObj.rw [vi a,vi b] none,AObj.rw [vi a,vi b] none])))))∧((gtV [intOf (vi a),intOf (vi b)] !=IntKind.i64.wrap (IntKind.i64.wrap (IntKind.i64.wrap (a * b)-a)-b))=true→True∧Ob (isTrue (Value.bool false) [AObj.rw [vi a,vi b] none,AObj.rw [vi a,vi b] none])))∧((mnE [intOf (vi a),intOf (vi b)] !=(0:Int))=true→True∧Ob (isTrue (Value.bool false) [AObj.rw [vi a,vi b] none,AObj.rw [vi a,vi b] none])))∧((gtE [intOf (vi a),intOf (vi b)] !=(0:Int))=true→True∧Ob (isTrue (Value.bool false) [AObj.rw [vi a,vi b] none,AObj.rw [vi a,vi b] none])))
theorem tpW_eq : tpW = fun (a b w : Int) => vc Try.prog tpE 0 138 true (fun _ => none) (tailC 2 tpB) [] (tpF a b w) [] tpK := by kernel_rfl
theorem gdV_ok (x y : Int) (h : 0≤x∧x≤1000∧0≤y∧y≤1000) : gdV x y := by
 unfold gdV
 simp only [SS,reduceCtorEq,Arg.list,Arg.num,Arg.flag,intOf,andP,Nat.reduceLeDiff,Nat.reduceAdd,Nat.reduceMul,Nat.reduceLT]
 refine ⟨⟨(x.toNat,y.toNat),⟨rfl,by show x.toNat≤1000; omega,by show y.toNat≤1000; omega⟩,by show x = (x.toNat : Int); omega,by show y = (y.toNat : Int); omega⟩,?_⟩
 rintro ⟨p,q⟩ ⟨h1,h2,h3⟩
 have h1 : p.gcd q = x.toNat.gcd y.toNat := h1
 have h2 : p≤1000 := h2
 have h3 : q≤1000 := h3
 refine ⟨fun h0 => ⟨h0,(q,p % q),?_,?_,rfl,?_⟩,fun h0 => ?_⟩
 · have h0 : (q : Int) ≠ 0 := h0
   have := Nat.mod_lt p (show 0 < q by omega)
   exact ⟨by show q.gcd (p % q) = _; rw [← h1,Nat.gcd_comm q,← Nat.gcd_rec,Nat.gcd_comm],h3,by show p % q≤1000; omega⟩
 · have h0 : (q : Int) ≠ 0 := h0
   exact Nat.mod_lt p (by omega)
 · show ((p : Int)).tmod q = ((p % q : Nat) : Int)
   rw [Int.tmod_eq_emod_of_nonneg (by omega)]; rfl
 · have h0 : (q : Int) = 0 := h0
   obtain rfl : q = 0 := by omega
   show (p : Int) = gcdF x y
   rw [gcdF,← h1,Nat.gcd_zero_right]
theorem tpV_ok (x y w : Int) (hx : 0≤x∧x < 256) (hy : 0≤y∧y < 256) : tpV x y w := by
 unfold tpV
 simp only [SS,reduceCtorEq,Arg.list,Arg.num,Arg.flag,intOf,andP,Nat.reduceLeDiff,Nat.reduceAdd,Nat.reduceMul,Nat.reduceLT]
 have w1 : IntKind.i64.wrap ((2 : Int) + (IntKind.i64.wrap x).tmod 48) = avF x := by
   rw [wrap_in (x := x) (by omega) (by omega),Int.tmod_eq_emod_of_nonneg hx.1,wrap_in (by omega) (by omega)]; rfl
 have ha : 2≤avF x∧avF x≤49 := by unfold avF; omega
 have w2 : IntKind.i64.wrap ((50 : Int) - avF x) = 50 - avF x := wrap_in (by omega) (by omega)
 have w3 : IntKind.i64.wrap (avF x + 1) = avF x + 1 := wrap_in (by omega) (by omega)
 have hm := Int.emod_nonneg y (show 50 - avF x ≠ 0 by omega)
 have hm2 := Int.emod_lt_of_pos y (show 0 < 50 - avF x by omega)
 rw [w1,w2,w3,wrap_in (x := y) (by omega) (by omega),Int.tmod_eq_emod_of_nonneg hy.1,wrap_in (by omega) (by omega)]
 exact ⟨by decide,by omega,rfl,rfl⟩
theorem tpW_ok (a b : Nat) (w : Int) (ha : 2≤a∧a < b) (hb : b≤50) (hw : 0≤w∧w < 65536) : tpW a b w := by
 have hc : Coins (l2 a b) := coins2 (by omega) hb
 have hab : 3 * a≤a * b := by rw [Nat.mul_comm]; exact Nat.mul_le_mul_left a (by omega)
 have hab2 : 2 * b≤a * b := Nat.mul_le_mul_right b (by omega)
 have hab3 : a * b≤49 * 50 := Nat.mul_le_mul (by omega) hb
 obtain ⟨v,hv⟩ : ∃ v : Nat,v + a + b = a * b := ⟨a * b - a - b,by omega⟩
 have cast : (a : Int) * (b : Int) = ((a * b : Nat) : Int) := (Int.natCast_mul _ _).symm
 have w1 : IntKind.i64.wrap ((a : Int) * (b : Int)) = (a : Int) * b := by rw [cast]; exact wrap_in (by omega) (by omega)
 have w2 : IntKind.i64.wrap ((a : Int) * b - a) = (a : Int) * b - a := by rw [cast]; exact wrap_in (by omega) (by omega)
 have w3 : IntKind.i64.wrap ((a : Int) * b - a - b) = (v : Int) := by rw [cast,wrap_in (by omega) (by omega)]; omega
 have hv2 : (a : Int) * b - a - b = v := by rw [cast]; omega
 have w4 : IntKind.i64.wrap ((v : Int) + 1) = (v : Int) + 1 := wrap_in (by omega) (by omega)
 obtain ⟨t,ht,ht2⟩ : ∃ t : Nat,(if (300 : Int) < (v : Int) then (300 : Int) else (v : Int)) = t∧t≤300∧t≤v := by
   split
   · exact ⟨300,rfl,by omega⟩
   · exact ⟨v,rfl,by omega⟩
 have w5 : IntKind.i64.wrap ((t : Int) + 1) = (t : Int) + 1 := wrap_in (by omega) (by omega)
 obtain ⟨x,hx,hx2⟩ : ∃ x : Nat,w.tmod ((t : Int) + 1) = x∧x≤t := by
   have h1 := Int.emod_nonneg w (show (t : Int) + 1 ≠ 0 by omega)
   have h2 := Int.emod_lt_of_pos w (show 0 < (t : Int) + 1 by omega)
   rw [Int.tmod_eq_emod_of_nonneg hw.1]
   exact ⟨(w % ((t : Int) + 1)).toNat,by omega,by omega⟩
 have w6 : IntKind.i64.wrap ((v : Int) - (x : Int)) = (v : Int) - x := wrap_in (by omega) (by omega)
 have w7 : IntKind.i64.wrap w = w := wrap_in (by omega) (by omega)
 have e8 : ((v : Int) - (x : Int)).toNat = v - x := by omega
 have hg : gcdF a b = ((Nat.gcd a b : Nat) : Int) := rfl
 have hl : ([(a : Int),(b : Int)] : List Int) = l2 a b := rfl
 unfold tpW
 simp only [SS,reduceCtorEq,Arg.list,Arg.num,Arg.flag,intOf,andP,Nat.reduceLeDiff,Nat.reduceAdd,Nat.reduceMul,Nat.reduceLT,isTrue,w1,w2,w3,w4,ht,w5,w7,hx,w6,e8,hg,hl]
 refine ⟨by omega,fun h => ?_,fun h => ?_⟩
 · have h : ((Nat.gcd a b : Nat) : Int) ≠ 1 := h
   have := over2 hc (by omega) (show Nat.gcd a b ≠ 1 by omega)
   exact fun k => k this
 · have h : ((Nat.gcd a b : Nat) : Int) = 1 := h
   obtain ⟨g1,g2,g3,g4⟩ := two2 hc ha hb (show Nat.gcd a b = 1 by omega)
   rw [hv2] at g2 g4
   have hx3 := xor2 hc ha hb (show Nat.gcd a b = 1 by omega) hv (x := x) (by omega)
   have w8 : IntKind.i64.wrap (2 * mnV (l2 a b)) = v + 1 := by rw [g4]; exact w4
   exact ⟨fun _ => ⟨fun _ => ⟨fun _ => ⟨fun k => k w8,fun _ => ⟨by omega,fun _ => ⟨⟨hc,by omega,by omega⟩,⟨hc,by omega,by omega⟩,hx3⟩⟩⟩,fun k => k g2⟩,fun k => k g3⟩,fun k => k g1⟩
theorem gdG_ok : ∀ args H φ v H' l,pureG [.int .i64,.int .i64] gdS args H = some (φ,v,H',l)→Asks φ→Call Try.prog 52 args H (fun v' H2 => v' = v∧H2 = H')∧Kept H H' l :=
 pureG_ok fun r hk hs => match r,hk with
   | [_,_],⟨⟨x,hx⟩,⟨y,hy⟩,_⟩ => by
     subst hx; subst hy
     exact ⟨rfl,fun caps => Call.ofVc E0_ok mixed (c := gdB) (inv := gdI x y) Try.func52 (by kernel_rfl) (cast (congrFun (congrFun gdV_eq x) y) (gdV_ok x y hs))⟩
theorem tpT_ok : CtOk Try.prog tpT := ((((CtOk.none.add worksG_ok).add pdG_ok).add gtG_ok).add mnG_ok).add gdG_ok
theorem tpE_ok : VOk Try.prog tpE := ⟨tpT_ok,ccIn_ok E0_ok mixed (inl_one Try.func53),E0_ok.yc,E0_ok.orc⟩
theorem two_small (r : List Arg) (hr : fitsAll [.int .u8,.int .u8,.int .u16] r) (caps : Nat→Nat) : Call Try.prog 12 (canonA caps 0 r) (canonH r) isTrue := match r,hr with
 | [_,_,_],⟨⟨x,ex,hx⟩,⟨y,ey,hy⟩,⟨w,ew,hw⟩,_⟩ => by
   subst ex; subst ey; subst ew
   have h := tpV_ok x y w (u8_wfA hx) (u8_wfA hy)
   rw [tpV_eq] at h
   refine Call.ofVW (H := []) (args := [.int .u8 x,.int .u8 y,.int .u16 w]) (R := isTrue) Try.func12 (c := tpB) (by kernel_rfl) (vc_cut tpE_ok mixed 2 (ro := none) (split_of (by kernel_rfl)) h fun _ _ => ?_)
   have ha : 2≤avF x∧avF x≤49 := by unfold avF; omega
   have hm := Int.emod_nonneg y (show 50 - avF x ≠ 0 by omega)
   have hm2 := Int.emod_lt_of_pos y (show 0 < 50 - avF x by omega)
   have hb : avF x < bvF (avF x) y∧bvF (avF x) y≤50 := by unfold bvF; omega
   obtain ⟨a,e1⟩ := Int.eq_ofNat_of_zero_le (show 0≤avF x by omega)
   obtain ⟨b,e2⟩ := Int.eq_ofNat_of_zero_le (show 0≤bvF (avF x) y by omega)
   rw [e2,e1]
   have h2 := tpW_ok a b w (by omega) (by omega) (u16_wfA hw)
   rw [tpW_eq] at h2
   exact vc_sound tpE_ok mixed (ro := none) _ [] _ _ _ h2
theorem two_law {K : Type} : ∀ (H : Heap) (avs : List Value) (ds : List (DataW K)),Still H→ReadsAll Try.prog H Try.f12.params.toList avs ds→Call Try.prog 12 avs H fun v _ => v = .bool true :=
 law_of (ps := [.int .u8,.int .u8,.int .u16]) (by kernel_rfl) two_small
end Go.Pier.Fl
