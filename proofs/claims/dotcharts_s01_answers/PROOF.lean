import PyProof.Rows.All
import Wide.All
import OpenK.AllK
import Wide.FinOn
import Open.SpecLaws
import KE.OsGo
import KE.KNestM
import KE.KLam
import KE.SortKeyHeap
import KE.KTupSum
import HandS.ForSpec
import HandS.Comp
import HandS.Evl
import HandS.Wide
import HandS.Codes
import HandS.CallLocal
import HandS.SortInts
import HandS.Lambda
import HandS.Conv
import PySem.Challenge.RW_dotcharts_s01_answers
set_option Elab.async false
set_option maxRecDepth 100000
set_option maxHeartbeats 4000000
/-! # A. Tools over the hand layer: what a reading evaluates to -/
namespace DC
open PySem PySem.Spec PyProof.Rows L2 Evl
theorem b_len : bootBuiltins "len" = some (.builtin "len") := by decide +kernel
theorem b_max : bootBuiltins "max" = some (.builtin "max") := by decide +kernel
theorem b_min : bootBuiltins "min" = some (.builtin "min") := by decide +kernel
theorem b_abs : bootBuiltins "abs" = some (.builtin "abs") := by decide +kernel
theorem b_any : bootBuiltins "any" = some (.builtin "any") := by decide +kernel
theorem b_sum : bootBuiltins "sum" = some (.builtin "sum") := by decide +kernel
theorem b_sorted : bootBuiltins "sorted" = some (.builtin "sorted") := by decide +kernel
/-! ### names of rules -/
def rAdd : R2 := rI0 fun i j => .int (i + j)
def rSub : R2 := rI0 fun i j => .int (i - j)
def rMul : R2 := rI CMulW fun i j => .int (i * j)
def rDiv : R2 := rI CDivW fun i j => .int (i / j)
def rMod : R2 := rI (fun _ j => j ≠ 0) fun i j => .int (i.fmod j)
def rPow : R2 := rI CPow fun i j => .int (i ^ j.toNat)
def rLt : R2 := rI0 fun i j => .bl (decide (i < j))
def rLe : R2 := rI0 fun i j => .bl (decide (i ≤ j))
def rGt : R2 := rI0 fun i j => .bl (decide (j < i))
def rGe : R2 := rI0 fun i j => .bl (decide (j ≤ i))
def rIsN : R2 := fun x y H Q => y = .non ∧ Q (.bl (decide (x = .non))) H
def rNotN : R2 := fun x y H Q => y = .non ∧ Q (.bl (!decide (x = .non))) H
def rNeg : V → Hp → VK → Prop := rU fun i => .int (-i)
def rAbs : List V → Hp → VK → Prop := fun xs H Q => ∃ i, xs = [.int i] ∧ Q (.int (if i < 0 then -i else i)) H
def rMax2 : List V → Hp → VK → Prop := fun xs H Q => ∃ i j, xs = [.int i, .int j] ∧ Q (.int (if j > i then j else i)) H
def rMin2 : List V → Hp → VK → Prop := fun xs H Q => ∃ i j, xs = [.int i, .int j] ∧ Q (.int (if j < i then j else i)) H
def tTru (K : PySem.W.Frag) (ta : TE) : TT := fun σ H Q => ta σ H fun x H' => ∃ k, TruV K x H' k ∧ Q k H'
section
variable {X : Cx}
theorem pe_c0 {k j : Nat} {x : Str} {sp : Sp} {p pos : Pos} (c : C8.Cal X.prog X.w X.K X.mg X.base k x sp []) (hr : Room j X.A) (hk : k ≤ j) (hg : Gl X x)
    (hdb : (x == ("__debug__" : Str)) = false := by decide) (hpl : (backTo pos (starEach [] X.env)).any (·.1) = false := by rfl) :
    PE X (.Call (.Name x p) [] [] pos) (tCall sp [] E0 tNil) := by
  obtain ⟨f, fd, ps, ds, F, hm, kp, b, d⟩ := c.ex
  exact pe_call0 F (hr.mono hk) hg hm kp b d pass0 hdb
theorem pe_mk0 {k j : Nat} {x : Str} {C : Addr} {sp : Sp} {p pos : Pos} (c : C8.Mak X.prog X.w X.K X.mg X.base k x C sp []) (hr : Room j X.A) (hk : k + 1 ≤ j) (hg : Gl X x)
    (hdb : (x == ("__debug__" : Str)) = false := by decide) :
    PE X (.Call (.Name x p) [] [] pos) (tMake C sp [] E0 tNil) := by
  obtain ⟨f, fd, ps, ds, M, F, hm, b, d⟩ := c.ex
  exact pe_make0 M F (hr.mono hk) hg hm b d pass0 hdb
end
/-- sum(t) of a tuple of ints -/
def rSumT (K : PySem.W.Frag) : List V → Hp → VK → Prop := fun vs H Q => ∃ (a : Addr) (ns : List Int), vs = [V.ref a] ∧ SqT K H a (ns.map V.int) ∧ Q (.int ns.sum) H
theorem cr_sumT {X : Cx} (hc : X.calm = true) : CallR X (.builtin "sum") (rSumT X.K) := by
  intro pins s σ H vs us Q I r h
  obtain ⟨a, ns, rfl, hs, q⟩ := h
  obtain ⟨its, rv, ht, _⟩ := I.tuple hs
  rw [Vals.ref1 r]
  have hi := rv.ints
  obtain ⟨xs, hx⟩ := hi.allInts.items
  have hn : numsOf (intItems xs).toList = ns := by rw [← hx]; exact hi.numsOf
  rw [nums_intItems] at hn
  have hl : s.heap.IsTuple a its.toArray := ht
  rw [hx] at hl
  refine PySem.W.ktm_sumG (I.ok.hd hc) hl fun h' tk t' hk => ?_
  rw [preSum_eq, List.take_of_length_le (by simp), hn]
  exact ⟨.int _, H, I.kept hk, ⟨_, rfl⟩, q⟩
/-- o.m(..), o an instance of one of several classes -/
def tMethA (S : Addr → Option Sp) (m : Str) (ta : TE) (t : TA) : TE := fun σ H Q => ta σ H fun x H1 => ∃ a C dx fs sp, x = .ref a ∧ H1 a = some (.ins C dx fs) ∧ S C = some sp ∧ fs.lookup m = none ∧
  t σ H1 fun vs H2 => sp (x :: vs) H2 Q E0
theorem pe_mtA {X : Cx} {S : Addr → Option Sp} {k j : Nat} {m : Str} {pos apos : Pos} {e o : Expr} {es : List Expr} {ta : TE} {t : TA} {pl : Sem Bool} (M : ∀ C sp, S C = some sp → C8.Met X.prog X.w X.K X.mg X.base k C m sp []) (hr : Room j X.A) (hk : k ≤ j) (he : PE X o ta) (ha : PA X (e :: es) t)
    (hst : starEach (e :: es) X.env = (false, eval e X.env) :: starEach es X.env := by rfl) (hpl : (backTo pos (starEach es X.env)).any (·.1) = false := by rfl)
    (ht : eval (.Call (.Attribute o m apos) (e :: es) [] pos) X.env = (do
      let ov ← eval o X.env
      standAt apos.atName
      let (f, first) ← holding [ov] (getMethod ov m pl)
      callWith pos f first (backTo pos (starEach (e :: es) X.env)) (backToKw pos (keywordEach [] X.env))) := by rfl) :
    PE X (.Call (.Attribute o m apos) (e :: es) [] pos) (tMethA S m ta t) := by
  refine ⟨fun pins s σ H Q I h => ?_⟩
  refine PySem.W.methodCall_KW (pl := pl) (thn (he.run pins s σ H _ I h) fun u s1 ⟨x, H1, I1, rx, a, C, dx, fs, sp, ex, ea, hS, l, q⟩ => ?_) ht
  subst ex
  obtain rfl : u = Value.ref a := rx
  obtain ⟨f, fd, ps, ds, c, hm, F, b, d⟩ := (M C sp hS).ex
  refine getmeth_ok I1 ea c hm l ?_
  refine PySem.W.callWith_K (first := [.ref a]) (h₀ := X.base) I.ok.mod.kin hm.kp (thn (ha.run pos pins s1 σ H1 _ I1 q) fun us s2 ⟨vs, H2, I2, r, q2⟩ => ⟨I2.kIn, ?_⟩) hst hpl
  refine run_fn (dvs := []) (us := .ref a :: us) (vs := .ref a :: vs) F (hr.mono hk) b d pass0 I2 (.cons rfl r) ?_
  rw [List.append_nil]
  exact q2
/-! ### evaluation: a new object of which P holds -/
def EvN (te : TE) (σ : L2.St) (H : Hp) (P : Addr → Hp → Prop) : Prop := ∀ H1, Ex H H1 → ∀ Q : VK, (∀ p H2, H1 p = none → Ex H1 H2 → P p H2 → Q (.ref p) H2) → te σ H1 Q
def RetN (P : Addr → Hp → Prop) (H : Hp) (Q : VK) : Prop := ∀ p H2, H p = none → Ex H H2 → P p H2 → Q (.ref p) H2
def SpN (sp : Sp) (vs : List V) (H : Hp) (P : Addr → Hp → Prop) : Prop := ∀ H1, Ex H H1 → ∀ Q : VK, (∀ p H2, H1 p = none → Ex H1 H2 → P p H2 → Q (.ref p) H2) → ∀ E : XK, sp vs H1 Q E
/-- P stays in larger heaps -/
def Mono (P : Hp → Prop) : Prop := ∀ H H', Ex H H' → P H → P H'
section
variable {K : PySem.W.Frag} {σ : L2.St} {H H' : Hp} {ta tb te to tx : TE} {t u : TT} {x y z v : V} {r : R2} {a C dx : Addr} {fs : List (Str × V)} {P : Addr → Hp → Prop}
theorem EvN.mono (e : Ex H H') (h : EvN te σ H P) : EvN te σ H' P := fun H1 a Q q => h H1 (e.trans a) Q q
theorem ev_fld {f : Str} (h : Ev te σ H (.ref a)) (ho : H a = some (.ins C dx fs)) (c : Cls K C) (n : NoAttr K C f) (l : fs.lookup f = some v) : Ev (tFld K te f) σ H v := fun H1 e Q q =>
  h H1 e _ fun H2 e2 => ⟨a, C, dx, fs, v, rfl, e2 _ _ (e _ _ ho), c, n, l, q H2 e2⟩
theorem ev_meth {m : Str} {sp : Sp} {vs : List V} {tr : TA} (h : Ev to σ H (.ref a)) (ho : H a = some (.ins C dx fs)) (hm : fs.lookup m = none) (ha : EvA tr σ H vs) (hs : SpV sp (.ref a :: vs) H z) : Ev (tMeth C m sp [] E0 to tr) σ H z := fun H1 e Q q =>
  h H1 e _ fun H2 e2 => ⟨a, dx, fs, rfl, e2 _ _ (e _ _ ho), hm, ha H2 (e.trans e2) _ fun H3 e3 => by
    rw [List.append_nil]
    exact hs H3 ((e.trans e2).trans e3) Q (fun H4 e4 => q H4 ((e2.trans e3).trans e4)) E0⟩
theorem en_meth {m : Str} {sp : Sp} {vs : List V} {tr : TA} (h : Ev to σ H (.ref a)) (ho : H a = some (.ins C dx fs)) (hm : fs.lookup m = none) (ha : EvA tr σ H vs) (hs : SpN sp (.ref a :: vs) H P) : EvN (tMeth C m sp [] E0 to tr) σ H P := fun H1 e Q q =>
  h H1 e _ fun H2 e2 => ⟨a, dx, fs, rfl, e2 _ _ (e _ _ ho), hm, ha H2 (e.trans e2) _ fun H3 e3 => by
    rw [List.append_nil]
    exact hs H3 ((e.trans e2).trans e3) Q (fun p H4 hp e4 h4 => q p H4 (fresh_back (e2.trans e3) hp) ((e2.trans e3).trans e4) h4) E0⟩
theorem el_meth {m : Str} {sp : Sp} {vs xs : List V} {tr : TA} (h : Ev to σ H (.ref a)) (ho : H a = some (.ins C dx fs)) (hm : fs.lookup m = none) (ha : EvA tr σ H vs) (hs : SpL sp (.ref a :: vs) H xs) : EvL (tMeth C m sp [] E0 to tr) σ H xs := en_meth h ho hm ha hs
theorem ev_cal {sp : Sp} {vs : List V} {tr : TA} (h : EvA tr σ H vs) (hs : SpV sp vs H z) : Ev (tCall sp [] E0 tr) σ H z := ev_call h (by rw [List.append_nil]; exact hs)
theorem el_cal {sp : Sp} {vs xs : List V} {tr : TA} (h : EvA tr σ H vs) (hs : SpL sp vs H xs) : EvL (tCall sp [] E0 tr) σ H xs := el_call h (by rw [List.append_nil]; exact hs)
theorem en_cal {sp : Sp} {vs : List V} {tr : TA} (h : EvA tr σ H vs) (hs : SpN sp vs H P) : EvN (tCall sp [] E0 tr) σ H P := fun H1 e Q q =>
  h H1 e _ fun H2 e2 => by
    rw [List.append_nil]
    exact hs H2 (e.trans e2) Q (fun p H3 hp e3 h3 => q p H3 (fresh_back e2 hp) (e2.trans e3) h3) E0
/-- a call one of whose arguments, the first, is a new list -/
theorem ev_calL {sp : Sp} {vs xs : List V} {tr : TA} (h : EvL ta σ H xs) (hr : EvA tr σ H vs) (hs : ∀ p H1, H1 p = some (.lst xs) → Ex H H1 → SpV sp (.ref p :: vs) H1 z) : Ev (tCall sp [] E0 (tCons ta tr)) σ H z := fun H1 e Q q =>
  h H1 e _ fun p H2 hp e2 h2 => hr H2 (e.trans e2) _ fun H3 e3 => by
    show sp ((V.ref p :: vs) ++ []) H3 Q E0
    rw [List.append_nil]
    exact hs p H3 (e3 _ _ h2) ((e.trans e2).trans e3) H3 (Ex.refl _) Q (fun H4 e4 => q H4 ((e2.trans e3).trans e4)) E0
theorem el_calL {sp : Sp} {vs xs ys : List V} {tr : TA} (h : EvL ta σ H xs) (hr : EvA tr σ H vs) (hs : ∀ p H1, H1 p = some (.lst xs) → Ex H H1 → SpL sp (.ref p :: vs) H1 ys) : EvL (tCall sp [] E0 (tCons ta tr)) σ H ys := fun H1 e Q q =>
  h H1 e _ fun p H2 hp e2 h2 => hr H2 (e.trans e2) _ fun H3 e3 => by
    show sp ((V.ref p :: vs) ++ []) H3 Q E0
    rw [List.append_nil]
    exact hs p H3 (e3 _ _ h2) ((e.trans e2).trans e3) H3 (Ex.refl _) Q (fun p' H4 hp' e4 h4 => q p' H4 (fresh_back (e2.trans e3) hp') ((e2.trans e3).trans e4) h4) E0
theorem en_calL {sp : Sp} {vs xs : List V} {tr : TA} (h : EvL ta σ H xs) (hr : EvA tr σ H vs) (hs : ∀ p H1, H1 p = some (.lst xs) → Ex H H1 → SpN sp (.ref p :: vs) H1 P) : EvN (tCall sp [] E0 (tCons ta tr)) σ H P := fun H1 e Q q =>
  h H1 e _ fun p H2 hp e2 h2 => hr H2 (e.trans e2) _ fun H3 e3 => by
    show sp ((V.ref p :: vs) ++ []) H3 Q E0
    rw [List.append_nil]
    exact hs p H3 (e3 _ _ h2) ((e.trans e2).trans e3) H3 (Ex.refl _) Q (fun p' H4 hp' e4 h4 => q p' H4 (fresh_back (e2.trans e3) hp') ((e2.trans e3).trans e4) h4) E0
/-- a built-in over a new list -/
theorem ev_cbL {rr : List V → Hp → VK → Prop} {xs : List V} (h : EvL ta σ H xs) (hr : ∀ p H1, H1 p = some (.lst xs) → Ex H H1 → RC rr [.ref p] H1 z) : Ev (tCB rr (tCons ta tNil)) σ H z := fun H1 e Q q =>
  h H1 e _ fun p H2 _ e2 h2 => hr p H2 h2 (e.trans e2) H2 (Ex.refl _) Q fun H3 e3 => q H3 (e2.trans e3)
theorem ev_cb1 {rr : List V → Hp → VK → Prop} (h : Ev ta σ H x) (hr : RC rr [x] H z) : Ev (tCB rr (tCons ta tNil)) σ H z := ev_cb (ea_cons h ea_nil) hr
/-! ### what __init__ leaves: its instance at p, all else as it was -/
def Init (C p dx : Addr) (fs : List (Str × V)) (H : Hp) (Q : VK) : Prop := ∀ H' : Hp, H' p = some (.ins C dx fs) → (∀ b o, H b = some o → b ≠ p → H' b = some o) → Q .non H'
theorem en_make {sp : Sp} {vs : List V} {tr : TA} {fs : List (Str × V)} (h : EvA tr σ H vs) (hs : ∀ (H1 : Hp) (p dx : Addr), Ex H H1 → H p = none → H1 p = some (.ins C dx []) → ∀ Q : VK, Init C p dx fs H1 Q → ∀ E : XK, sp (.ref p :: vs) H1 Q E) :
    EvN (tMake C sp [] E0 tr) σ H fun p H2 => ∃ dx, H2 p = some (.ins C dx fs) := fun H1 e Q q =>
  h H1 e _ fun H2 e2 x dx nx nd ne => by
    have e3 : Ex H2 (upd (upd H2 dx (.own x)) x (.ins C dx [])) := fun b o hb => by
      rw [upd_ne (ne_of_none hb nx), upd_ne (ne_of_none hb nd)]
      exact hb
    rw [List.append_nil]
    refine hs _ x dx ((e.trans e2).trans e3) (fresh_back (e.trans e2) nx) upd_same _ (fun H' h' k => ⟨rfl, ?_⟩) E0
    exact q x H' (fresh_back e2 nx) (e2.trans (Same.made nx nd k)) ⟨dx, h'⟩
/-! ### statements -/
variable {D : Ends} {tu tw tz : TS} {g : TG}
theorem q_asgN {i : Nat} (h : EvN te σ H P) (k : ∀ p H1, H p = none → Ex H H1 → P p H1 → tz D (σ.set i (some (.ref p))) H1) : tSeq (tAsg te (gName i)) tz D σ H := h H (Ex.refl H) _ fun p H1 hp e h1 => k p H1 hp e h1
theorem s_retN (h : EvN te σ H P) (k : ∀ p H1, H p = none → Ex H H1 → P p H1 → D.rt (.ref p) H1) : tRet te D σ H := h H (Ex.refl H) _ k
theorem q_ret (h : Ev te σ H v) (k : ∀ H1, Ex H H1 → D.rt v H1) : tSeq (tRet te) tz D σ H := h H (Ex.refl H) _ k
theorem ret_v (h : Ev te σ H v) (k : RetV v H D.rt) : tRet te D σ H := s_ret h k
theorem ret_l {xs : List V} (h : EvL te σ H xs) (k : RetL xs H D.rt) : tRet te D σ H := s_retL h k
theorem ret_n (h : EvN te σ H P) (k : RetN P H D.rt) : tRet te D σ H := s_retN h k
theorem RetV.up {Q : VK} (k : RetV v H Q) (e : Ex H H') : RetV v H' Q := fun H2 e2 => k H2 (e.trans e2)
theorem RetL.up {xs : List V} {Q : VK} (k : RetL xs H Q) (e : Ex H H') : RetL xs H' Q := fun p H2 hp e2 h2 => k p H2 (fresh_back e hp) (e.trans e2) h2
theorem RetN.up {Q : VK} (k : RetN P H Q) (e : Ex H H') : RetN P H' Q := fun p H2 hp e2 h2 => k p H2 (fresh_back e hp) (e.trans e2) h2
/-- xs.append(e), up to the longest line -/
theorem s_appB {l : Addr} {xs : List V} (hl : H l = some (.lst xs)) (ha : Ev ta σ H (.ref l)) (h : Ev te σ H v) (hz : xs.length < sizeLine) (k : ∀ H1, Ex H H1 → D.nx σ (upd H1 l (.lst (xs ++ [v])))) :
    tDrop (tBM K "list" rAppend ta (tCons te tNil)) D σ H := ha H (Ex.refl H) _ fun H1 e1 =>
  ⟨Or.inl ⟨rfl, xs, sq_of (e1 l _ hl)⟩, h H1 e1 _ fun H2 e2 => ⟨l, xs, v, rfl, rfl, e2 l _ (e1 l _ hl), hz, k H2 (e1.trans e2)⟩⟩
/-- xs.extend(ys), ys new -/
theorem s_extL {l : Addr} {xs ys : List V} (hl : H l = some (.lst xs)) (ha : Ev ta σ H (.ref l)) (h : EvL te σ H ys) (hz : xs.length + ys.length ≤ sizeLine) (k : ∀ H1, Ex H H1 → D.nx σ (upd H1 l (.lst (xs ++ ys)))) :
    tDrop (tBM K "list" rExtend ta (tCons te tNil)) D σ H := ha H (Ex.refl H) _ fun H1 e1 =>
  ⟨Or.inl ⟨rfl, xs, sq_of (e1 l _ hl)⟩, h H1 e1 _ fun p H2 _ e2 h2 => ⟨l, p, xs, ys, rfl, rfl, e2 l _ (e1 l _ hl), h2, hz, k H2 (e1.trans e2)⟩⟩
/-- o.f = e -/
theorem s_fldV {f : Str} (hv : Ev te σ H v) (ho : Ev to σ H (.ref a)) (h : H a = some (.ins C dx fs)) (c : Cls K C) (n : NoAttr K C f) (hz : fs.length < 1000) (k : ∀ H1, Ex H H1 → H1 a = some (.ins C dx fs) → D.nx σ (upd H1 a (.ins C dx (putF f v fs)))) : sFld K to te f D σ H :=
  hv H (Ex.refl H) _ fun H1 e1 => ho H1 e1 _ fun H2 e2 => ⟨a, C, dx, fs, rfl, (e1.trans e2) _ _ h, c, n, hz, k H2 (e1.trans e2) ((e1.trans e2) _ _ h)⟩
theorem s_fldN {f : Str} (hv : EvN te σ H P) (ho : Ev to σ H (.ref a)) (h : H a = some (.ins C dx fs)) (c : Cls K C) (n : NoAttr K C f) (hz : fs.length < 1000) (k : ∀ p H1 H2, H p = none → Ex H H1 → P p H1 → Ex H1 H2 → H2 a = some (.ins C dx fs) → D.nx σ (upd H2 a (.ins C dx (putF f (.ref p) fs)))) : sFld K to te f D σ H :=
  hv H (Ex.refl H) _ fun p H1 hp e1 h1 => ho H1 e1 _ fun H2 e2 => ⟨a, C, dx, fs, rfl, (e1.trans e2) _ _ h, c, n, hz, k p H1 H2 hp e1 h1 e2 ((e1.trans e2) _ _ h)⟩
/-! ### values -/
theorem ru_I {gg : Int → V} {i : Int} : RU (rU gg) (.int i) H (gg i) := fun H1 _ _ q => ⟨i, rfl, q H1 (Ex.refl H1)⟩
theorem rv_isN {z : V} : RV rIsN z .non H (.bl (decide (z = .non))) := fun H1 _ _ q => ⟨rfl, q H1 (Ex.refl H1)⟩
theorem rv_notN {z : V} : RV rNotN z .non H (.bl (!decide (z = .non))) := fun H1 _ _ q => ⟨rfl, q H1 (Ex.refl H1)⟩
theorem ev_add {i j : Int} (ha : Ev ta σ H (.int i)) (hb : Ev tb σ H (.int j)) : Ev (tOp rAdd ta tb) σ H (.int (i + j)) := ev_op ha hb rv_I0
theorem ev_sub {i j : Int} (ha : Ev ta σ H (.int i)) (hb : Ev tb σ H (.int j)) : Ev (tOp rSub ta tb) σ H (.int (i - j)) := ev_op ha hb rv_I0
theorem ev_mul {i j : Int} (ha : Ev ta σ H (.int i)) (hb : Ev tb σ H (.int j)) (hc : CMulW i j) : Ev (tOp rMul ta tb) σ H (.int (i * j)) := ev_op ha hb (rv_I hc)
theorem ev_div {i j : Int} (ha : Ev ta σ H (.int i)) (hb : Ev tb σ H (.int j)) (hc : CDivW i j) : Ev (tOp rDiv ta tb) σ H (.int (i / j)) := ev_op ha hb (rv_I hc)
theorem ev_mod {i j : Int} (ha : Ev ta σ H (.int i)) (hb : Ev tb σ H (.int j)) (hc : j ≠ 0) : Ev (tOp rMod ta tb) σ H (.int (i.fmod j)) := ev_op ha hb (rv_I hc)
theorem ev_pow {i j : Int} (ha : Ev ta σ H (.int i)) (hb : Ev tb σ H (.int j)) (hc : CPow i j) : Ev (tOp rPow ta tb) σ H (.int (i ^ j.toNat)) := ev_op ha hb (rv_I hc)
theorem ev_lt {i j : Int} (ha : Ev ta σ H (.int i)) (hb : Ev tb σ H (.int j)) : Ev (tOp rLt ta tb) σ H (.bl (decide (i < j))) := ev_op ha hb rv_I0
theorem ev_le {i j : Int} (ha : Ev ta σ H (.int i)) (hb : Ev tb σ H (.int j)) : Ev (tOp rLe ta tb) σ H (.bl (decide (i ≤ j))) := ev_op ha hb rv_I0
theorem ev_gt {i j : Int} (ha : Ev ta σ H (.int i)) (hb : Ev tb σ H (.int j)) : Ev (tOp rGt ta tb) σ H (.bl (decide (j < i))) := ev_op ha hb rv_I0
theorem ev_ge {i j : Int} (ha : Ev ta σ H (.int i)) (hb : Ev tb σ H (.int j)) : Ev (tOp rGe ta tb) σ H (.bl (decide (j ≤ i))) := ev_op ha hb rv_I0
theorem ev_eqI {i j : Int} (ha : Ev ta σ H (.int i)) (hb : Ev tb σ H (.int j)) : Ev (tOp rEq ta tb) σ H (.bl (decide (i = j))) :=
  ev_is (ev_op ha hb (rv_eq rfl)) (by congr 1; exact decide_eq_decide.mpr ⟨fun e => V.int.inj e, fun e => by rw [e]⟩)
theorem ev_neI {i j : Int} (ha : Ev ta σ H (.int i)) (hb : Ev tb σ H (.int j)) : Ev (tOp rNe ta tb) σ H (.bl (!decide (i = j))) :=
  ev_is (ev_op ha hb (rv_ne rfl)) (by congr 2; exact decide_eq_decide.mpr ⟨fun e => V.int.inj e, fun e => by rw [e]⟩)
theorem ev_neg {i : Int} (ha : Ev ta σ H (.int i)) : Ev (tUn rNeg ta) σ H (.int (-i)) := ev_un ha ru_I
theorem ev_isN (ha : Ev ta σ H x) : Ev (tOp rIsN ta (tC .non)) σ H (.bl (decide (x = .non))) := ev_op ha ev_c rv_isN
theorem ev_notN (ha : Ev ta σ H x) : Ev (tOp rNotN ta (tC .non)) σ H (.bl (!decide (x = .non))) := ev_op ha ev_c rv_notN
theorem ev_ixL {p : Addr} {xs : List V} {i : Int} (ha : Ev ta σ H (.ref p)) (hb : Ev tb σ H (.int i)) (h : SqL K H p xs) (hi : atI xs i = some v) : Ev (tOp (rIxL K) ta tb) σ H v := ev_op ha hb (rv_ixL h hi)
theorem ev_ixT {p : Addr} {xs : List V} {i : Int} (ha : Ev ta σ H (.ref p)) (hb : Ev tb σ H (.int i)) (h : SqT K H p xs) (hi : atI xs i = some v) : Ev (tOp (rIxT K) ta tb) σ H v := ev_op ha hb (rv_ixT h hi)
/-- a r b r' c, b asked once -/
theorem ev_chain {r r' : R2} {w : V} {b c : Bool} {tc : TE} (ha : Ev ta σ H x) (hb : Ev tb σ H y) (hr : RV r x y H (.bl b)) (hc : b = true → Ev tc σ H w) (hr' : b = true → RV r' y w H (.bl c)) : Ev (tChain r r' ta tb tc) σ H (.bl (b && c)) := fun H1 e Q q =>
  ha H1 e _ fun H2 e2 => hb H2 (e.trans e2) _ fun H3 e3 => hr H3 ((e.trans e2).trans e3) _ fun H4 e4 => ⟨b, rfl, by
    have eH : Ex H H4 := ((e.trans e2).trans e3).trans e4
    have e14 : Ex H1 H4 := (e2.trans e3).trans e4
    cases b with
    | true =>
      show tc σ H4 _
      exact hc rfl H4 eH _ fun H5 e5 => hr' rfl H5 (eH.trans e5) Q fun H6 e6 => q H6 ((e14.trans e5).trans e6)
    | false => exact q H4 e14⟩
theorem ev_leL {i j k : Int} {tc : TE} (ha : Ev ta σ H (.int i)) (hb : Ev tb σ H (.int j)) (hc : Ev tc σ H (.int k)) : Ev (tChain rLe rLt ta tb tc) σ H (.bl (decide (i ≤ j) && decide (j < k))) := ev_chain ha hb rv_I0 (fun _ => hc) fun _ => rv_I0
theorem ev_leLe {i j k : Int} {tc : TE} (ha : Ev ta σ H (.int i)) (hb : Ev tb σ H (.int j)) (hc : Ev tc σ H (.int k)) : Ev (tChain rLe rLe ta tb tc) σ H (.bl (decide (i ≤ j) && decide (j ≤ k))) := ev_chain ha hb rv_I0 (fun _ => hc) fun _ => rv_I0
theorem ev_ltLe {i j k : Int} {tc : TE} (ha : Ev ta σ H (.int i)) (hb : Ev tb σ H (.int j)) (hc : Ev tc σ H (.int k)) : Ev (tChain rLt rLe ta tb tc) σ H (.bl (decide (i < j) && decide (j ≤ k))) := ev_chain ha hb rv_I0 (fun _ => hc) fun _ => rv_I0
theorem et_tru {b : Bool} (h : Ev te σ H v) (ht : ∀ H1, Ex H H1 → TruV K v H1 b) : EvT (tTru K te) σ H b := fun H1 e _ q => h H1 e _ fun H2 e2 => ⟨b, ht H2 (e.trans e2), q H2 e2⟩
theorem et_yes : EvT tYes σ H true := fun H1 _ _ q => q H1 (Ex.refl H1)
end
end DC
/-! # B. What the top has written, and how the objects lie -/
namespace DC
open PySem PySem.Spec PyProof.Rows L2 Evl
def top (i : Nat) : Stmt := PySem.Challenge.pw_dotcharts_s01_answers.main.body.getD i (.Pass ⟨0, 0, 0, 0⟩)
/-- the classes' addresses -/
structure Cs where
  ax : Addr
  lk : Addr
  ch : Addr
  ba : Addr
  po : Addr
  re : Addr
  ri : Addr
  tb : Addr
structure Txt (K : PySem.W.Frag) (mg : Str → Option Value) (c : Cs) : Prop where
  c_ax : Cls K c.ax
  c_lk : Cls K c.lk
  c_ch : Cls K c.ch
  c_ba : Cls K c.ba
  c_po : Cls K c.po
  c_re : Cls K c.re
  c_ri : Cls K c.ri
  a_ax_start : NoAttr K c.ax "start"
  a_ax_step : NoAttr K c.ax "step"
  a_ax_steps : NoAttr K c.ax "steps"
  a_lk_kind : NoAttr K c.lk "kind"
  a_lk_wide : NoAttr K c.lk "wide"
  a_lk_high : NoAttr K c.lk "high"
  a_lk_steps : NoAttr K c.lk "steps"
  a_ch_rows : NoAttr K c.ch "rows"
  a_ch_look : NoAttr K c.ch "look"
  a_ba_chart : NoAttr K c.ba "chart"
  a_ba_upright : NoAttr K c.ba "upright"
  a_po_chart : NoAttr K c.po "chart"
  a_po_upright : NoAttr K c.po "upright"
  a_po_first : NoAttr K c.po "first"
  a_po_alongs : NoAttr K c.po "alongs"
  a_re_told : NoAttr K c.re "told"
  a_re_at : NoAttr K c.re "at"
  a_ri_look : NoAttr K c.ri "look"
  a_ri_bounds : NoAttr K c.ri "bounds"
  n_len : mg "len" = none
  n_min : mg "min" = none
  n_max : mg "max" = none
  n_abs : mg "abs" = none
  n_any : mg "any" = none
  n_sum : mg "sum" = none
  n_sorted : mg "sorted" = none
  n_range : mg "range" = none
  gSIDE_BY_SIDE : ∃ u, mg "SIDE_BY_SIDE" = some u ∧ RelV (.int 0) u
  gSTACKED : ∃ u, mg "STACKED" = some u ∧ RelV (.int 1) u
  gLINES : ∃ u, mg "LINES" = some u ∧ RelV (.int 2) u
  gPOINTS : ∃ u, mg "POINTS" = some u ∧ RelV (.int 3) u
  gRING : ∃ u, mg "RING" = some u ∧ RelV (.int 4) u
  gFARTHEST : ∃ u, mg "FARTHEST" = some u ∧ RelV (.int 64) u
  gUPRIGHT : ∃ u, mg "UPRIGHT" = some u ∧ RelV (.int 0) u
  gALONG : ∃ u, mg "ALONG" = some u ∧ RelV (.int 1) u
theorem lk_here {k : Str} {v : V} {r : List (Str × V)} : List.lookup k ((k, v) :: r) = some v := by
  have e : (k == k) = true := beq_self_eq_true k
  simp only [List.lookup, e]
theorem lk_past {k g : Str} {v : V} {r : List (Str × V)} (h : (k == g) = false) : List.lookup k ((g, v) :: r) = List.lookup k r := by
  simp only [List.lookup, h]
theorem put_here {f : Str} {v x : V} {r : List (Str × V)} : putF f v ((f, x) :: r) = (f, v) :: r := if_pos rfl
theorem put_past {f g : Str} {v x : V} {r : List (Str × V)} (h : ¬ g = f) : putF f v ((g, x) :: r) = (g, x) :: putF f v r := if_neg h
def f_ax (x0 x1 x2 : V) : List (Str × V) := [("start", x0), ("step", x1), ("steps", x2)]
theorem l_ax_start {x0 x1 x2 : V} : (f_ax x0 x1 x2).lookup ("start" : Str) = some x0 := lk_here
theorem l_ax_step {x0 x1 x2 : V} : (f_ax x0 x1 x2).lookup ("step" : Str) = some x1 := (lk_past (by decide +kernel)).trans (lk_here)
theorem l_ax_steps {x0 x1 x2 : V} : (f_ax x0 x1 x2).lookup ("steps" : Str) = some x2 := (lk_past (by decide +kernel)).trans ((lk_past (by decide +kernel)).trans (lk_here))
theorem m_ax_dot_of {x0 x1 x2 : V} : (f_ax x0 x1 x2).lookup ("dot_of" : Str) = none := (lk_past (by decide +kernel)).trans ((lk_past (by decide +kernel)).trans ((lk_past (by decide +kernel)).trans (rfl)))
theorem m_ax_step_dots {x0 x1 x2 : V} : (f_ax x0 x1 x2).lookup ("step_dots" : Str) = none := (lk_past (by decide +kernel)).trans ((lk_past (by decide +kernel)).trans ((lk_past (by decide +kernel)).trans (rfl)))
def f_lk (x0 x1 x2 x3 : V) : List (Str × V) := [("kind", x0), ("wide", x1), ("high", x2), ("steps", x3)]
theorem l_lk_kind {x0 x1 x2 x3 : V} : (f_lk x0 x1 x2 x3).lookup ("kind" : Str) = some x0 := lk_here
theorem l_lk_wide {x0 x1 x2 x3 : V} : (f_lk x0 x1 x2 x3).lookup ("wide" : Str) = some x1 := (lk_past (by decide +kernel)).trans (lk_here)
theorem l_lk_high {x0 x1 x2 x3 : V} : (f_lk x0 x1 x2 x3).lookup ("high" : Str) = some x2 := (lk_past (by decide +kernel)).trans ((lk_past (by decide +kernel)).trans (lk_here))
theorem l_lk_steps {x0 x1 x2 x3 : V} : (f_lk x0 x1 x2 x3).lookup ("steps" : Str) = some x3 := (lk_past (by decide +kernel)).trans ((lk_past (by decide +kernel)).trans ((lk_past (by decide +kernel)).trans (lk_here)))
theorem m_lk_is_allowed {x0 x1 x2 x3 : V} : (f_lk x0 x1 x2 x3).lookup ("is_allowed" : Str) = none := (lk_past (by decide +kernel)).trans ((lk_past (by decide +kernel)).trans ((lk_past (by decide +kernel)).trans ((lk_past (by decide +kernel)).trans (rfl))))
theorem m_lk_band_of {x0 x1 x2 x3 : V} : (f_lk x0 x1 x2 x3).lookup ("band_of" : Str) = none := (lk_past (by decide +kernel)).trans ((lk_past (by decide +kernel)).trans ((lk_past (by decide +kernel)).trans ((lk_past (by decide +kernel)).trans (rfl))))
def f_ch (x0 x1 : V) : List (Str × V) := [("rows", x0), ("look", x1)]
theorem l_ch_rows {x0 x1 : V} : (f_ch x0 x1).lookup ("rows" : Str) = some x0 := lk_here
theorem l_ch_look {x0 x1 : V} : (f_ch x0 x1).lookup ("look" : Str) = some x1 := (lk_past (by decide +kernel)).trans (lk_here)
theorem m_ch_begin_anew {x0 x1 : V} : (f_ch x0 x1).lookup ("begin_anew" : Str) = none := (lk_past (by decide +kernel)).trans ((lk_past (by decide +kernel)).trans (rfl))
theorem m_ch_columns {x0 x1 : V} : (f_ch x0 x1).lookup ("columns" : Str) = none := (lk_past (by decide +kernel)).trans ((lk_past (by decide +kernel)).trans (rfl))
theorem m_ch_number_at {x0 x1 : V} : (f_ch x0 x1).lookup ("number_at" : Str) = none := (lk_past (by decide +kernel)).trans ((lk_past (by decide +kernel)).trans (rfl))
theorem m_ch_upright_axis {x0 x1 : V} : (f_ch x0 x1).lookup ("upright_axis" : Str) = none := (lk_past (by decide +kernel)).trans ((lk_past (by decide +kernel)).trans (rfl))
theorem m_ch_along_axis {x0 x1 : V} : (f_ch x0 x1).lookup ("along_axis" : Str) = none := (lk_past (by decide +kernel)).trans ((lk_past (by decide +kernel)).trans (rfl))
def f_ba (x0 x1 : V) : List (Str × V) := [("chart", x0), ("upright", x1)]
theorem l_ba_chart {x0 x1 : V} : (f_ba x0 x1).lookup ("chart" : Str) = some x0 := lk_here
theorem l_ba_upright {x0 x1 : V} : (f_ba x0 x1).lookup ("upright" : Str) = some x1 := (lk_past (by decide +kernel)).trans (lk_here)
theorem m_ba_place_of {x0 x1 : V} : (f_ba x0 x1).lookup ("place_of" : Str) = none := (lk_past (by decide +kernel)).trans ((lk_past (by decide +kernel)).trans (rfl))
theorem m_ba_one_at {x0 x1 : V} : (f_ba x0 x1).lookup ("one_at" : Str) = none := (lk_past (by decide +kernel)).trans ((lk_past (by decide +kernel)).trans (rfl))
theorem m_ba_one_within {x0 x1 : V} : (f_ba x0 x1).lookup ("one_within" : Str) = none := (lk_past (by decide +kernel)).trans ((lk_past (by decide +kernel)).trans (rfl))
theorem m_ba_sides_of {x0 x1 : V} : (f_ba x0 x1).lookup ("sides_of" : Str) = none := (lk_past (by decide +kernel)).trans ((lk_past (by decide +kernel)).trans (rfl))
theorem m_ba_ends_of {x0 x1 : V} : (f_ba x0 x1).lookup ("ends_of" : Str) = none := (lk_past (by decide +kernel)).trans ((lk_past (by decide +kernel)).trans (rfl))
theorem m_ba_base_of {x0 x1 : V} : (f_ba x0 x1).lookup ("base_of" : Str) = none := (lk_past (by decide +kernel)).trans ((lk_past (by decide +kernel)).trans (rfl))
def f_po (x0 x1 x2 x3 : V) : List (Str × V) := [("chart", x0), ("upright", x1), ("first", x2), ("alongs", x3)]
theorem l_po_chart {x0 x1 x2 x3 : V} : (f_po x0 x1 x2 x3).lookup ("chart" : Str) = some x0 := lk_here
theorem l_po_upright {x0 x1 x2 x3 : V} : (f_po x0 x1 x2 x3).lookup ("upright" : Str) = some x1 := (lk_past (by decide +kernel)).trans (lk_here)
theorem l_po_first {x0 x1 x2 x3 : V} : (f_po x0 x1 x2 x3).lookup ("first" : Str) = some x2 := (lk_past (by decide +kernel)).trans ((lk_past (by decide +kernel)).trans (lk_here))
theorem l_po_alongs {x0 x1 x2 x3 : V} : (f_po x0 x1 x2 x3).lookup ("alongs" : Str) = some x3 := (lk_past (by decide +kernel)).trans ((lk_past (by decide +kernel)).trans ((lk_past (by decide +kernel)).trans (lk_here)))
theorem m_po_place_of {x0 x1 x2 x3 : V} : (f_po x0 x1 x2 x3).lookup ("place_of" : Str) = none := (lk_past (by decide +kernel)).trans ((lk_past (by decide +kernel)).trans ((lk_past (by decide +kernel)).trans ((lk_past (by decide +kernel)).trans (rfl))))
theorem m_po_one_at {x0 x1 x2 x3 : V} : (f_po x0 x1 x2 x3).lookup ("one_at" : Str) = none := (lk_past (by decide +kernel)).trans ((lk_past (by decide +kernel)).trans ((lk_past (by decide +kernel)).trans ((lk_past (by decide +kernel)).trans (rfl))))
def f_re (x0 x1 : V) : List (Str × V) := [("told", x0), ("at", x1)]
theorem l_re_told {x0 x1 : V} : (f_re x0 x1).lookup ("told" : Str) = some x0 := lk_here
theorem l_re_at {x0 x1 : V} : (f_re x0 x1).lookup ("at" : Str) = some x1 := (lk_past (by decide +kernel)).trans (lk_here)
theorem m_re_at_end {x0 x1 : V} : (f_re x0 x1).lookup ("at_end" : Str) = none := (lk_past (by decide +kernel)).trans ((lk_past (by decide +kernel)).trans (rfl))
theorem m_re_take {x0 x1 : V} : (f_re x0 x1).lookup ("take" : Str) = none := (lk_past (by decide +kernel)).trans ((lk_past (by decide +kernel)).trans (rfl))
theorem m_re_take_list {x0 x1 : V} : (f_re x0 x1).lookup ("take_list" : Str) = none := (lk_past (by decide +kernel)).trans ((lk_past (by decide +kernel)).trans (rfl))
theorem m_re_take_lists {x0 x1 : V} : (f_re x0 x1).lookup ("take_lists" : Str) = none := (lk_past (by decide +kernel)).trans ((lk_past (by decide +kernel)).trans (rfl))
def f_ri (x0 x1 : V) : List (Str × V) := [("look", x0), ("bounds", x1)]
theorem l_ri_look {x0 x1 : V} : (f_ri x0 x1).lookup ("look" : Str) = some x0 := lk_here
theorem l_ri_bounds {x0 x1 : V} : (f_ri x0 x1).lookup ("bounds" : Str) = some x1 := (lk_past (by decide +kernel)).trans (lk_here)
theorem m_ri_place_of {x0 x1 : V} : (f_ri x0 x1).lookup ("place_of" : Str) = none := (lk_past (by decide +kernel)).trans ((lk_past (by decide +kernel)).trans (rfl))
theorem m_ri_one_at {x0 x1 : V} : (f_ri x0 x1).lookup ("one_at" : Str) = none := (lk_past (by decide +kernel)).trans ((lk_past (by decide +kernel)).trans (rfl))
theorem i_ax_start {x0 : V} : putF ("start" : Str) x0 ([] : List (Str × V)) = ([("start", x0)] : List (Str × V)) := rfl
theorem i_ax_step {x0 x1 : V} : putF ("step" : Str) x1 ([("start", x0)] : List (Str × V)) = ([("start", x0), ("step", x1)] : List (Str × V)) := (put_past (by decide +kernel)).trans (congrArg _ (rfl))
theorem i_ax_steps {x0 x1 x2 : V} : putF ("steps" : Str) x2 ([("start", x0), ("step", x1)] : List (Str × V)) = ([("start", x0), ("step", x1), ("steps", x2)] : List (Str × V)) := (put_past (by decide +kernel)).trans (congrArg _ ((put_past (by decide +kernel)).trans (congrArg _ (rfl))))
theorem i_lk_kind {x0 : V} : putF ("kind" : Str) x0 ([] : List (Str × V)) = ([("kind", x0)] : List (Str × V)) := rfl
theorem i_lk_wide {x0 x1 : V} : putF ("wide" : Str) x1 ([("kind", x0)] : List (Str × V)) = ([("kind", x0), ("wide", x1)] : List (Str × V)) := (put_past (by decide +kernel)).trans (congrArg _ (rfl))
theorem i_lk_high {x0 x1 x2 : V} : putF ("high" : Str) x2 ([("kind", x0), ("wide", x1)] : List (Str × V)) = ([("kind", x0), ("wide", x1), ("high", x2)] : List (Str × V)) := (put_past (by decide +kernel)).trans (congrArg _ ((put_past (by decide +kernel)).trans (congrArg _ (rfl))))
theorem i_lk_steps {x0 x1 x2 x3 : V} : putF ("steps" : Str) x3 ([("kind", x0), ("wide", x1), ("high", x2)] : List (Str × V)) = ([("kind", x0), ("wide", x1), ("high", x2), ("steps", x3)] : List (Str × V)) := (put_past (by decide +kernel)).trans (congrArg _ ((put_past (by decide +kernel)).trans (congrArg _ ((put_past (by decide +kernel)).trans (congrArg _ (rfl))))))
theorem i_ch_rows {x0 : V} : putF ("rows" : Str) x0 ([] : List (Str × V)) = ([("rows", x0)] : List (Str × V)) := rfl
theorem i_ch_look {x0 x1 : V} : putF ("look" : Str) x1 ([("rows", x0)] : List (Str × V)) = ([("rows", x0), ("look", x1)] : List (Str × V)) := (put_past (by decide +kernel)).trans (congrArg _ (rfl))
theorem i_ba_chart {x0 : V} : putF ("chart" : Str) x0 ([] : List (Str × V)) = ([("chart", x0)] : List (Str × V)) := rfl
theorem i_ba_upright {x0 x1 : V} : putF ("upright" : Str) x1 ([("chart", x0)] : List (Str × V)) = ([("chart", x0), ("upright", x1)] : List (Str × V)) := (put_past (by decide +kernel)).trans (congrArg _ (rfl))
theorem i_po_chart {x0 : V} : putF ("chart" : Str) x0 ([] : List (Str × V)) = ([("chart", x0)] : List (Str × V)) := rfl
theorem i_po_upright {x0 x1 : V} : putF ("upright" : Str) x1 ([("chart", x0)] : List (Str × V)) = ([("chart", x0), ("upright", x1)] : List (Str × V)) := (put_past (by decide +kernel)).trans (congrArg _ (rfl))
theorem i_po_first {x0 x1 x2 : V} : putF ("first" : Str) x2 ([("chart", x0), ("upright", x1)] : List (Str × V)) = ([("chart", x0), ("upright", x1), ("first", x2)] : List (Str × V)) := (put_past (by decide +kernel)).trans (congrArg _ ((put_past (by decide +kernel)).trans (congrArg _ (rfl))))
theorem i_po_alongs {x0 x1 x2 x3 : V} : putF ("alongs" : Str) x3 ([("chart", x0), ("upright", x1), ("first", x2)] : List (Str × V)) = ([("chart", x0), ("upright", x1), ("first", x2), ("alongs", x3)] : List (Str × V)) := (put_past (by decide +kernel)).trans (congrArg _ ((put_past (by decide +kernel)).trans (congrArg _ ((put_past (by decide +kernel)).trans (congrArg _ (rfl))))))
theorem i_re_told {x0 : V} : putF ("told" : Str) x0 ([] : List (Str × V)) = ([("told", x0)] : List (Str × V)) := rfl
theorem i_re_at {x0 x1 : V} : putF ("at" : Str) x1 ([("told", x0)] : List (Str × V)) = ([("told", x0), ("at", x1)] : List (Str × V)) := (put_past (by decide +kernel)).trans (congrArg _ (rfl))
theorem i_ri_look {x0 : V} : putF ("look" : Str) x0 ([] : List (Str × V)) = ([("look", x0)] : List (Str × V)) := rfl
theorem i_ri_bounds {x0 x1 : V} : putF ("bounds" : Str) x1 ([("look", x0)] : List (Str × V)) = ([("look", x0), ("bounds", x1)] : List (Str × V)) := (put_past (by decide +kernel)).trans (congrArg _ (rfl))
theorem p_re_at {x0 x1 y : V} : putF ("at" : Str) y (f_re x0 x1) = f_re x0 y := (put_past (by decide +kernel)).trans (congrArg _ (put_here))
theorem p_ch_rows {x0 x1 y : V} : putF ("rows" : Str) y (f_ch x0 x1) = f_ch y x1 := put_here
theorem p_ch_look {x0 x1 y : V} : putF ("look" : Str) y (f_ch x0 x1) = f_ch x0 y := (put_past (by decide +kernel)).trans (congrArg _ (put_here))
theorem p_ri_bounds {x0 x1 y : V} : putF ("bounds" : Str) y (f_ri x0 x1) = f_ri x0 y := (put_past (by decide +kernel)).trans (congrArg _ (put_here))
end DC
/-! # S. sorted(range(n), key=lambda x: -xs[x]), the list captured -/
namespace DC
open PySem PySem.Spec PySem.Calls PyProof.Rows L2
section
variable {prog : Program} {w : World} {A : Around} {E : Value → Shared → Prop} {s : Shared}
/-- the items of a range, as the sort's theorem reads them -/
theorem range_each : ∀ (l : List Value) (off : Nat), (∀ j v, l[j]? = some v → ∃ t, v = Value.int (((off + j : Nat)) : Int) t) → PySem.W.EachIs (fun x (i : Nat) => ∃ t, x = Value.int (i : Int) t) l (List.range' off l.length)
  | [], _, _ => .nil
  | x :: l, off, h => by
    refine .cons (h 0 x rfl) (range_each l (off + 1) fun j v hj => ?_)
    rw [show off + 1 + j = off + (j + 1) by omega]
    exact h (j + 1) v hj
theorem range_items {acc : Array Value} {n : Nat} (hi : ItemsOf (fun i v => ∃ t, v = .int (0 + i * 1) t) acc n) : PySem.W.EachIs (fun x (i : Nat) => ∃ t, x = Value.int (i : Int) t) acc.toList (List.range n) := by
  obtain ⟨h1, h2⟩ := hi
  have e : List.range n = List.range' 0 acc.toList.length := by
    rw [List.range_eq_range', Array.length_toList, h1]
  rw [e]
  refine range_each _ 0 fun j v hj => ?_
  rw [Array.getElem?_toList] at hj
  obtain ⟨t, ht⟩ := h2 j v hj
  exact ⟨t, by rw [ht]; congr 1; omega⟩
theorem sorted_range {f r : Addr} {n : Nat} {t u v : Tok} {Q : Value → Shared → Prop} (k : Nat → Int) (hh : A.handled = none) (hr : IsRange s.heap r 0 n 1 t u v) (hn : n ≤ 100000) (hu : A.units + 66 < cLine)
    (turn : ∀ (x : Value) (i : Nat), (∃ t, x = .int (i : Int) t) → i ∈ List.range n → ∀ (h : Heap) (tk : Nat), (∀ b o, s.heap.get? b = some o → h.get? b = some o) → wpAny (model prog w) A.in1.in1 (call (.ref f) [x]) (PySem.W.KeyPure (.int (k i)) { s with heap := h, toks := tk }) (fun _ _ => False) { s with heap := h, toks := tk })
    (fin : ∀ out c p h' tk, (∀ b o, s.heap.get? b = some o → h'.get? b = some o) → s.heap.get? p = none → h'.get? p = some (seqObj "list" (List.toArray out) c) → PySem.W.EachIs (fun x (i : Nat) => ∃ t, x = Value.int (i : Int) t) out ((List.range n).mergeSort fun a b => decide (k a ≤ k b)) → Q (.ref p) { s with heap := h', toks := tk }) :
    wpAny (model prog w) A (call (.builtin "sorted") [.ref r] [(Str.ofString "key", .ref f)]) Q E s := by
  have lim : n ≤ 2 ^ 24 := by omega
  refine call_function_entry_kw (id := "sorted") kind_sorted plain_sorted entry_sorted (ksk_s1 _ _) ?_
  unfold Builtin.«sorted»
  refine wpAny_bind (m := checkCount "sorted" 1 1 1) (wpAny_pure ?_)
  refine wpAny_bind (m := collect (.ref r)) (collect_range (a := 0) (b := n) (c := 1) (n := n) hh hr (small_one (by omega) (by omega) (by omega) (by omega)) (by rw [rangeSize_nat]; simp) lim fun h1 tk1 acc k1 hi => ?_)
  have each := range_items hi
  have ln : acc.toList.length = n := by rw [each.length, List.length_range]
  refine wpAny_bind (m := newList acc.toList) (wpAny_newList ?_ (by rw [ln]; exact Nat.le_trans lim (by decide)))
  refine wpAny_bind (wpAny_holding (PySem.W.list_sort_key_data (A := A.in1) (b := false) (n := 0) (vs := acc.toList) (fun i : Nat => PyData.int (k i)) (Heap.get?_push_size _ rfl) each (PySem.W.AllAlike.of fun _ _ => by simp [PySem.W.alike]) (PySem.W.Sortable.others fun _ => ⟨by simp, fun _ => by simp⟩) (by rw [List.length_range]; exact Nat.le_trans lim (by decide)) (fun i _ => by show A.in1.units + 1 + 0 < cLine; have : A.in1.units = A.units + 1 := rfl; omega) (ksk_l1 _ _) (ksk_t1 _ _) (fun x i hx hm h tk kp => ?_) fun out c h' tk kp hD hl eo => ?_))
  · obtain ⟨t0, rfl⟩ := hx
    have kk : ∀ b o, s.heap.get? b = some o → h.get? b = some o := fun b o e => kp b o (Nat.ne_of_lt (Heap.lt_size (k1 b o e))) (Heap.get?_push_of_some _ (k1 b o e))
    exact turn _ i ⟨t0, rfl⟩ hm h tk kk
  · rw [PySem.W.dataLe_int] at eo
    refine wpAny_pure ⟨_, rfl, fin out c _ h' tk (fun b o e => kp b o (Nat.ne_of_lt (Heap.lt_size (k1 b o e))) (Heap.get?_push_of_some _ (k1 b o e))) ?_ hD eo⟩
    cases z : s.heap.get? h1.objs.size with
    | none => rfl
    | some o => exact absurd (Heap.lt_size (k1 _ o z)) (Nat.lt_irrefl _)
end
/-! ### a new object told at an address that nothing has -/
section
variable {X : Cx} {pins : List (Addr × Obj)} {σ : L2.St} {H : Hp} {s : Shared}
theorem obj_there {P : Program} {w : World} {H : Hp} {h : Heap} {a : Addr} {u : HO} (x : ObjOk P w H h a u) : ∃ o, h.get? a = some o := by
  induction u with
  | lst xs => obtain ⟨_, its, n, _, e⟩ := x; exact Exists.intro _ e
  | tup xs => obtain ⟨_, its, _, ob, e, _⟩ := x; exact Exists.intro _ e
  | dK kvs => obtain ⟨_, _, _, _, ob, es, ep, e, _⟩ := x; exact Exists.intro _ e
  | dT kvs => obtain ⟨_, _, _, _, ob, es, ep, e, _⟩ := x; exact Exists.intro _ e
  | set S n => obtain ⟨ob, es, ep, _, e, _⟩ := x; exact Exists.intro _ e
  | ins C dx fs => obtain ⟨_, _, _, e, _⟩ := x; exact Exists.intro _ e
  | own y => exact x
  | xd fs => obtain ⟨m, ⟨ob, es, ep, e, _⟩, _⟩ := x; exact Exists.intro _ e
  | rng lo hi => obtain ⟨_, _, _, e⟩ := x; exact Exists.intro _ e
  | frz ob u ih => exact Exists.intro _ x.1
  | tbl ps => exact Exists.intro _ x
  | met f y => exact Exists.intro _ x
  | ext φ => exact x.2.1
theorem told_none {P : Program} {w : World} {H : Hp} {h : Heap} {p : Addr} (I : HOk P w H h) (hp : h.get? p = none) : H p = none := by
  cases e : H p with
  | none => rfl
  | some u =>
    obtain ⟨o, z⟩ := obj_there (I p u e)
    rw [hp] at z
    cases z
theorem inv_told {h' : Heap} {t' : Nat} {p : Addr} {o : HO} (I : Inv X pins σ H s) (k : ∀ b u, s.heap.get? b = some u → h'.get? b = some u) (hp : s.heap.get? p = none) (new : ObjOk X.prog X.w (upd H p o) h' p o) : Inv X pins σ (upd H p o) { s with heap := h', toks := t' } := by
  have hn : H p = none := told_none I.hok hp
  have np : ∀ {b u}, s.heap.get? b = some u → b ≠ p := fun {b u} e z => by rw [z, hp] at e; cases e
  have nt : ∀ {b u}, H b = some u → b ≠ p := fun {b u} e => ne_of_none e hn
  refine I.un ⟨fun b u q _ _ _ => k b u q, fun b u q _ _ _ => ⟨u.slots, k b u q⟩, fun b u q n _ => (upd_ne (np q)).trans n, fun b u q _ => ⟨u, k b u q⟩, fun b xs q => (upd_ne (nt q)).trans q, fun b u xs q => (upd_ne (nt q)).trans q, fun b ps q => ⟨#[], by rw [upd_ne (nt q), q, Array.append_empty]⟩⟩ fun b u e => ?_
  by_cases hb : b = p
  · subst hb
    rw [upd_same] at e
    cases e
    exact new
  · rw [upd_ne hb] at e
    exact (I.hok b u e).stay (fun c v _ q => k c v q) (fun c q => (upd_ne (nt q)).trans q) fun c xs q => (upd_ne (nt q)).trans q
end
end DC
namespace DC
open PySem PySem.Spec PySem.Calls PyProof.Rows L2
section
variable {prog : Program} {w : World} {A : Around} {s : Shared}
/-- the lambda's scope: its parameter b, the captured name a -/
structure LamSc (scope : Scope) (a b : Str) : Prop where
  kind : scope.kind = .function
  co : scope.isCoroutine = false
  gen : scope.isGenerator = false
  nocell : ∀ y ∈ scope.names, y.2 ≠ .cell
  par : scope.names.lookup b = some .local
  cap : scope.names.lookup a = some .free
theorem lam_turn {f c' la cell : Addr} {q a b : Str} {params : Arguments} {scope : Scope} {cl : List (Str × Addr)} {pm ctv : Value} {its : List Value} {ls : List Int} {i : Nat} {t : Tok} {p1 p2 p3 p4 : Pos}
    (ho : s.heap.get? f = some (PySem.W.kla_obj "<lambda>" q params (.UnaryOp .USub (.Subscript (.Name a p1) (.Name b p2) p3) p4) scope cl pm c' ctv)) (hcd : s.heap.CodeRec (.ref c') q) (hdepth : A.depth < recursionLimit) (hlim : s.heap.NoLimit)
    (hbind : ∀ v : Value, bindArgs (PySem.W.kla_fn "<lambda>" q params (.UnaryOp .USub (.Subscript (.Name a p1) (.Name b p2) p3) p4) scope cl pm (.ref c') ctv) ⟨[v], []⟩ = pure [(b, v)]) (S : LamSc scope a b)
    (hcl : cl.lookup a = some cell) (hcell : s.heap.IsCell cell (some (.ref la))) (hl : s.heap.IsList la its.toArray) (hi : IntsAre its ls) (hb : i < ls.length) (hz : ls.length ≤ 100000)
    (da : (a == ("__debug__" : Str)) = false) (db : (b == ("__debug__" : Str)) = false) (ca : (a == ("__classdict__" : Str)) = false) :
    wpAny (model prog w) A (call (.ref f) [.int (i : Int) t]) (PySem.W.KeyPure (.int (-(ls.getD i 0))) s) (fun _ _ => False) s := by
  refine wpAny_call ?_
  refine PySem.W.kla_callFunE hdepth ho rfl S.co S.gen rfl hcd ?_
  rw [hbind]
  refine wpAny_pure (wpAny_newFunctionEnv S.nocell (fun y hy => ?_) (fun h₁ hns hsb => ⟨hlim.fresh _ hsb, ?_⟩) S.kind)
  · rw [List.mem_singleton.mp hy]
    exact S.par
  have kp : ∀ b o, s.heap.get? b = some o → h₁.get? b = some o := fun b o e => hsb.extBut b o (Nat.ne_of_lt (Heap.lt_size e)) (Heap.get?_push_of_some _ e)
  refine PySem.W.kla_codeExpr ?_
  have hcell' : h₁.IsCell cell (some (.ref la)) := by
    obtain ⟨o, e1, e2⟩ := hcell
    exact ⟨o, kp _ _ e1, e2⟩
  have hl' : h₁.IsList la its.toArray := by
    obtain ⟨o, e1, e2⟩ := hl
    exact ⟨o, kp _ _ e1, e2⟩
  have hv : (fun x => ([(b, Value.int (i : Int) t)] : List (Str × Value)).reverse.lookup x) b = some (Value.int (i : Int) t) := by
    show (match b == b with | true => some (Value.int (i : Int) t) | false => none) = _
    rw [beq_self_eq_true]
  refine UnaryOp_ (Subscript_ (wpAny_Name (wpAny_loadName_free (v := .ref la) S.kind S.cap hcl hcell' (wpAny_Name (wpAny_loadName_local (v := .int (i : Int) t) S.kind S.par hns hv (item_list_intsR hl' hi (by omega) (by omega) (by omega) fun t' => neg_int ?_)) db) ca) da))
  refine ⟨h₁, _, rfl, kp, ?_⟩
  rw [Int.toNat_natCast]
  exact .int _ _
end
end DC
namespace DC
open PySem PySem.Spec PySem.Calls PyProof.Rows L2
/-- an address that nothing has but, it may be, a table -/
def FrT (H : Hp) (p : Addr) : Prop := ∀ o, H p = some o → ∃ ps, o = .tbl ps
def sortO (n : Nat) (ls : List Int) : List Nat := (List.range n).mergeSort fun a b => decide (ls.getD b 0 ≤ ls.getD a 0)
/-- what is asked once the range stands -/
def kSort (P : Addr) (q : Str) (i : Nat) (σ : L2.St) (Q : VK) (vs : List V) (H2 : Hp) : Prop := ∃ (r : Addr) (n : Nat) (la : Addr) (ls : List Int) (H1 : Hp), vs = [.ref r] ∧ H1 r = none ∧ H2 = upd H1 r (.rng 0 (n : Int)) ∧ n ≤ 100000 ∧ σ[i]? = some (some (.ref la)) ∧ H1 la = some (.lst (ls.map V.int)) ∧ n ≤ ls.length ∧ ls.length ≤ 100000 ∧ LamX.TabS H1 P q ∧
  ∀ p H3, FrT H1 p → LamX.ExtN H1 H3 → LamX.TabS H3 P q → H3 p = some (.lst ((sortO n ls).map fun (k : Nat) => V.int (k : Int))) → Q (.ref p) H3
def rRng : List V → Hp → VK → Prop := fun vs H Q => ∃ i, vs = [V.int i] ∧ ∀ p, H p = none → Q (.ref p) (upd H p (.rng 0 i))
def tSortL (P : Addr) (q : Str) (i : Nat) (t : TE) : TE := fun σ H Q => tCons (tCB rRng (tCons t tNil)) tNil σ H (kSort P q i σ Q)
section
variable {X : Cx}
theorem cr_range1 : CallR X (.type "range") rRng := by
  intro pins s σ H vs us Q I r h
  obtain ⟨i, rfl, q⟩ := h
  obtain ⟨u1, rfl, ri⟩ := vals1 r
  obtain ⟨t, rfl⟩ := ri
  refine call_range_1 (n := i) (t := t) ⟨.ref s.heap.objs.size, upd H s.heap.objs.size (.rng 0 i), I.laid (t' := s.toks + 1 + 1) (fun b o e => Heap.get?_push_of_some _ e) (Nat.le_refl _) ?_, rfl, q _ (I.hok.fresh (Nat.le_refl _))⟩
  exact Exists.intro s.toks ⟨t, s.toks + 1, Heap.get?_push_size _ rfl⟩
theorem sq_of' {K : PySem.W.Frag} {H : Hp} {a : Addr} {xs : List V} (h : H a = some (.lst xs)) : SqL K H a xs := Or.inl (Or.inl h)
theorem each_vals {out : List Value} {ks : List Nat} (e : PySem.W.EachIs (fun x (i : Nat) => ∃ t, x = Value.int (i : Int) t) out ks) : Vals (ks.map fun (k : Nat) => V.int (k : Int)) out := by
  induction e with
  | nil => exact .nil
  | cons h _ ih => exact .cons h ih
theorem pe_sortL {P cd : Addr} {i : Nat} {a b : Str} {e : Expr} {te : TE} {params : Arguments} {scope : Scope} {p0 p1 p2 p3 p4 p5 p6 p7 p8 p9 : Pos} (TB : LamX.TabB X.base X.mg cd P) (hcode : X.env.code = .ref cd) (hg : Gl X "sorted") (hm : X.mg "sorted" = none) (hgr : Gl X "range") (hmr : X.mg "range" = none)
    (hN : X.N[i]? = some a) (hv : X.env.scope.names.lookup a = some .cell) (hcalm : X.calm = true) (hr : Room 0 X.A) (hnames : scope.names = [(b, .local), (a, .free)]) (S : LamSc scope a b) (hdef : defaultsOf params X.env = ([], []))
    (hbind : ∀ (cl : List (Str × Addr)) (pm cv ctv v : Value), bindArgs (PySem.W.kla_fn "<lambda>" (X.env.qual ++ "<lambda>") params (.UnaryOp .USub (.Subscript (.Name a p3) (.Name b p4) p5) p6) scope cl pm cv ctv) ⟨[v], []⟩ = pure [(b, v)])
    (da : (a == ("__debug__" : Str)) = false) (db : (b == ("__debug__" : Str)) = false) (ca : (a == ("__classdict__" : Str)) = false) (he : PE X e te)
    (st : starEach [.Call (.Name "range" p1) [e] [] p2] X.env = (false, eval (.Call (.Name "range" p1) [e] [] p2) X.env) :: starEach [] X.env := by rfl) (st2 : starEach [e] X.env = (false, eval e X.env) :: starEach [] X.env := by rfl) :
    PE X (.Call (.Name "sorted" p0) [.Call (.Name "range" p1) [e] [] p2] [⟨some "key", .Lambda params (.UnaryOp .USub (.Subscript (.Name a p3) (.Name b p4) p5) p6) scope p7, p8⟩] p9) (tSortL P (X.env.qual ++ "<lambda>") i te) := by
  refine ⟨fun pins s σ H Q I h => ?_⟩
  have ha : PA X [.Call (.Name "range" p1) [e] [] p2] (tCons (tCB rRng (tCons te tNil)) tNil) := pa_cons (pe_callTy cr_range1 hgr hmr (by decide +kernel) (pa_cons he pa_nil st2) (he := st2)) pa_nil st
  refine wpAny_Call_Name_kw (ld_blt I hg hm (u := .builtin "sorted") (by decide +kernel) ?_)
  refine PyProof.Rows.callWith_kw (thn (ha.run p9 pins s σ H (kSort P (X.env.qual ++ "<lambda>") i σ Q) I h) fun us s1 ⟨vs, H2, I1, r1, r, n, la, ls, H1, ev, nr, e2, n1, hσ, hla, nl, lz, hT, k⟩ => ?_) (by rfl) (by rfl) (by rfl) (by rfl)
  · obtain rfl := ev
    obtain rfl := Vals.ref1 r1
    subst e2
    have nrP : r ≠ P := fun z => by
      obtain ⟨ps, h1, _⟩ := hT
      rw [z, h1] at nr
      cases nr
    have hT1 : LamX.Tabs [(P, X.env.qual ++ "<lambda>")] (upd H1 r (.rng 0 (n : Int))) := fun pq hpq => by
      rw [List.mem_singleton.mp hpq]
      exact hT.ext fun b o e => (upd_ne (ne_of_none e nr)).trans e
    have cellOf : ∀ {H' : Hp} {s' : Shared}, Inv X pins σ H' s' → ∃ cell, X.env.cells.lookup a = some cell ∧ s'.heap.IsCell cell (some (.ref la)) := fun {H' s'} J => by
      obtain ⟨m, _, hl⟩ := J.loc
      obtain ⟨u, rv, alt⟩ := hl i a (.ref la) hN hσ (Or.inr (Or.inl hv))
      obtain rfl : u = Value.ref la := rv
      rcases alt with ⟨k0, _⟩ | ⟨_, cell, e1, e2⟩
      · have k0 : X.env.scope.names.lookup a = some .local := k0
        rw [hv] at k0
        cases k0
      · exact ⟨cell, e1, e2⟩
    show wpAny _ _ (evalAll [(do let v ← eval (.Lambda params (.UnaryOp .USub (.Subscript (.Name a p3) (.Name b p4) p5) p6) scope p7) X.env; standAt p9; pure v)]) _ _ s1
    refine wpAny_evalAll_cons (wpAny_bind (LamX.lam_make2 (T := [(P, X.env.qual ++ "<lambda>")]) I1 TB hcode (List.mem_singleton.mpr rfl) (fun pq hpq _ => by rw [List.mem_singleton.mp hpq]) hT1 hdef (fun y hy hf => ?_) fun f c' pm ctv H2 s2 I2 eN T2 hf hfn hfr hco => wpAny_bind (wpAny_standAt (wpAny_pure (wpAny_evalAll_nil ?_)))))
    · rw [hnames] at hy
      rcases List.mem_cons.mp hy with z | hy
      · rw [z] at hf
        cases hf
      · rw [List.mem_singleton.mp hy]
        obtain ⟨cell, e1, _⟩ := cellOf I1
        exact ⟨cell, e1⟩
    · show wpAny _ _ (call (.builtin "sorted") [.ref r] [(Str.ofString "key", .ref f)]) _ _ s2
      obtain ⟨cell, hcl, hcell⟩ := cellOf I2
      have hcl2 : (cloFrom X.env.cells scope.names []).lookup a = some cell := by
        rw [hnames]
        show ([(a, (X.env.cells.lookup a).getD 0)] : List (Str × Addr)).lookup a = some cell
        rw [hcl]
        show (match a == a with | true => some cell | false => none) = _
        rw [beq_self_eq_true]
      have hla2 : H2 la = some (.lst (ls.map V.int)) := eN la _ ((upd_ne (ne_of_none hla nr)).trans hla) (fun ps z => by cases z)
      have hr2 : H2 r = some (.rng 0 (n : Int)) := eN r _ upd_same (fun ps z => by cases z)
      obtain ⟨its, rv, hll, hzz⟩ := I2.list (sq_of' hla2)
      obtain ⟨t1, t2, t3, hrng⟩ := I2.hok r _ hr2
      obtain ⟨⟨oc, cvs, ct, hoc, hdc, hvc⟩, _, _⟩ := I2.hok c' _ hco
      refine sorted_range (k := fun i => -(ls.getD i 0)) (I2.ok.hd hcalm) hrng n1 (by have := hr.un; omega) (fun x j hx hj g tk kp => ?_) fun out cc p g tk kp hp hD eo => ?_
      · obtain ⟨t0, rfl⟩ := hx
        refine lam_turn (la := la) (s := { s2 with heap := g, toks := tk }) (kp _ _ hf) ⟨c', oc, cvs, ct, rfl, kp _ _ hoc, hdc, hvc⟩ (by have := hr.dp; show X.A.depth < _; omega) (I2.nolimit.keeps kp) (fun v => hbind _ _ _ _ v) S hcl2 ?_ ?_ rv.ints (by have := List.mem_range.mp hj; omega) lz da db ca
        · obtain ⟨o, e1, e2⟩ := hcell
          exact ⟨o, kp _ _ e1, e2⟩
        · obtain ⟨o, e1, e2⟩ := hll.isList
          exact ⟨o, kp _ _ e1, e2⟩
      · have np : H2 p = none := told_none I2.hok hp
        have eo' : PySem.W.EachIs (fun x (i : Nat) => ∃ t, x = Value.int (i : Int) t) out (sortO n ls) := by
          have : (fun a b => decide (-(ls.getD a 0) ≤ -(ls.getD b 0))) = fun a b => decide (ls.getD b 0 ≤ ls.getD a 0) := by
            funext a b
            exact decide_eq_decide.mpr (by omega)
          rw [this] at eo
          exact eo
        have lo : (sortO n ls).length = n := by
          unfold sortO
          rw [List.length_mergeSort, List.length_range]
        refine ⟨.ref p, upd H2 p (.lst ((sortO n ls).map fun (k : Nat) => V.int (k : Int))), inv_told (t' := tk) I2 kp hp ⟨by rw [List.length_map, lo]; exact Nat.le_trans n1 (by decide), out, cc, each_vals eo', hD⟩, rfl, k p _ (fun o ho => ?_) (fun b o hb hn => ?_) ?_ upd_same⟩
        · cases o with
          | tbl ps => exact ⟨ps, rfl⟩
          | _ => exact absurd (eN p _ ((upd_ne (ne_of_none ho nr)).trans ho) (fun ps z => by cases z)) (by rw [np]; simp)
        · have e2 := eN b o ((upd_ne (ne_of_none hb nr)).trans hb) hn
          exact (upd_ne (ne_of_none e2 np)).trans e2
        · exact (T2 _ (List.mem_singleton.mpr rfl)).ext fun b o e => (upd_ne (ne_of_none e np)).trans e
theorem pe_sortQ {P cd : Addr} {i : Nat} {a b : Str} {e : Expr} {te : TE} {params : Arguments} {scope : Scope} {p0 p1 p2 p3 p4 p5 p6 p7 p8 p9 : Pos} {q : Str} (hq : X.env.qual ++ "<lambda>" = q) (TB : LamX.TabB X.base X.mg cd P) (hcode : X.env.code = .ref cd) (hg : Gl X "sorted") (hm : X.mg "sorted" = none) (hgr : Gl X "range") (hmr : X.mg "range" = none)
    (hN : X.N[i]? = some a) (hv : X.env.scope.names.lookup a = some .cell) (hcalm : X.calm = true) (hr : Room 0 X.A) (hnames : scope.names = [(b, .local), (a, .free)]) (S : LamSc scope a b) (hdef : defaultsOf params X.env = ([], []))
    (hbind : ∀ (cl : List (Str × Addr)) (pm cv ctv v : Value), bindArgs (PySem.W.kla_fn "<lambda>" (X.env.qual ++ "<lambda>") params (.UnaryOp .USub (.Subscript (.Name a p3) (.Name b p4) p5) p6) scope cl pm cv ctv) ⟨[v], []⟩ = pure [(b, v)])
    (da : (a == ("__debug__" : Str)) = false) (db : (b == ("__debug__" : Str)) = false) (ca : (a == ("__classdict__" : Str)) = false) (he : PE X e te)
    (st : starEach [.Call (.Name "range" p1) [e] [] p2] X.env = (false, eval (.Call (.Name "range" p1) [e] [] p2) X.env) :: starEach [] X.env := by rfl) (st2 : starEach [e] X.env = (false, eval e X.env) :: starEach [] X.env := by rfl) :
    PE X (.Call (.Name "sorted" p0) [.Call (.Name "range" p1) [e] [] p2] [⟨some "key", .Lambda params (.UnaryOp .USub (.Subscript (.Name a p3) (.Name b p4) p5) p6) scope p7, p8⟩] p9) (tSortL P q i te) := by
  subst hq
  exact pe_sortL TB hcode hg hm hgr hmr hN hv hcalm hr hnames S hdef hbind da db ca he st st2
end
end DC
namespace DC
open Si28
/-! # the mathematics, 1: the least, the greatest, the axis -/
theorem foldl_min_le : ∀ (l : List Int) (z : Int), l.foldl min z ≤ z ∧ ∀ x ∈ l, l.foldl min z ≤ x
  | [], z => ⟨Int.le_refl _, fun x h => absurd h (by simp)⟩
  | a :: l, z => by
    have ih := foldl_min_le l (min z a)
    refine ⟨?_, fun x h => ?_⟩
    · show l.foldl min (min z a) ≤ z
      omega
    · show l.foldl min (min z a) ≤ x
      rcases List.mem_cons.mp h with e | h
      · omega
      · exact ih.2 x h
theorem foldl_min_mem : ∀ (l : List Int) (z : Int), l.foldl min z = z ∨ l.foldl min z ∈ l
  | [], z => Or.inl rfl
  | a :: l, z => by
    rcases foldl_min_mem l (min z a) with e | e
    · show l.foldl min (min z a) = z ∨ l.foldl min (min z a) ∈ a :: l
      by_cases h : z ≤ a
      · left; omega
      · right; rw [e]; have : min z a = a := by omega
        rw [this]; exact List.mem_cons_self
    · exact Or.inr (List.mem_cons_of_mem _ e)
theorem foldl_max_ge : ∀ (l : List Int) (z : Int), z ≤ l.foldl max z ∧ ∀ x ∈ l, x ≤ l.foldl max z
  | [], z => ⟨Int.le_refl _, fun x h => absurd h (by simp)⟩
  | a :: l, z => by
    have ih := foldl_max_ge l (max z a)
    refine ⟨?_, fun x h => ?_⟩
    · show z ≤ l.foldl max (max z a)
      omega
    · show x ≤ l.foldl max (max z a)
      rcases List.mem_cons.mp h with e | h
      · omega
      · exact ih.2 x h
theorem foldl_max_mem : ∀ (l : List Int) (z : Int), l.foldl max z = z ∨ l.foldl max z ∈ l
  | [], z => Or.inl rfl
  | a :: l, z => by
    rcases foldl_max_mem l (max z a) with e | e
    · show l.foldl max (max z a) = z ∨ l.foldl max (max z a) ∈ a :: l
      by_cases h : a ≤ z
      · left; omega
      · right; rw [e]; have : max z a = a := by omega
        rw [this]; exact List.mem_cons_self
    · exact Or.inr (List.mem_cons_of_mem _ e)
def lo (l : List Int) : Int := least l (l.headD 0)
def hi (l : List Int) : Int := greatest l (l.headD 0)
theorem headD_mem {l : List Int} (h : l ≠ []) : l.headD 0 ∈ l := by
  cases l with
  | nil => exact absurd rfl h
  | cons a l => exact List.mem_cons_self
theorem lo_mem {l : List Int} (h : l ≠ []) : lo l ∈ l := by
  rcases foldl_min_mem l (l.headD 0) with e | e
  · show l.foldl min (l.headD 0) ∈ l
    rw [e]; exact headD_mem h
  · exact e
theorem hi_mem {l : List Int} (h : l ≠ []) : hi l ∈ l := by
  rcases foldl_max_mem l (l.headD 0) with e | e
  · show l.foldl max (l.headD 0) ∈ l
    rw [e]; exact headD_mem h
  · exact e
theorem lo_le {l : List Int} {x : Int} (h : x ∈ l) : lo l ≤ x := (foldl_min_le l _).2 x h
theorem le_hi {l : List Int} {x : Int} (h : x ∈ l) : x ≤ hi l := (foldl_max_ge l _).2 x h
theorem lo_is {l : List Int} {m : Int} (h : m ∈ l) (hb : ∀ x ∈ l, m ≤ x) : lo l = m :=
  Int.le_antisymm (lo_le h) (hb _ (lo_mem (List.ne_nil_of_mem h)))
theorem hi_is {l : List Int} {m : Int} (h : m ∈ l) (hb : ∀ x ∈ l, x ≤ m) : hi l = m :=
  Int.le_antisymm (hb _ (hi_mem (List.ne_nil_of_mem h))) (le_hi h)
theorem lo_hi (l : List Int) : lo l ≤ hi l := by
  cases l with
  | nil => exact Int.le_refl _
  | cons a l => exact Int.le_trans (lo_le List.mem_cons_self) (le_hi List.mem_cons_self)
theorem lo_congr {l k : List Int} (h : ∀ x, x ∈ l ↔ x ∈ k) : lo l = lo k := by
  by_cases e : k = []
  · subst e
    have : l = [] := List.eq_nil_iff_forall_not_mem.mpr fun x hx => absurd ((h x).mp hx) (by simp)
    rw [this]
  · exact lo_is ((h _).mpr (lo_mem e)) fun x hx => lo_le ((h x).mp hx)
theorem hi_congr {l k : List Int} (h : ∀ x, x ∈ l ↔ x ∈ k) : hi l = hi k := by
  by_cases e : k = []
  · subst e
    have : l = [] := List.eq_nil_iff_forall_not_mem.mpr fun x hx => absurd ((h x).mp hx) (by simp)
    rw [this]
  · exact hi_is ((h _).mpr (hi_mem e)) fun x hx => le_hi ((h x).mp hx)
/-- the axis of numbers -/
def axM (l : List Int) (most : Nat) : Axis := axisOf (lo l) (hi l) most
theorem axM_congr {l k : List Int} (h : ∀ x, x ∈ l ↔ x ∈ k) (most : Nat) : axM l most = axM k most := by
  unfold axM
  rw [lo_congr h, hi_congr h]
theorem chart_axis (C : Chart) (al : Bool) : C.axis al = axM (if al = true then there (C.series.take 1) else C.needs) C.look.most := rfl
/-- the same where there are none: of 0 -/
theorem axM_nil (most : Nat) : axM [] most = axM [0] most := rfl
theorem ediv_small {l s B : Int} (hs : 0 < s) (h1 : -B ≤ l) (h2 : l ≤ B) (hB : 0 ≤ B) : -B ≤ l / s ∧ l / s ≤ B := by
  have g1 := Int.mul_ediv_self_le (x := l) (k := s) (by omega)
  have g2 := Int.lt_mul_ediv_self_add (x := l) (k := s) hs
  constructor
  · apply Int.not_lt.mp
    intro z
    have : s * (l / s) + s ≤ s * (-B) := by
      have := Int.mul_le_mul_of_nonneg_left (show l / s + 1 ≤ -B by omega) (Int.le_of_lt hs)
      rw [Int.mul_add, Int.mul_one] at this
      exact this
    have q : s * B ≥ 1 * B := Int.mul_le_mul_of_nonneg_right hs hB
    rw [Int.mul_neg] at this
    omega
  · apply Int.not_lt.mp
    intro z
    have := Int.mul_le_mul_of_nonneg_left (show B + 1 ≤ l / s by omega) (Int.le_of_lt hs)
    rw [Int.mul_add, Int.mul_one] at this
    have q : s * B ≥ 1 * B := Int.mul_le_mul_of_nonneg_right hs hB
    omega
/-! ### the good steps -/
theorem steps_sorted : steps.Pairwise (· < ·) := by decide +kernel
theorem steps_pos : ∀ s ∈ steps, 0 < s ∧ s ≤ 5 * 10 ^ 55 := by decide +kernel
theorem steps_last : (5 * 10 ^ 55 : Int) ∈ steps := by decide +kernel
theorem find_least {p : Int → Bool} : ∀ {l : List Int} {s : Int}, l.Pairwise (· < ·) → l.find? p = some s → ∀ x ∈ l, p x = true → s ≤ x
  | [], s, _, h, _, _, _ => by simp at h
  | a :: l, s, hp, h, x, hx, px => by
    by_cases pa : p a = true
    · rw [List.find?_cons_of_pos pa] at h
      cases h
      rcases List.mem_cons.mp hx with e | hx
      · omega
      · exact Int.le_of_lt ((List.pairwise_cons.mp hp).1 x hx)
    · rw [List.find?_cons_of_neg pa] at h
      rcases List.mem_cons.mp hx with e | hx
      · subst e; exact absurd px pa
      · exact find_least (List.pairwise_cons.mp hp).2 h x hx px
/-- how many steps it takes -/
def btw (l h s : Int) : Int := -(-h / s) - l / s
def hi' (l h : Int) : Int := if h = l then l + 10 ^ 12 else h
def fitsS (l h : Int) (most : Nat) (s : Int) : Bool := decide (btw l h s ≤ (most : Int))
theorem btw_last {l h : Int} (hl : -(10 ^ 55) ≤ l) (hh : h ≤ 10 ^ 55) : btw l h (5 * 10 ^ 55) ≤ 2 := by
  unfold btw
  have a : (-1 : Int) ≤ -h / (5 * 10 ^ 55) := by omega
  have b : (-1 : Int) ≤ l / (5 * 10 ^ 55) := by omega
  omega
theorem btw_pos {l h s : Int} (hs : 0 < s) (h1 : l < h) : 1 ≤ btw l h s := by
  unfold btw
  have a := Int.mul_ediv_self_le (x := -h) (k := s) (by omega)
  have b := Int.mul_ediv_self_le (x := l) (k := s) (by omega)
  have c : s * (-h / s) + s * (l / s) < 0 := by omega
  rw [← Int.mul_add] at c
  have d : -h / s + l / s < 0 := by
    apply Int.not_le.mp
    intro z
    have := Int.mul_nonneg (Int.le_of_lt hs) z
    omega
  omega
structure AxOk (A : Axis) : Prop where
  pos : 0 < A.step
  lt : A.step ≤ 5 * 10 ^ 55
  c1 : 1 ≤ A.count
  c2 : A.count ≤ 64
  st : -(10 ^ 57) ≤ A.start ∧ A.start ≤ 10 ^ 57
/-- what the program's least fitting step makes is the axis -/
theorem axisOf_is {l h : Int} {most : Nat} {s : Int} (h1 : -(10 ^ 54) ≤ l) (h2 : l ≤ h) (h3 : h ≤ 10 ^ 54) (m2 : 2 ≤ most) (m64 : most ≤ 64) (hs : s ∈ steps) (hf : fitsS l (hi' l h) most s = true) (hm : ∀ x ∈ steps, fitsS l (hi' l h) most x = true → s ≤ x) :
    axisOf l h most = ⟨l / s * s, s, (btw l (hi' l h) s).toNat⟩ ∧ AxOk (axisOf l h most) ∧ ((axisOf l h most).count : Int) = btw l (hi' l h) s := by
  have eh : (if l = h then l + ONE else h) = hi' l h := by
    unfold hi' ONE
    by_cases e : l = h
    · rw [if_pos e, if_pos e.symm]
    · rw [if_neg e, if_neg fun z => e z.symm]
  have e : axisOf l h most = ⟨l / s * s, s, (btw l (hi' l h) s).toNat⟩ := by
    unfold axisOf
    rw [eh]
    have f : steps.find? (fun s => decide (above (hi' l h) s - l / s ≤ (most : Int))) = some s := by
      cases c : steps.find? (fun s => decide (above (hi' l h) s - l / s ≤ (most : Int))) with
      | none => exact absurd hf (List.find?_eq_none.mp c s hs)
      | some x =>
        have a1 := find_least steps_sorted c s hs hf
        have a2 := hm x (List.mem_of_find?_eq_some c) (List.find?_some c)
        rw [Int.le_antisymm a1 a2]
    dsimp only
    rw [f] <;> rfl
  have hp := steps_pos s hs
  have hlt : l < hi' l h := by
    unfold hi'
    split <;> omega
  have b1 := btw_pos hp.1 hlt
  have b2 := of_decide_eq_true hf
  refine ⟨e, ?_, ?_⟩
  · rw [e]
    have g1 := Int.mul_ediv_self_le (x := l) (k := s) (by omega)
    have g2 := Int.lt_mul_ediv_self_add (x := l) (k := s) hp.1
    rw [Int.mul_comm] at g1 g2
    refine ⟨hp.1, hp.2, ?_, ?_, ?_, ?_⟩
    · show 1 ≤ (btw l (hi' l h) s).toNat
      omega
    · show (btw l (hi' l h) s).toNat ≤ 64
      omega
    · show -(10 ^ 57) ≤ l / s * s
      omega
    · show l / s * s ≤ 10 ^ 57
      omega
  · rw [e]
    show ((btw l (hi' l h) s).toNat : Int) = _
    omega
theorem fits_last {l h : Int} {most : Nat} (h1 : -(10 ^ 54) ≤ l) (h2 : l ≤ h) (h3 : h ≤ 10 ^ 54) (m2 : 2 ≤ most) : fitsS l (hi' l h) most (5 * 10 ^ 55) = true := by
  have := btw_last (l := l) (h := hi' l h) (by omega) (by unfold hi'; split <;> omega)
  exact decide_eq_true (by omega)
/-- some step fits, so every axis is a good one -/
theorem axisOf_ok {l h : Int} {most : Nat} (h1 : -(10 ^ 54) ≤ l) (h2 : l ≤ h) (h3 : h ≤ 10 ^ 54) (m2 : 2 ≤ most) (m64 : most ≤ 64) : AxOk (axisOf l h most) := by
  have hf := fits_last h1 h2 h3 m2
  cases c : steps.find? (fitsS l (hi' l h) most) with
  | none => exact absurd hf (List.find?_eq_none.mp c _ steps_last)
  | some x => exact (axisOf_is h1 h2 h3 m2 m64 (List.mem_of_find?_eq_some c) (List.find?_some c) (find_least steps_sorted c)).2.1
theorem dot_is (A : Axis) (d : Nat) (v : Int) : A.dot d v = (2 * (v - A.start) * ((d : Int) - 1) + (A.count : Int) * A.step) / (2 * ((A.count : Int) * A.step)) := by
  unfold Axis.dot Axis.span
  rw [Int.mul_comm A.step]
end DC
namespace DC
open Si28
/-! # the mathematics, 2: states, rows, sums, bars -/
structure LookOk (l : Look) : Prop where
  kind : l.kind ≤ 4
  w1 : 16 ≤ l.width
  w2 : l.width ≤ 4096
  h1 : 16 ≤ l.height
  h2 : l.height ≤ 4096
  m1 : 2 ≤ l.most
  m2 : l.most ≤ 64
structure RowsOk (n : Nat) (rs : List Series) : Prop where
  n1 : 1 ≤ n
  n2 : n ≤ 512
  k1 : rs ≠ []
  k2 : rs.length ≤ 16
  len : ∀ r ∈ rs, r.length = n
  small : ∀ r ∈ rs, ∀ z, some z ∈ r → -(10 ^ 36) < z ∧ z < 10 ^ 36
structure Wf (s : St) : Prop where
  rows : s.series = [] ∨ RowsOk s.chart.n s.series
  look : LookOk s.look
theorem Wf.ok {s : St} (w : Wf s) (h : s.series ≠ []) : RowsOk s.chart.n s.series := w.rows.resolve_left h
theorem wf_init : Wf init := ⟨Or.inl rfl, ⟨by decide, by decide, by decide, by decide, by decide, by decide, by decide⟩⟩
/-- a list of small numbers -/
def Sm (l : List Int) : Prop := ∀ x ∈ l, -(10 ^ 54) ≤ x ∧ x ≤ 10 ^ 54
theorem Sm.lo {l : List Int} (h : Sm l) : -(10 ^ 54) ≤ lo l := by
  cases l with
  | nil => decide
  | cons a l => exact (h _ (lo_mem (List.cons_ne_nil _ _))).1
theorem Sm.hi {l : List Int} (h : Sm l) : hi l ≤ 10 ^ 54 := by
  cases l with
  | nil => decide
  | cons a l => exact (h _ (hi_mem (List.cons_ne_nil _ _))).2
theorem axM_ok {l : List Int} {most : Nat} (h : Sm l) (m1 : 2 ≤ most) (m2 : most ≤ 64) : AxOk (axM l most) := axisOf_ok h.lo (lo_hi l) h.hi m1 m2
/-- one item more -/
theorem take_more {α : Type} : ∀ {l : List α} {i : Nat} {x : α}, l[i]? = some x → l.take (i + 1) = l.take i ++ [x]
  | [], i, x, h => by simp at h
  | a :: l, 0, x, h => by
    have e : a = x := Option.some.inj h
    subst e
    rfl
  | a :: l, i + 1, x, h => by
    have ih := take_more (l := l) (i := i) (x := x) h
    show a :: l.take (i + 1) = a :: l.take i ++ [x]
    rw [ih]
    rfl
theorem take_all {α : Type} (l : List α) : l.take l.length = l := List.take_length
/-- the numbers of a column that are there -/
def colN (rs : List Series) (j : Nat) : List Int := rs.filterMap fun r => (r[j]?).bind id
theorem colN_more {rs : List Series} {i j : Nat} {r : Series} (h : rs[i]? = some r) : colN (rs.take (i + 1)) j = colN (rs.take i) j ++ ((r[j]?).bind id).toList := by
  unfold colN
  rw [take_more h, List.filterMap_append]
  cases e : (r[j]?).bind id with
  | none => simp [e]
  | some z => simp [e]
def upF (up : Bool) (z : Int) : Bool := decide (up = decide (0 ≤ z))
theorem before_is {C : Chart} {j : Nat} {up : Bool} : ∀ {i : Nat}, i ≤ C.series.length → C.before i j up = ((colN (C.series.take i) j).filter (upF up)).sum
  | 0, _ => rfl
  | i + 1, h => by
    have ih := before_is (C := C) (j := j) (up := up) (i := i) (by omega)
    obtain ⟨r, hr⟩ : ∃ r, C.series[i]? = some r := ⟨_, List.getElem?_eq_getElem (by omega)⟩
    rw [colN_more hr, List.filter_append, List.sum_append, ← ih]
    unfold Chart.before
    rw [List.range_succ, List.map_append, List.sum_append]
    congr 1
    have e : C.at_ i j = (r[j]?).bind id := by
      unfold Chart.at_
      rw [List.getD_eq_getElem?_getD, hr] <;> rfl
    show ((match C.at_ i j with | some z => if up = decide (0 ≤ z) then z else 0 | none => 0) + 0) = _
    rw [e]
    cases (r[j]?).bind id with
    | none => rfl
    | some z =>
      show (if up = decide (0 ≤ z) then z else 0) + 0 = (List.filter (upF up) [z]).sum
      by_cases c : up = decide (0 ≤ z)
      · rw [if_pos c, List.filter_cons_of_pos (by unfold upF; exact decide_eq_true c)]
        simp
      · rw [if_neg c, List.filter_cons_of_neg (by unfold upF; rw [decide_eq_false c]; decide)]
        simp
def sumsOf (rs : List Series) (n : Nat) : List Int := (List.range n).flatMap fun j => [((colN rs j).filter fun z => decide (0 ≤ z)).sum, ((colN rs j).filter fun z => decide (z < 0)).sum]
/-- the numbers that the program's upright axis is to show -/
def upN (C : Chart) : List Int := if C.look.kind = 0 then there C.series ++ [0] else if C.look.kind = 1 then sumsOf C.series C.n ++ [0] else if C.look.kind = 3 then there (C.series.drop 1) else there C.series
theorem filter_up (l : List Int) : l.filter (upF true) = l.filter fun z => decide (0 ≤ z) := List.filter_congr fun z _ => by
  unfold upF
  by_cases c : 0 ≤ z <;> simp [c]
theorem filter_down (l : List Int) : l.filter (upF false) = l.filter fun z => decide (z < 0) := List.filter_congr fun z _ => by
  unfold upF
  by_cases c : 0 ≤ z
  · have : ¬ z < 0 := by omega
    simp [c, this]
  · have : z < 0 := by omega
    simp [c, this]
theorem before_all (C : Chart) (j : Nat) : C.before C.series.length j true = ((colN C.series j).filter fun z => decide (0 ≤ z)).sum ∧ C.before C.series.length j false = ((colN C.series j).filter fun z => decide (z < 0)).sum := by
  rw [before_is (Nat.le_refl _), before_is (Nat.le_refl _), take_all, filter_up, filter_down]
  exact ⟨rfl, rfl⟩
theorem upN_mem (C : Chart) (x : Int) : x ∈ upN C ↔ x ∈ C.needs := by
  unfold upN Chart.needs
  by_cases k0 : C.look.kind = 0
  · rw [if_pos k0, if_pos k0]
    simp [or_comm]
  rw [if_neg k0, if_neg k0]
  by_cases k1 : C.look.kind = 1
  · rw [if_pos k1, if_pos k1]
    unfold sumsOf
    simp only [List.mem_append, List.mem_flatMap, List.mem_cons, List.not_mem_nil, or_false, (before_all C _).1, (before_all C _).2]
    exact or_comm
  rw [if_neg k1, if_neg k1]
theorem up_axis (C : Chart) : C.axis false = axM (upN C) C.look.most := by
  rw [chart_axis]
  show axM C.needs _ = _
  exact (axM_congr (upN_mem C) _).symm
theorem along_axis (C : Chart) : C.axis true = axM (there (C.series.take 1)) C.look.most := rfl
/-! ### all of them are small -/
theorem there_mem {l : List Series} {x : Int} (h : x ∈ there l) : ∃ r ∈ l, some x ∈ r := by
  obtain ⟨r, hr, hx⟩ := List.mem_flatMap.mp h
  obtain ⟨o, ho, e⟩ := List.mem_filterMap.mp hx
  have e' : o = some x := e
  exact ⟨r, hr, e' ▸ ho⟩
theorem sum_small {B : Int} (hB : 0 ≤ B) : ∀ (l : List Int), (∀ x ∈ l, -B ≤ x ∧ x ≤ B) → -(B * l.length) ≤ l.sum ∧ l.sum ≤ B * l.length
  | [], _ => by simp
  | a :: l, h => by
    have ih := sum_small hB l fun x hx => h x (List.mem_cons_of_mem _ hx)
    have ha := h a List.mem_cons_self
    rw [List.sum_cons, List.length_cons]
    have : B * ((l.length + 1 : Nat) : Int) = B * l.length + B := by
      rw [Int.natCast_add, Int.mul_add]; simp
    rw [this]
    omega
theorem colN_len (rs : List Series) (j : Nat) : (colN rs j).length ≤ rs.length := List.length_filterMap_le _ _
theorem colN_mem {rs : List Series} {j : Nat} {x : Int} (h : x ∈ colN rs j) : ∃ r ∈ rs, some x ∈ r := by
  obtain ⟨r, hr, e⟩ := List.mem_filterMap.mp h
  refine ⟨r, hr, ?_⟩
  cases c : r[j]? with
  | none => rw [c] at e; cases e
  | some o =>
    rw [c] at e
    have e' : o = some x := e
    subst e'
    exact List.mem_of_getElem? c
/-- any sum of some of a column's numbers -/
theorem col_small {n : Nat} {rs ts : List Series} {j : Nat} {f : Int → Bool} (o : RowsOk n rs) (hs : ∀ r ∈ ts, r ∈ rs) (hl : ts.length ≤ 16) : -(16 * 10 ^ 36) ≤ ((colN ts j).filter f).sum ∧ ((colN ts j).filter f).sum ≤ 16 * 10 ^ 36 := by
  have h := sum_small (B := 10 ^ 36) (by decide) ((colN ts j).filter f) fun x hx => by
    obtain ⟨r, hr, hz⟩ := colN_mem (List.mem_filter.mp hx).1
    have := o.small r (hs r hr) x hz
    omega
  have l1 := List.length_filter_le f (colN ts j)
  have l2 := colN_len ts j
  omega
theorem there_small {n : Nat} {rs ts : List Series} (o : RowsOk n rs) (hs : ∀ r ∈ ts, r ∈ rs) : Sm (there ts) := fun x hx => by
  obtain ⟨r, hr, hz⟩ := there_mem hx
  have := o.small r (hs r hr) x hz
  omega
theorem sums_small {n : Nat} {rs : List Series} (o : RowsOk n rs) (m : Nat) : Sm (sumsOf rs m) := fun x hx => by
  obtain ⟨j, _, hj⟩ := List.mem_flatMap.mp hx
  have a := col_small (j := j) (f := fun z => decide (0 ≤ z)) o (fun r h => h) o.k2
  have b := col_small (j := j) (f := fun z => decide (z < 0)) o (fun r h => h) o.k2
  simp only [List.mem_cons, List.not_mem_nil, or_false] at hj
  rcases hj with e | e
  · rw [e]; omega
  · rw [e]; omega
theorem sm_app {l k : List Int} (h : Sm l) (h' : Sm k) : Sm (l ++ k) := fun x hx => (List.mem_append.mp hx).elim (h x) (h' x)
theorem sm_0 : Sm [0] := fun x hx => by
  rw [List.mem_singleton.mp hx]; decide
theorem upN_small {n : Nat} {C : Chart} (o : RowsOk n C.series) : Sm (upN C) := by
  unfold upN
  split
  · exact sm_app (there_small o fun r h => h) sm_0
  split
  · exact sm_app (sums_small o _) sm_0
  split
  · exact there_small o fun r h => List.mem_of_mem_drop h
  · exact there_small o fun r h => h
theorem up_ok {n : Nat} {C : Chart} (o : RowsOk n C.series) (l : LookOk C.look) : AxOk (C.axis false) := by
  rw [up_axis]
  exact axM_ok (upN_small o) l.m1 l.m2
theorem along_ok {n : Nat} {C : Chart} (o : RowsOk n C.series) (l : LookOk C.look) : AxOk (C.axis true) := by
  rw [along_axis]
  exact axM_ok (there_small o fun r h => List.mem_of_mem_take h) l.m1 l.m2
/-! ### the numbers of a chart -/
theorem at_of {C : Chart} {i j : Nat} {r : Series} {v : Option Int} (hr : C.series[i]? = some r) (hv : r[j]? = some v) : C.at_ i j = v := by
  unfold Chart.at_
  rw [List.getD_eq_getElem?_getD, hr]
  show (r[j]?).bind id = v
  rw [hv] <;> rfl
theorem at_out {C : Chart} {i j : Nat} (h : C.series.length ≤ i ∨ ∀ r ∈ C.series, r.length ≤ j) : C.at_ i j = none := by
  unfold Chart.at_
  rw [List.getD_eq_getElem?_getD]
  cases e : C.series[i]? with
  | none => rfl
  | some r =>
    show (r[j]?).bind id = none
    rcases h with h | h
    · rw [List.getElem?_eq_none h] at e; cases e
    · rw [List.getElem?_eq_none (h r (List.mem_of_getElem? e))] <;> rfl
theorem at_some {C : Chart} {i j : Nat} {z : Int} (h : C.at_ i j = some z) : ∃ r, C.series[i]? = some r ∧ r[j]? = some (some z) := by
  unfold Chart.at_ at h
  rw [List.getD_eq_getElem?_getD] at h
  cases e : C.series[i]? with
  | none => rw [e] at h; cases h
  | some r =>
    rw [e] at h
    have h : (r[j]?).bind id = some z := h
    refine ⟨r, rfl, ?_⟩
    cases c : r[j]? with
    | none => rw [c] at h; cases h
    | some o =>
      rw [c] at h
      have h : o = some z := h
      rw [h]
theorem at_small {n : Nat} {C : Chart} {i j : Nat} {z : Int} (o : RowsOk n C.series) (h : C.at_ i j = some z) : -(10 ^ 36) < z ∧ z < 10 ^ 36 := by
  obtain ⟨r, hr, hz⟩ := at_some h
  exact o.small r (List.mem_of_getElem? hr) z (List.mem_of_getElem? hz)
theorem at_lt {n : Nat} {C : Chart} {i j : Nat} {z : Int} (o : RowsOk n C.series) (h : C.at_ i j = some z) : i < C.series.length ∧ j < n := by
  obtain ⟨r, hr, hz⟩ := at_some h
  refine ⟨(List.getElem?_eq_some_iff.mp hr).1, ?_⟩
  have := (List.getElem?_eq_some_iff.mp hz).1
  rw [o.len r (List.mem_of_getElem? hr)] at this
  exact this
theorem before_small {n : Nat} {C : Chart} {i j : Nat} {up : Bool} (o : RowsOk n C.series) (h : i ≤ C.series.length) : -(16 * 10 ^ 36) ≤ C.before i j up ∧ C.before i j up ≤ 16 * 10 ^ 36 := by
  rw [before_is h]
  refine col_small o (fun r hr => List.mem_of_mem_take hr) ?_
  rw [List.length_take]
  have := o.k2
  omega
/-! ### bars -/
def innerOf (b0 b1 : Nat) : Nat := b1 - b0 - (b1 - b0) / 4
def leftOf (b0 b1 : Nat) : Nat := b0 + (b1 - b0) / 4 / 2
theorem band_le {C : Chart} (j : Nat) : (C.band j).1 ≤ (C.band j).2 := by
  unfold Chart.band
  exact Nat.div_le_div_right (Nat.mul_le_mul_right _ (Nat.le_succ _))
theorem bar_has {C : Chart} {i j : Nat} {x y : Int} {b : Bar} (hb : C.bar i j = some b) (hi : i < C.series.length) (h : b.has x y = true) : ((C.band j).1 : Int) ≤ x ∧ x < ((C.band j).2 : Int) := by
  unfold Chart.bar at hb
  cases e : C.at_ i j with
  | none => rw [e] at hb; cases hb
  | some v =>
    rw [e] at hb
    have hb := (Option.some.inj hb).symm
    unfold Bar.has at h
    simp only [Bool.and_eq_true, decide_eq_true_eq] at h
    obtain ⟨h1, h2, _, _⟩ := h
    have le := band_le (C := C) j
    obtain ⟨q0, e0⟩ : ∃ q0 : Nat, b.x0 = ((leftOf (C.band j).1 (C.band j).2 + q0 : Nat) : Int) := ⟨_, by rw [hb] <;> rfl⟩
    have e1 : b.x1 = ((leftOf (C.band j).1 (C.band j).2 + ((if C.look.kind = 0 then i else 0) + 1) * innerOf (C.band j).1 (C.band j).2 / (if C.look.kind = 0 then C.series.length else 1) : Nat) : Int) := by rw [hb] <;> rfl
    have q : ((if C.look.kind = 0 then i else 0) + 1) * innerOf (C.band j).1 (C.band j).2 / (if C.look.kind = 0 then C.series.length else 1) ≤ innerOf (C.band j).1 (C.band j).2 := by
      by_cases k : C.look.kind = 0
      · rw [if_pos k, if_pos k]
        calc (i + 1) * innerOf (C.band j).1 (C.band j).2 / C.series.length ≤ C.series.length * innerOf (C.band j).1 (C.band j).2 / C.series.length := Nat.div_le_div_right (Nat.mul_le_mul_right _ hi)
          _ = innerOf (C.band j).1 (C.band j).2 := Nat.mul_div_cancel_left _ (by omega)
      · rw [if_neg k, if_neg k]
        omega
    rw [e0] at h1
    rw [e1] at h2
    generalize ((if C.look.kind = 0 then i else 0) + 1) * innerOf (C.band j).1 (C.band j).2 / (if C.look.kind = 0 then C.series.length else 1) = q1 at h2 q
    clear e1 hb
    unfold leftOf innerOf at *
    constructor <;> omega
/-- bands share no dot -/
theorem band_one {C : Chart} {j k : Nat} {x : Int} (h : ((C.band j).1 : Int) ≤ x ∧ x < ((C.band j).2 : Int)) (h' : ((C.band k).1 : Int) ≤ x ∧ x < ((C.band k).2 : Int)) : j = k := by
  have mono : ∀ {a b : Nat}, a < b → (C.band a).2 ≤ (C.band b).1 := fun {a b} q => by
    unfold Chart.band
    exact Nat.div_le_div_right (Nat.mul_le_mul_right _ q)
  rcases Nat.lt_trichotomy j k with q | q | q
  · have := mono q; omega
  · exact q
  · have := mono q; omega
end DC
namespace DC
open Si28
/-! # the mathematics, 3: what lies at a dot -/
theorem find_at {p : Nat → Bool} {m i : Nat} (hi : i < m) (h0 : ∀ k, k < i → p k = false) (h1 : p i = true) : (List.range m).find? p = some i := by
  rw [List.find?_range_eq_some]
  exact ⟨h1, List.mem_range.mpr hi, fun j hj => by rw [h0 j hj]; rfl⟩
theorem find_no {p : Nat → Bool} {m : Nat} (h : ∀ k, k < m → p k = false) : (List.range m).find? p = none := by
  rw [List.find?_eq_none]
  intro k hk
  rw [h k (List.mem_range.mp hk)]
  decide
theorem find_only {p : Nat → Bool} {m j : Nat} (hj : j < m) (h : ∀ k, p k = true → k = j) : (List.range m).find? p = if p j = true then some j else none := by
  by_cases c : p j = true
  · rw [if_pos c]
    refine find_at hj (fun k hk => ?_) c
    cases q : p k with
    | false => rfl
    | true => have := h k q; omega
  · rw [if_neg c]
    refine find_no fun k _ => ?_
    cases q : p k with
    | false => rfl
    | true => have := h k q; subst this; exact absurd q c
def barHas (C : Chart) (x y : Int) (i j : Nat) : Bool := match C.bar i j with
  | some b => b.has x y
  | none => false
theorem barHas_band {C : Chart} {x y : Int} {i j : Nat} (hi : i < C.series.length) (h : barHas C x y i j = true) : ((C.band j).1 : Int) ≤ x ∧ x < ((C.band j).2 : Int) := by
  unfold barHas at h
  cases e : C.bar i j with
  | none => rw [e] at h; cases h
  | some b =>
    rw [e] at h
    exact bar_has e hi h
theorem click_bars {C : Chart} (k : C.look.kind ≤ 1) (x y : Int) : C.click x y = (List.range C.series.length).findSome? fun i => ((List.range C.n).find? fun j => barHas C x y i j).map fun j => (i, j) := by
  unfold Chart.click
  rw [if_pos k]
  show C.names.find? (fun a => barHas C x y a.1 a.2) = _
  unfold Chart.names
  rw [List.find?_flatMap]
  congr 1
  funext i
  rw [List.find?_map]
  rfl
theorem findSome_no {α : Type} {f : Nat → Option α} : ∀ {l : List Nat}, (∀ i ∈ l, f i = none) → l.findSome? f = none := fun h => List.findSome?_eq_none_iff.mpr h
theorem findSome_if {j : Nat} {q : Nat → Bool} : ∀ {l : List Nat} {f : Nat → Option (Nat × Nat)}, (∀ i ∈ l, f i = if q i = true then some (i, j) else none) → l.findSome? f = (l.find? q).map fun i => (i, j)
  | [], _, _ => rfl
  | i :: l, f, h => by
    have h0 := h i List.mem_cons_self
    have ih := findSome_if (j := j) (q := q) (l := l) (f := f) fun k hk => h k (List.mem_cons_of_mem _ hk)
    by_cases c : q i = true
    · rw [if_pos c] at h0
      rw [List.findSome?_cons_of_isSome (by rw [h0]; rfl), List.find?_cons_of_pos c, h0]
      rfl
    · rw [if_neg c] at h0
      rw [List.findSome?_cons_of_isNone (by rw [h0]; rfl), List.find?_cons_of_neg c, ih]
theorem click_none {C : Chart} (k : C.look.kind ≤ 1) {x y : Int} (h : ∀ j, j < C.n → ¬ (((C.band j).1 : Int) ≤ x ∧ x < ((C.band j).2 : Int))) : C.click x y = none := by
  rw [click_bars k]
  refine findSome_no fun i hi => ?_
  rw [find_no fun j hj => ?_]
  · rfl
  · cases q : barHas C x y i j with
    | false => rfl
    | true => exact absurd (barHas_band (List.mem_range.mp hi) q) (h j hj)
theorem click_at {C : Chart} (k : C.look.kind ≤ 1) {x y : Int} {j : Nat} (hj : j < C.n) (h : ((C.band j).1 : Int) ≤ x ∧ x < ((C.band j).2 : Int)) : C.click x y = ((List.range C.series.length).find? fun i => barHas C x y i j).map fun i => (i, j) := by
  rw [click_bars k]
  refine findSome_if fun i hi => ?_
  rw [find_only hj fun l hl => band_one (barHas_band (List.mem_range.mp hi) hl) h]
  by_cases c : barHas C x y i j = true
  · rw [if_pos c, if_pos c]; rfl
  · rw [if_neg c, if_neg c]; rfl
/-! ### points -/
/-- the nearest so far -/
abbrev Best := Option ((Nat × Nat) × Int)
def nearS (C : Chart) (x y : Int) (b : Best) (a : Nat × Nat) : Best := match C.point a.1 a.2 with
  | none => b
  | some p => nearer x y b (a, p)
theorem foldl_filterMap {α β γ : Type} (f : α → Option β) (g : γ → β → γ) : ∀ (l : List α) (z : γ), (l.filterMap f).foldl g z = l.foldl (fun c a => match f a with | none => c | some b => g c b) z
  | [], _ => rfl
  | a :: l, z => by
    cases e : f a with
    | none =>
      rw [List.filterMap_cons_none e]
      show (l.filterMap f).foldl g z = l.foldl _ (match f a with | none => z | some b => g z b)
      rw [e]
      exact foldl_filterMap f g l z
    | some b =>
      rw [List.filterMap_cons_some e]
      show (l.filterMap f).foldl g (g z b) = l.foldl _ (match f a with | none => z | some b => g z b)
      rw [e]
      exact foldl_filterMap f g l (g z b)
theorem click_points {C : Chart} (k : C.look.kind = 2 ∨ C.look.kind = 3) (x y : Int) : C.click x y = (C.names.foldl (nearS C x y) none).map fun b => b.1 := by
  unfold Chart.click
  rw [if_neg (by omega), if_neg (by omega), foldl_filterMap]
  congr 2
  funext b a
  unfold nearS
  cases C.point a.1 a.2 with
  | none => rfl
  | some p => rfl
/-- the names of the first i rows, then of the i-th the first j columns -/
def namesTo (n i j : Nat) : List (Nat × Nat) := ((List.range i).flatMap fun i => (List.range n).map fun j => (i, j)) ++ (List.range j).map fun j => (i, j)
theorem namesTo_more (n i j : Nat) : namesTo n i (j + 1) = namesTo n i j ++ [(i, j)] := by
  unfold namesTo
  rw [List.range_succ, List.map_append, List.append_assoc] <;> rfl
theorem namesTo_row (n i : Nat) : namesTo n i n = namesTo n (i + 1) 0 := by
  unfold namesTo
  rw [List.range_succ (n := i), List.flatMap_append]
  simp
theorem names_is (C : Chart) : C.names = namesTo C.n C.series.length 0 := by
  unfold namesTo Chart.names
  simp
def bestTo (C : Chart) (x y : Int) (i j : Nat) : Best := (namesTo C.n i j).foldl (nearS C x y) none
theorem bestTo_more (C : Chart) (x y : Int) (i j : Nat) : bestTo C x y i (j + 1) = nearS C x y (bestTo C x y i j) (i, j) := by
  unfold bestTo
  rw [namesTo_more, List.foldl_append]
  rfl
theorem bestTo_row (C : Chart) (x y : Int) (i : Nat) : bestTo C x y i C.n = bestTo C x y (i + 1) 0 := by
  unfold bestTo
  rw [namesTo_row]
theorem click_best {C : Chart} (k : C.look.kind = 2 ∨ C.look.kind = 3) (x y : Int) : C.click x y = (bestTo C x y C.series.length 0).map fun b => b.1 := by
  rw [click_points k, names_is]
  rfl
/-- how far the best is; behind all where there is none -/
def bestD (b : Best) : Int := match b with
  | none => 65
  | some q => q.2
def BestOk (b : Best) : Prop := ∀ q, b = some q → q.2 ≤ 64
theorem nearer_yes {x y : Int} {b : Best} {a : Nat × Nat} {p : Int × Int} (hb : BestOk b) (h : far p x y < bestD b) : nearer x y b (a, p) = some (a, far p x y) := by
  unfold nearer
  cases b with
  | none =>
    have h : far p x y < 65 := h
    show (if 64 < far p x y then none else some (a, far p x y)) = _
    rw [if_neg (by omega)]
  | some q =>
    have h : far p x y < q.2 := h
    have hq := hb q rfl
    show (if 64 < far p x y then some q else if far p x y < q.2 then some (a, far p x y) else some q) = _
    rw [if_neg (by omega), if_pos h]
theorem nearer_no {x y : Int} {b : Best} {a : Nat × Nat} {p : Int × Int} (h : ¬ far p x y < bestD b) : nearer x y b (a, p) = b := by
  unfold nearer
  cases b with
  | none =>
    have h : ¬ far p x y < 65 := h
    show (if 64 < far p x y then none else some (a, far p x y)) = _
    rw [if_pos (by omega)]
  | some q =>
    have h : ¬ far p x y < q.2 := h
    show (if 64 < far p x y then some q else if far p x y < q.2 then some (a, far p x y) else some q) = _
    by_cases c : 64 < far p x y
    · rw [if_pos c]
    · rw [if_neg c, if_neg h]
theorem nearS_ok {C : Chart} {x y : Int} {b : Best} (a : Nat × Nat) (hb : BestOk b) : BestOk (nearS C x y b a) := by
  unfold nearS
  cases C.point a.1 a.2 with
  | none => exact hb
  | some p =>
    show BestOk (nearer x y b (a, p))
    by_cases c : far p x y < bestD b
    · rw [nearer_yes hb c]
      intro q e
      cases e
      show far p x y ≤ 64
      cases b with
      | none => have c : far p x y < 65 := c; omega
      | some q => have c : far p x y < q.2 := c; have := hb q rfl; omega
    · rw [nearer_no c]
      exact hb
theorem foldl_ok (C : Chart) (x y : Int) : ∀ (l : List (Nat × Nat)) (b : Best), BestOk b → BestOk (l.foldl (nearS C x y) b)
  | [], _, h => h
  | a :: l, b, h => foldl_ok C x y l _ (nearS_ok a h)
theorem bestTo_ok (C : Chart) (x y : Int) (i j : Nat) : BestOk (bestTo C x y i j) := foldl_ok C x y _ none fun _ e => by cases e
end DC
namespace DC
open Si28
/-! # the mathematics, 4: dots lie within; points; the ring -/
theorem axisOf_in {l h : Int} {most : Nat} (h1 : -(10 ^ 54) ≤ l) (h2 : l ≤ h) (h3 : h ≤ 10 ^ 54) (m2 : 2 ≤ most) (m64 : most ≤ 64) : (axisOf l h most).start ≤ l ∧ h ≤ (axisOf l h most).start + (axisOf l h most).step * ((axisOf l h most).count : Int) := by
  have hf := fits_last h1 h2 h3 m2
  cases c : steps.find? (fitsS l (hi' l h) most) with
  | none => exact absurd hf (List.find?_eq_none.mp c _ steps_last)
  | some s =>
    have hs := List.mem_of_find?_eq_some c
    have hp := steps_pos s hs
    obtain ⟨e, _, ec⟩ := axisOf_is h1 h2 h3 m2 m64 hs (List.find?_some c) (find_least steps_sorted c)
    rw [ec, e]
    show l / s * s ≤ l ∧ h ≤ l / s * s + s * btw l (hi' l h) s
    have g1 := Int.mul_ediv_self_le (x := l) (k := s) (by omega)
    have g2 := Int.mul_ediv_self_le (x := -(hi' l h)) (k := s) (by omega)
    have g3 : h ≤ hi' l h := by unfold hi'; split <;> omega
    have g4 : s * btw l (hi' l h) s = -(s * (-(hi' l h) / s)) - s * (l / s) := by
      unfold btw
      rw [Int.mul_sub, Int.mul_neg]
    have g5 : l / s * s = s * (l / s) := Int.mul_comm _ _
    omega
theorem axM_in {l : List Int} {most : Nat} {v : Int} (h : Sm l) (m1 : 2 ≤ most) (m2 : most ≤ 64) (hv : v ∈ l) : (axM l most).start ≤ v ∧ v ≤ (axM l most).start + (axM l most).step * ((axM l most).count : Int) := by
  have q := axisOf_in h.lo (lo_hi l) h.hi m1 m2
  have a := lo_le hv
  have b := le_hi hv
  exact ⟨Int.le_trans q.1 a, Int.le_trans b q.2⟩
theorem dot_in {A : Axis} {d : Nat} {v : Int} (ok : AxOk A) (hd : 1 ≤ d) (h1 : A.start ≤ v) (h2 : v ≤ A.start + A.step * (A.count : Int)) : 0 ≤ A.dot d v ∧ A.dot d v ≤ (d : Int) - 1 := by
  rw [dot_is]
  have sp : 0 < (A.count : Int) * A.step := Int.mul_pos (by have := ok.c1; omega) ok.pos
  rw [Int.mul_comm A.step] at h2
  generalize (A.count : Int) * A.step = span at sp h2
  have n0 : 0 ≤ 2 * (v - A.start) * ((d : Int) - 1) := Int.mul_nonneg (by omega) (by omega)
  have n1 : 2 * (v - A.start) * ((d : Int) - 1) ≤ 2 * span * ((d : Int) - 1) := Int.mul_le_mul_of_nonneg_right (by omega) (by omega)
  constructor
  · exact Int.ediv_nonneg (by omega) (by omega)
  · have : (2 * (v - A.start) * ((d : Int) - 1) + span) / (2 * span) < (d : Int) := by
      refine Int.ediv_lt_of_lt_mul (by omega) ?_
      have e : (d : Int) * (2 * span) = 2 * span * ((d : Int) - 1) + 2 * span := by
        rw [Int.mul_sub, Int.mul_one, Int.mul_comm]
        omega
      omega
    omega
theorem at_mem {C : Chart} {i j k : Nat} {v : Int} (h : C.at_ i j = some v) (hk : k ≤ i) : v ∈ there (C.series.drop k) := by
  obtain ⟨r, hr, hv⟩ := at_some h
  refine List.mem_flatMap.mpr ⟨r, ?_, List.mem_filterMap.mpr ⟨some v, List.mem_of_getElem? hv, rfl⟩⟩
  refine List.mem_of_getElem? (i := i - k) ?_
  rw [List.getElem?_drop, show k + (i - k) = i by omega]
  exact hr
theorem at0_mem {C : Chart} {j : Nat} {v : Int} (h : C.at_ 0 j = some v) : v ∈ there (C.series.take 1) := by
  obtain ⟨r, hr, hv⟩ := at_some h
  refine List.mem_flatMap.mpr ⟨r, ?_, List.mem_filterMap.mpr ⟨some v, List.mem_of_getElem? hv, rfl⟩⟩
  cases hs : C.series with
  | nil => rw [hs] at hr; cases hr
  | cons a l =>
    rw [hs] at hr
    have e : a = r := Option.some.inj hr
    rw [e]
    exact List.mem_cons_self
/-- the dots along of a column's points -/
def alongM (C : Chart) (j : Nat) : Option Int := if C.look.kind = 3 then (C.at_ 0 j).map fun x => (C.axis true).dot C.look.width x else some (((C.band j).1 + (C.band j).2 : Nat) / 2)
def alongs (C : Chart) : List (Option Int) := (List.range C.n).map (alongM C)
theorem point_none {C : Chart} {i j : Nat} (h : C.at_ i j = none) : C.point i j = none := by
  unfold Chart.point
  rw [h]
theorem point_0 {C : Chart} {j : Nat} (k : C.look.kind = 3) : C.point 0 j = none := by
  unfold Chart.point
  cases C.at_ 0 j with
  | none => rfl
  | some v =>
    show (if C.look.kind = 2 then _ else if 0 = 0 then none else _) = none
    rw [if_neg (by omega), if_pos rfl]
theorem point_some {C : Chart} {i j : Nat} {v : Int} (h : C.at_ i j = some v) (k : C.look.kind = 2 ∨ (C.look.kind = 3 ∧ i ≠ 0)) : C.point i j = (alongM C j).map fun x => (x, C.up v) := by
  unfold Chart.point alongM
  rw [h]
  rcases k with k | ⟨k, hi⟩
  · show (if C.look.kind = 2 then _ else _) = _
    rw [if_pos k, if_neg (by omega)]
    rfl
  · show (if C.look.kind = 2 then _ else if i = 0 then none else _) = _
    rw [if_neg (by omega), if_neg hi, if_pos k, Option.map_map]
    rfl
theorem point_in {n : Nat} {C : Chart} (o : RowsOk n C.series) (l : LookOk C.look) (hn : C.n = n) (k : C.look.kind = 2 ∨ C.look.kind = 3) {i j : Nat} {p : Int × Int} (h : C.point i j = some p) : (0 ≤ p.1 ∧ p.1 ≤ 4096) ∧ (0 ≤ p.2 ∧ p.2 ≤ 4096) := by
  cases e : C.at_ i j with
  | none => rw [point_none e] at h; cases h
  | some v =>
    have q : C.look.kind = 2 ∨ (C.look.kind = 3 ∧ i ≠ 0) := by
      rcases k with k | k
      · exact Or.inl k
      · refine Or.inr ⟨k, fun z => ?_⟩
        subst z
        rw [point_0 k] at h
        cases h
    rw [point_some e q] at h
    cases c : alongM C j with
    | none => rw [c] at h; cases h
    | some x =>
      rw [c] at h
      have h : (x, C.up v) = p := Option.some.inj h
      subst h
      have w1 := l.w1
      have w2 := l.w2
      have h1 := l.h1
      have h2 := l.h2
      constructor
      · unfold alongM at c
        by_cases k3 : C.look.kind = 3
        · rw [if_pos k3] at c
          cases d : C.at_ 0 j with
          | none => rw [d] at c; cases c
          | some z =>
            rw [d] at c
            have c : (C.axis true).dot C.look.width z = x := Option.some.inj c
            rw [along_axis] at c
            have sm : Sm (there (C.series.take 1)) := there_small o fun r h => List.mem_of_mem_take h
            have i1 := axM_in sm l.m1 l.m2 (at0_mem d)
            have i2 := dot_in (axM_ok sm l.m1 l.m2) (show 1 ≤ C.look.width by omega) i1.1 i1.2
            rw [c] at i2
            show 0 ≤ x ∧ x ≤ 4096
            omega
        · rw [if_neg k3] at c
          have c : (((C.band j).1 + (C.band j).2 : Nat) : Int) / 2 = x := Option.some.inj c
          have lj := (at_lt o e).2
          have b2 : (C.band j).2 ≤ C.look.width := by
            show (j + 1) * C.look.width / C.n ≤ _
            exact Nat.div_le_of_le_mul (Nat.mul_le_mul_right _ (by omega))
          have b1 := band_le (C := C) j
          show 0 ≤ x ∧ x ≤ 4096
          omega
      · show 0 ≤ C.up v ∧ C.up v ≤ 4096
        have hm : v ∈ upN C := by
          rcases q with q | ⟨q, hi⟩
          · have : upN C = there C.series := (if_neg (by omega)).trans ((if_neg (by omega)).trans (if_neg (by omega)))
            rw [this]
            exact at_mem (k := 0) e (Nat.zero_le _)
          · have : upN C = there (C.series.drop 1) := (if_neg (by omega)).trans ((if_neg (by omega)).trans (if_pos q))
            rw [this]
            exact at_mem (k := 1) e (by omega)
        unfold Chart.up
        have ok := up_ok o l
        rw [up_axis] at ok ⊢
        have i1 := axM_in (upN_small o) l.m1 l.m2 hm
        have i2 := dot_in ok (show 1 ≤ C.look.height by omega) i1.1 i1.2
        omega
theorem bestTo_0 {C : Chart} (k : C.look.kind = 3) (x y : Int) : ∀ j, bestTo C x y 0 j = none
  | 0 => rfl
  | j + 1 => by
    rw [bestTo_more, bestTo_0 k x y j]
    unfold nearS
    rw [point_0 k]
/-- where the program's loop begins -/
theorem bestTo_start {C : Chart} (x y : Int) : bestTo C x y (if C.look.kind = 3 then 1 else 0) 0 = none := by
  by_cases k : C.look.kind = 3
  · rw [if_pos k, ← bestTo_row C x y 0]
    exact bestTo_0 k x y _
  · rw [if_neg k]
    rfl
/-! ### the ring -/
theorem take_sum_le {ps : List Int} (h : ∀ x ∈ ps, 0 ≤ x) : ∀ j, 0 ≤ (ps.take j).sum ∧ (ps.take j).sum ≤ ps.sum := by
  induction ps with
  | nil => intro j; simp
  | cons a l ih =>
    intro j
    have ha := h a List.mem_cons_self
    cases j with
    | zero =>
      have := ih (fun x hx => h x (List.mem_cons_of_mem _ hx)) 0
      simp at this ⊢
      omega
    | succ j =>
      have := ih (fun x hx => h x (List.mem_cons_of_mem _ hx)) j
      simp only [List.take_succ_cons, List.sum_cons]
      omega
theorem take_sum_more {ps : List Int} {j : Nat} {x : Int} (h : ps[j]? = some x) : (ps.take (j + 1)).sum = (ps.take j).sum + x := by
  rw [take_more h, List.sum_append]
  simp
/-- the sums ahead of each part, and of all -/
def bounds (ps : List Int) : List Int := (List.range (ps.length + 1)).map fun j => (ps.take j).sum
def boundsTo (ps : List Int) (i : Nat) : List Int := (List.range (i + 1)).map fun j => (ps.take j).sum
theorem boundsTo_more {ps : List Int} {i : Nat} {x : Int} (h : ps[i]? = some x) : boundsTo ps (i + 1) = boundsTo ps i ++ [(ps.take i).sum + x] := by
  unfold boundsTo
  rw [List.range_succ (n := i + 1), List.map_append, ← take_sum_more h] <;> rfl
theorem boundsTo_last (ps : List Int) (i : Nat) : ∃ l, boundsTo ps i = l ++ [(ps.take i).sum] := by
  unfold boundsTo
  rw [List.range_succ (n := i), List.map_append]
  exact ⟨_, rfl⟩
theorem bounds_get {ps : List Int} {j : Nat} (h : j ≤ ps.length) : (bounds ps)[j]? = some (ps.take j).sum := by
  unfold bounds
  rw [List.getElem?_map, List.getElem?_range (by omega)]
  rfl
theorem bounds_len (ps : List Int) : (bounds ps).length = ps.length + 1 := by
  unfold bounds
  rw [List.length_map, List.length_range]
def farM (u v r : Int) : Int := if v = r ∧ 0 ≤ u then u else if u = r then 2 * r - v else if v = -r then 4 * r - u else if u = -r then 6 * r + v else 8 * r + u
theorem round_is (u v : Int) : round u v = (farM u v ((max u.natAbs v.natAbs : Nat) : Int), 8 * ((max u.natAbs v.natAbs : Nat) : Int)) := by
  unfold round farM
  dsimp only
  split
  · rfl
  split
  · rfl
  split
  · rfl
  split <;> rfl
/-- the ring's part at a dot, of the dots across the ring -/
def hit (ps : List Int) (far r : Int) (j : Nat) : Bool := decide ((ps.take j).sum * (8 * r) ≤ far * ps.sum) && decide (far * ps.sum < (ps.take (j + 1)).sum * (8 * r))
theorem click_ring {C : Chart} (k : C.look.kind = 4) (x y : Int) : C.click x y = (C.slice x y).map fun j => (0, j) := by
  unfold Chart.click
  rw [if_neg (by omega), if_pos k]
theorem slice_out {C : Chart} {x y : Int} (h : (min C.look.width C.look.height : Nat) ≤ max (2 * x - ((C.look.width : Int) - 1)).natAbs (2 * y - ((C.look.height : Int) - 1)).natAbs ∨ 2 * max (2 * x - ((C.look.width : Int) - 1)).natAbs (2 * y - ((C.look.height : Int) - 1)).natAbs < (min C.look.width C.look.height : Nat)) : C.slice x y = none := by
  unfold Chart.slice
  dsimp only
  rw [if_pos]
  rcases h with h | h
  · exact Or.inl h
  · exact Or.inr (Or.inl h)
theorem slice_in {C : Chart} {x y : Int} (h : ¬ ((min C.look.width C.look.height : Nat) ≤ max (2 * x - ((C.look.width : Int) - 1)).natAbs (2 * y - ((C.look.height : Int) - 1)).natAbs ∨ 2 * max (2 * x - ((C.look.width : Int) - 1)).natAbs (2 * y - ((C.look.height : Int) - 1)).natAbs < (min C.look.width C.look.height : Nat))) (nn : ∀ z ∈ C.parts, 0 ≤ z) :
    C.slice x y = (List.range C.n).find? (hit C.parts (farM (2 * x - ((C.look.width : Int) - 1)) (2 * y - ((C.look.height : Int) - 1)) (max (2 * x - ((C.look.width : Int) - 1)).natAbs (2 * y - ((C.look.height : Int) - 1)).natAbs : Nat)) (max (2 * x - ((C.look.width : Int) - 1)).natAbs (2 * y - ((C.look.height : Int) - 1)).natAbs : Nat)) := by
  unfold Chart.slice
  dsimp only
  by_cases t : C.total = 0
  · rw [if_pos (Or.inr (Or.inr t))]
    symm
    refine find_no fun j _ => ?_
    have t : C.parts.sum = 0 := t
    have a := take_sum_le nn j
    have b := take_sum_le nn (j + 1)
    have e1 : (C.parts.take j).sum = 0 := by omega
    have e2 : (C.parts.take (j + 1)).sum = 0 := by omega
    unfold hit
    rw [e1, e2, t]
    simp
  · rw [if_neg (fun q => h (q.elim Or.inl fun q => q.elim Or.inr fun q => absurd q t))]
    rw [round_is]
    rfl
theorem parts_len (C : Chart) : C.parts.length = C.n := List.length_map _
end DC
namespace DC
/-! # the mathematics, 5: shares -/
def incr (l : List Int) (js : List Nat) : List Int := l.zipIdx.map fun x => if js.contains x.2 = true then x.1 + 1 else x.1
theorem incr_len (l : List Int) (js : List Nat) : (incr l js).length = l.length := by
  unfold incr
  rw [List.length_map, List.length_zipIdx]
theorem incr_get (l : List Int) (js : List Nat) (k : Nat) : (incr l js)[k]? = l[k]?.map fun z => if js.contains k = true then z + 1 else z := by
  unfold incr
  rw [List.getElem?_map, List.getElem?_zipIdx, Option.map_map]
  cases l[k]? with
  | none => rfl
  | some z => simp
theorem incr_nil (l : List Int) : incr l [] = l := by
  apply List.ext_getElem?
  intro k
  rw [incr_get]
  cases l[k]? with
  | none => rfl
  | some z => rfl
theorem incr_more {l : List Int} {js : List Nat} {j : Nat} {z : Int} (hz : l[j]? = some z) (hj : j ∉ js) : (incr l js).set j (z + 1) = incr l (js ++ [j]) := by
  apply List.ext_getElem?
  intro k
  have jl : j < l.length := (List.getElem?_eq_some_iff.mp hz).1
  rw [incr_get, List.getElem?_set]
  by_cases e : j = k
  · subst e
    rw [if_pos rfl, if_pos (by rw [incr_len]; exact jl), hz]
    have : (js ++ [j]).contains j = true := by simp
    rw [Option.map_some, if_pos this]
  · rw [if_neg e, incr_get]
    have : (js ++ [j]).contains k = js.contains k := by
      rw [Bool.eq_iff_iff]
      simp
      intro q
      exact absurd q.symm e
    rw [this]
theorem incr_at {l : List Int} {js : List Nat} {j : Nat} {z : Int} (hz : l[j]? = some z) (hj : j ∉ js) : (incr l js)[j]? = some z := by
  rw [incr_get, hz]
  have : js.contains j = false := by
    cases c : js.contains j with
    | false => rfl
    | true => exact absurd (by simpa using c) hj
  rw [Option.map_some, this]
  rfl
/-- what is cut off is no more than the whole -/
theorem cut_le {T w : Int} (hT : 0 < T) (hw : 0 ≤ w) : ∀ (ps : List Int), (∀ x ∈ ps, 0 ≤ x) → (ps.map fun z => z * w / T).sum * T ≤ ps.sum * w ∧ 0 ≤ (ps.map fun z => z * w / T).sum
  | [], _ => by simp
  | a :: l, h => by
    obtain ⟨ih, ih2⟩ := cut_le hT hw l fun x hx => h x (List.mem_cons_of_mem _ hx)
    have ha := h a List.mem_cons_self
    rw [List.map_cons, List.sum_cons, List.sum_cons, Int.add_mul, Int.add_mul]
    have g := Int.ediv_mul_le (a * w) (b := T) (by omega)
    have g2 := Int.ediv_nonneg (Int.mul_nonneg ha hw) (show 0 ≤ T by omega)
    constructor <;> omega
theorem cut_whole {ps : List Int} {w : Nat} (h : ∀ x ∈ ps, 0 ≤ x) (hT : 0 < ps.sum) : (ps.map fun z => z * (w : Int) / ps.sum).sum ≤ w := by
  obtain ⟨a, _⟩ := cut_le hT (show 0 ≤ (w : Int) by omega) ps h
  rw [Int.mul_comm ps.sum] at a
  exact Int.le_of_mul_le_mul_right a hT
theorem getD_map0 (f : Int → Int) (f0 : f 0 = 0) (l : List Int) (k : Nat) : (l.map f).getD k 0 = f (l.getD k 0) := by
  rw [List.getD_eq_getElem?_getD, List.getD_eq_getElem?_getD, List.getElem?_map]
  cases l[k]? with
  | none => exact f0.symm
  | some z => rfl
end DC
/-! # C. How what the program knows lies in the heap; the promises -/
namespace DC
open PySem PySem.Spec PyProof.Rows L2 Evl
abbrev St := Si28.St
abbrev Series := Si28.Series
abbrev Chart := Si28.Chart
abbrev Bar := Si28.Bar
abbrev steps := Si28.steps
abbrev there := Si28.there
def oV : Option Int → V
  | none => .non
  | some z => .int z
def nV (l : List Int) : List V := l.map V.int
def AxAt (c : Cs) (H : Hp) (a : Addr) (A : Si28.Axis) : Prop := ∃ dx, H a = some (.ins c.ax dx (f_ax (.int A.start) (.int A.step) (.int (A.count : Int))))
def LkAt (c : Cs) (H : Hp) (a : Addr) (l : Si28.Look) : Prop := ∃ dx, H a = some (.ins c.lk dx (f_lk (.int (l.kind : Int)) (.int (l.width : Int)) (.int (l.height : Int)) (.int (l.most : Int))))
def RowsL (H : Hp) (ps : List Addr) (rs : List Series) : Prop := ps.length = rs.length ∧ ∀ (i : Nat) q r, ps[i]? = some q → rs[i]? = some r → H q = some (.lst (r.map oV))
def RowsAt (H : Hp) (p : Addr) (rs : List Series) : Prop := ∃ ps : List Addr, H p = some (.lst (ps.map V.ref)) ∧ RowsL H ps rs
def ChAt (c : Cs) (H : Hp) (a : Addr) (s : St) : Prop := ∃ dx pr pl, H a = some (.ins c.ch dx (f_ch (.ref pr) (.ref pl))) ∧ RowsAt H pr s.series ∧ LkAt c H pl s.look
def BaAt (c : Cs) (H : Hp) (b : Addr) (s : St) : Prop := ∃ dx a u, H b = some (.ins c.ba dx (f_ba (.ref a) (.ref u))) ∧ ChAt c H a s ∧ AxAt c H u (s.chart.axis false)
def PoAt (c : Cs) (H : Hp) (b : Addr) (s : St) : Prop := ∃ dx a u l, H b = some (.ins c.po dx (f_po (.ref a) (.ref u) (.int (if s.look.kind = 3 then 1 else 0)) (.ref l))) ∧ ChAt c H a s ∧ AxAt c H u (s.chart.axis false) ∧ H l = some (.lst ((alongs s.chart).map oV))
def RiAt (c : Cs) (H : Hp) (b : Addr) (ps : List Int) (k : Si28.Look) : Prop := ∃ dx l q, H b = some (.ins c.ri dx (f_ri (.ref l) (.ref q))) ∧ LkAt c H l k ∧ H q = some (.lst (nV (bounds ps)))
def ReAt (c : Cs) (H : Hp) (b p : Addr) (i : Nat) : Prop := ∃ dx, H b = some (.ins c.re dx (f_re (.ref p) (.int (i : Int))))
section
variable {c : Cs} {H H' : Hp} {a b p : Addr}
theorem AxAt.mono {A : Si28.Axis} (h : AxAt c H a A) (e : Ex H H') : AxAt c H' a A := by
  obtain ⟨dx, h⟩ := h
  exact ⟨dx, e _ _ h⟩
theorem LkAt.mono {l : Si28.Look} (h : LkAt c H a l) (e : Ex H H') : LkAt c H' a l := by
  obtain ⟨dx, h⟩ := h
  exact ⟨dx, e _ _ h⟩
theorem RowsL.mono {ps : List Addr} {rs : List Series} (h : RowsL H ps rs) (e : Ex H H') : RowsL H' ps rs := ⟨h.1, fun i q r h1 h2 => e _ _ (h.2 i q r h1 h2)⟩
theorem RowsAt.mono {rs : List Series} (h : RowsAt H p rs) (e : Ex H H') : RowsAt H' p rs := by
  obtain ⟨ps, h1, h2⟩ := h
  exact ⟨ps, e _ _ h1, h2.mono e⟩
theorem ChAt.mono {s : St} (h : ChAt c H a s) (e : Ex H H') : ChAt c H' a s := by
  obtain ⟨dx, pr, pl, h1, h2, h3⟩ := h
  exact ⟨dx, pr, pl, e _ _ h1, h2.mono e, h3.mono e⟩
theorem BaAt.mono {s : St} (h : BaAt c H b s) (e : Ex H H') : BaAt c H' b s := by
  obtain ⟨dx, a, u, h1, h2, h3⟩ := h
  exact ⟨dx, a, u, e _ _ h1, h2.mono e, h3.mono e⟩
theorem PoAt.mono {s : St} (h : PoAt c H b s) (e : Ex H H') : PoAt c H' b s := by
  obtain ⟨dx, a, u, l, h1, h2, h3, h4⟩ := h
  exact ⟨dx, a, u, l, e _ _ h1, h2.mono e, h3.mono e, e _ _ h4⟩
theorem RiAt.mono {ps : List Int} {k : Si28.Look} (h : RiAt c H b ps k) (e : Ex H H') : RiAt c H' b ps k := by
  obtain ⟨dx, l, q, h1, h2, h3⟩ := h
  exact ⟨dx, l, q, e _ _ h1, h2.mono e, e _ _ h3⟩
/-- rows, read by their place -/
theorem RowsAt.row {rs : List Series} {ps : List Addr} (h : RowsL H ps rs) {i : Nat} {r : Series} (hr : rs[i]? = some r) : ∃ q, ps[i]? = some q ∧ H q = some (.lst (r.map oV)) := by
  have hi : i < ps.length := by
    rw [h.1]
    exact (List.getElem?_eq_some_iff.mp hr).1
  exact ⟨ps[i], List.getElem?_eq_getElem hi, h.2 i _ r (List.getElem?_eq_getElem hi) hr⟩
end
/-! ### new instances, of whose fields something holds -/
def InitP (C p dx : Addr) (P : List (Str × V) → Hp → Prop) (H : Hp) (Q : VK) : Prop := ∀ (H' : Hp) fs, H' p = some (.ins C dx fs) → P fs H' → (∀ b o, H b = some o → b ≠ p → H' b = some o) → Q .non H'
theorem en_makeP {σ : L2.St} {H : Hp} {C : Addr} {P : List (Str × V) → Hp → Prop} {sp : Sp} {vs : List V} {tr : TA} (h : EvA tr σ H vs) (hs : ∀ (H1 : Hp) (p dx : Addr), Ex H H1 → H p = none → H1 p = some (.ins C dx []) → ∀ Q : VK, InitP C p dx P H1 Q → ∀ E : XK, sp (.ref p :: vs) H1 Q E) :
    EvN (tMake C sp [] E0 tr) σ H fun p H2 => ∃ dx fs, H2 p = some (.ins C dx fs) ∧ P fs H2 := fun H1 e Q q =>
  h H1 e _ fun H2 e2 x dx nx nd ne => by
    have e3 : Ex H2 (upd (upd H2 dx (.own x)) x (.ins C dx [])) := fun b o hb => by
      rw [upd_ne (ne_of_none hb nx), upd_ne (ne_of_none hb nd)]
      exact hb
    rw [List.append_nil]
    refine hs _ x dx ((e.trans e2).trans e3) (fresh_back (e.trans e2) nx) upd_same _ (fun H' fs h' hP k => ⟨rfl, ?_⟩) E0
    exact q x H' (fresh_back e2 nx) (e2.trans (Same.made nx nd k)) ⟨dx, fs, h', hP⟩
/-- an object at a is changed, all else is as it was -/
def But (a : Addr) (H H' : Hp) : Prop := ∀ b o, H b = some o → b ≠ a → H' b = some o
theorem But.refl (a : Addr) (H : Hp) : But a H H := fun _ _ h _ => h
theorem But.trans {a : Addr} {H H1 H2 : Hp} (x : But a H H1) (y : But a H1 H2) : But a H H2 := fun b o h n => y b o (x b o h n) n
theorem But.ex {a : Addr} {H H1 : Hp} (e : Ex H H1) : But a H H1 := fun b o h _ => e b o h
theorem But.upd {a : Addr} {H : Hp} {o : HO} : But a H (upd H a o) := fun b u h n => by
  rw [upd_ne n]
  exact h
/-- where a is not known, all stays -/
theorem But.up {a : Addr} {H H' : Hp} (x : But a H H') (h : H a = none) : Ex H H' := fun b o hb => x b o hb (ne_of_none hb h)
/-- the heap without the object at t -/
def hide (t : Addr) (H : Hp) : Hp := fun b => if b = t then none else H b
theorem hide_ne {t b : Addr} {H : Hp} (h : b ≠ t) : hide t H b = H b := if_neg h
theorem hide_at {t b : Addr} {H : Hp} {o : HO} (h : hide t H b = some o) : b ≠ t ∧ H b = some o := by
  by_cases e : b = t
  · have : hide t H b = none := if_pos e
    rw [this] at h
    cases h
  · exact ⟨e, (hide_ne e).symm.trans h⟩
theorem hide_of {t b : Addr} {H : Hp} {o : HO} (n : b ≠ t) (h : H b = some o) : hide t H b = some o := (hide_ne n).trans h
theorem hide_sub {t : Addr} {H : Hp} : Ex (hide t H) H := fun _ _ h => (hide_at h).2
theorem hide_ex {t : Addr} {H H' : Hp} (e : Ex H H') : Ex (hide t H) (hide t H') := fun b o h => hide_of (hide_at h).1 (e b o (hide_at h).2)
theorem hide_but {t r : Addr} {H H' : Hp} (x : But r H H') : But r (hide t H) (hide t H') := fun b o h n => hide_of (hide_at h).1 (x b o (hide_at h).2 n)
theorem hide_upd {t : Addr} {H : Hp} {o : HO} : Ex (hide t H) (hide t (upd H t o)) := fun b u h => hide_of (hide_at h).1 (by rw [upd_ne (hide_at h).1]; exact (hide_at h).2)
theorem LkAt.hide {c : Cs} {t l : Addr} {H : Hp} {k : Si28.Look} (h : LkAt c H l k) (n : l ≠ t) : LkAt c (DC.hide t H) l k := by
  obtain ⟨dl, h⟩ := h
  exact ⟨dl, hide_of n h⟩
def RetM (c : Cs) (a : Addr) (s : St) (H : Hp) (Q : VK) : Prop := ∀ H', But a H H' → ChAt c H' a s → (∀ t o, H t = some o → t ≠ a → ChAt c (hide t H') a s) → Q .non H'
/-- the lambda's name -/
def lamQ : Str := (("shares_of" : Str) ++ (".<locals>." : Str)) ++ ("<lambda>" : Str)
abbrev TabC (c : Cs) (H : Hp) : Prop := LamX.TabS H c.tb lamQ
/-- all but the object at a and tables is as it was -/
def ButT (a : Addr) (H H' : Hp) : Prop := ∀ b o, H b = some o → b ≠ a → (∀ ps, o ≠ .tbl ps) → H' b = some o
/-- an answer told, the chart may be another, and so may the table -/
def RetC (c : Cs) (a t : Addr) (s : St) (xs : List Int) (H : Hp) (Q : VK) : Prop := ∀ p H', FrT H p → ButT a H H' → H' p = some (.lst (nV xs)) → ChAt c (hide t H') a s → TabC c H' → Q (.ref p) H'
/-! ### the promises -/
def sp_Axis (c : Cs) : Sp := fun vs H Q _ => ∃ (p dx : Addr) (x0 x1 x2 : V), vs = [.ref p, x0, x1, x2] ∧ H p = some (.ins c.ax dx []) ∧ Init c.ax p dx (f_ax x0 x1 x2) H Q
def sp_Look (c : Cs) : Sp := fun vs H Q _ => ∃ (p dx : Addr) (x0 x1 x2 x3 : V), vs = [.ref p, x0, x1, x2, x3] ∧ H p = some (.ins c.lk dx []) ∧ Init c.lk p dx (f_lk x0 x1 x2 x3) H Q
def sp_Reader (c : Cs) : Sp := fun vs H Q _ => ∃ (p dx : Addr) (x0 : V), vs = [.ref p, x0] ∧ H p = some (.ins c.re dx []) ∧ Init c.re p dx (f_re x0 (.int 0)) H Q
def dotsOf (A : Si28.Axis) (d : Nat) : List Int := (List.range (A.count + 1)).map fun (k : Nat) => A.dot d (A.start + A.step * (k : Int))
def sp_dot_of (c : Cs) : Sp := fun vs H Q _ => ∃ (a : Addr) (A : Si28.Axis) (v : Int) (d : Nat), vs = [.ref a, .int v, .int (d : Int)] ∧ AxAt c H a A ∧ AxOk A ∧ (-(10 ^ 60) ≤ v ∧ v ≤ 10 ^ 60) ∧ d ≤ 4096 ∧ RetV (.int (A.dot d v)) H Q
def sp_step_dots (c : Cs) : Sp := fun vs H Q _ => ∃ (a : Addr) (A : Si28.Axis) (d : Nat), vs = [.ref a, .int (d : Int)] ∧ AxAt c H a A ∧ AxOk A ∧ d ≤ 4096 ∧ RetL (nV (dotsOf A d)) H Q
def sp_good_steps : Sp := fun vs H Q _ => vs = [] ∧ RetL (nV steps) H Q
def sp_between : Sp := fun vs H Q _ => ∃ l h s : Int, vs = [.int l, .int h, .int s] ∧ 0 < s ∧ s ≤ 5 * 10 ^ 55 ∧ RetV (.int (btw l h s)) H Q
def sp_axis_of (c : Cs) : Sp := fun vs H Q _ => ∃ (a : Addr) (ns : List Int) (most : Nat), vs = [.ref a, .int (most : Int)] ∧ H a = some (.lst (nV ns)) ∧ Sm ns ∧ 2 ≤ most ∧ most ≤ 64 ∧ RetN (fun p H' => AxAt c H' p (axM ns most)) H Q
def allowed (l : Si28.Look) : Bool := decide (l.kind ≤ 4) && (decide (16 ≤ l.width) && decide (l.width ≤ 4096) && (decide (16 ≤ l.height) && decide (l.height ≤ 4096) && (decide (2 ≤ l.most) && decide (l.most ≤ 64))))
def sp_allowed (c : Cs) : Sp := fun vs H Q _ => ∃ (a : Addr) (l : Si28.Look), vs = [.ref a] ∧ LkAt c H a l ∧ RetV (.bl (allowed l)) H Q
def sp_band (c : Cs) : Sp := fun vs H Q _ => ∃ (a : Addr) (l : Si28.Look) (j n : Nat), vs = [.ref a, .int (j : Int), .int (n : Int)] ∧ LkAt c H a l ∧ LookOk l ∧ j ≤ 100000 ∧ 1 ≤ n ∧ n ≤ 100000 ∧ RetN (fun p H' => H' p = some (.tup [.int ((j * l.width / n : Nat) : Int), .int (((j + 1) * l.width / n : Nat) : Int)])) H Q
def sp_begin (c : Cs) : Sp := fun vs H Q _ => ∃ (a dx : Addr) (fs : List (Str × V)), vs = [.ref a] ∧ H a = some (.ins c.ch dx fs) ∧ (fs = [] ∨ ∃ x y, fs = f_ch x y) ∧ RetM c a Si28.init H Q
def sp_columns (c : Cs) : Sp := fun vs H Q _ => ∃ (a : Addr) (s : St) (n : Nat), vs = [.ref a] ∧ ChAt c H a s ∧ RowsOk n s.series ∧ RetV (.int (n : Int)) H Q
def sp_number_at (c : Cs) : Sp := fun vs H Q _ => ∃ (a : Addr) (s : St) (n i j : Nat), vs = [.ref a, .int (i : Int), .int (j : Int)] ∧ ChAt c H a s ∧ RowsOk n s.series ∧ RetV (oV (s.chart.at_ i j)) H Q
def sp_axis (al : Bool) (c : Cs) : Sp := fun vs H Q _ => ∃ (a : Addr) (s : St) (n : Nat), vs = [.ref a] ∧ ChAt c H a s ∧ RowsOk n s.series ∧ LookOk s.look ∧ RetN (fun p H' => AxAt c H' p (s.chart.axis al)) H Q
def small36 (z : Int) : Bool := !decide (10 ^ 36 ≤ (if z < 0 then -z else z))
def rowOk (n : Nat) (r : Series) : Bool := decide (r.length = n) && (r.filterMap id).all small36
def rowsOk (n : Nat) (rs : List Series) : Bool := decide (1 ≤ n) && decide (n ≤ 512) && (decide (1 ≤ rs.length) && decide (rs.length ≤ 16)) && rs.all (rowOk n)
def sp_are_rows : Sp := fun vs H Q _ => ∃ (p : Addr) (n : Nat) (rs : List Series), vs = [.int (n : Int), .ref p] ∧ RowsAt H p rs ∧ (rs.length ≤ 10000 ∧ ∀ r ∈ rs, r.length ≤ 10000) ∧ RetV (.bl (rowsOk n rs)) H Q
def sp_there : Sp := fun vs H Q _ => ∃ (p : Addr) (r : Series), vs = [.ref p] ∧ H p = some (.lst (r.map oV)) ∧ r.length ≤ 10000 ∧ RetL (nV (r.filterMap id)) H Q
def sp_all_numbers : Sp := fun vs H Q _ => ∃ (p : Addr) (rs : List Series), vs = [.ref p] ∧ RowsAt H p rs ∧ (rs.length ≤ 16 ∧ ∀ r ∈ rs, r.length ≤ 512) ∧ RetL (nV (there rs)) H Q
def sp_sums : Sp := fun vs H Q _ => ∃ (p : Addr) (rs : List Series) (n : Nat), vs = [.ref p] ∧ RowsAt H p rs ∧ RowsOk n rs ∧ RetL (nV (sumsOf rs n)) H Q
def sp_upright_numbers : Sp := fun vs H Q _ => ∃ (p : Addr) (s : St), vs = [.int (s.look.kind : Int), .ref p] ∧ RowsAt H p s.series ∧ RowsOk s.chart.n s.series ∧ RetL (nV (upN s.chart)) H Q
def sp_Bars (c : Cs) : Sp := fun vs H Q _ => ∃ (p dx a : Addr) (s : St), vs = [.ref p, .ref a] ∧ H p = some (.ins c.ba dx []) ∧ ChAt c H a s ∧ RowsOk s.chart.n s.series ∧ LookOk s.look ∧ InitP c.ba p dx (fun fs H' => ∃ u, fs = f_ba (.ref a) (.ref u) ∧ AxAt c H' u (s.chart.axis false)) H Q
/-- of bars: the kind is 0 or 1 -/
structure BarsOk (s : St) : Prop where
  rows : RowsOk s.chart.n s.series
  look : LookOk s.look
  kind : s.look.kind ≤ 1
def baseM (C : Chart) (i j : Nat) (v : Int) : Int := if C.look.kind = 0 then 0 else C.before i j (decide (0 ≤ v))
def sp_base (c : Cs) : Sp := fun vs H Q _ => ∃ (b : Addr) (s : St) (i j : Nat) (v : Int), vs = [.ref b, .int (i : Int), .int (j : Int)] ∧ BaAt c H b s ∧ BarsOk s ∧ s.chart.at_ i j = some v ∧ RetV (.int (baseM s.chart i j v)) H Q
def sp_ends (c : Cs) : Sp := fun vs H Q _ => ∃ (b : Addr) (s : St) (i j : Nat) (r : Bar), vs = [.ref b, .int (i : Int), .int (j : Int)] ∧ BaAt c H b s ∧ BarsOk s ∧ s.chart.bar i j = some r ∧ RetL [.int r.y0, .int r.y1] H Q
def sp_sides (c : Cs) : Sp := fun vs H Q _ => ∃ (b : Addr) (s : St) (i j : Nat) (r : Bar), vs = [.ref b, .int (i : Int), .int (j : Int)] ∧ BaAt c H b s ∧ BarsOk s ∧ s.chart.bar i j = some r ∧ RetL [.int r.x0, .int r.x1] H Q
/-- None, or a list -/
def RetO (o : Option (List Int)) (H : Hp) (Q : VK) : Prop := match o with
  | none => RetV .non H Q
  | some l => RetL (nV l) H Q
def barL (o : Option Bar) : Option (List Int) := o.map fun b => [b.x0, b.x1, b.y0, b.y1]
def sp_bar_place (c : Cs) : Sp := fun vs H Q _ => ∃ (b : Addr) (s : St) (i j : Nat), vs = [.ref b, .int (i : Int), .int (j : Int)] ∧ BaAt c H b s ∧ BarsOk s ∧ RetO (barL (s.chart.bar i j)) H Q
def sp_bar_within (c : Cs) : Sp := fun vs H Q _ => ∃ (b : Addr) (s : St) (j : Nat) (x y : Int), vs = [.ref b, .int (j : Int), .int x, .int y] ∧ BaAt c H b s ∧ BarsOk s ∧ RetO (((List.range s.series.length).find? fun i => barHas s.chart x y i j).map fun (i : Nat) => [(i : Int), (j : Int)]) H Q
def pairL (o : Option (Nat × Nat)) : Option (List Int) := o.map fun a => [(a.1 : Int), (a.2 : Int)]
def sp_bar_at (c : Cs) : Sp := fun vs H Q _ => ∃ (b : Addr) (s : St) (x y : Int), vs = [.ref b, .int x, .int y] ∧ BaAt c H b s ∧ BarsOk s ∧ RetO (pairL (s.chart.click x y)) H Q
structure PointsOk (s : St) : Prop where
  rows : RowsOk s.chart.n s.series
  look : LookOk s.look
  kind : s.look.kind = 2 ∨ s.look.kind = 3
def sp_column_dots (c : Cs) : Sp := fun vs H Q _ => ∃ (a : Addr) (s : St), vs = [.ref a] ∧ ChAt c H a s ∧ PointsOk s ∧ RetL ((alongs s.chart).map oV) H Q
def sp_Points (c : Cs) : Sp := fun vs H Q _ => ∃ (p dx a : Addr) (s : St), vs = [.ref p, .ref a] ∧ H p = some (.ins c.po dx []) ∧ ChAt c H a s ∧ PointsOk s ∧ InitP c.po p dx (fun fs H' => ∃ u l, fs = f_po (.ref a) (.ref u) (.int (if s.look.kind = 3 then 1 else 0)) (.ref l) ∧ AxAt c H' u (s.chart.axis false) ∧ H' l = some (.lst ((alongs s.chart).map oV))) H Q
def pointL (o : Option (Int × Int)) : Option (List Int) := o.map fun p => [p.1, p.2]
def sp_point_place (c : Cs) : Sp := fun vs H Q _ => ∃ (b : Addr) (s : St) (i j : Nat), vs = [.ref b, .int (i : Int), .int (j : Int)] ∧ PoAt c H b s ∧ PointsOk s ∧ RetO (pointL (s.chart.point i j)) H Q
def sp_point_at (c : Cs) : Sp := fun vs H Q _ => ∃ (b : Addr) (s : St) (x y : Int), vs = [.ref b, .int x, .int y] ∧ PoAt c H b s ∧ PointsOk s ∧ (-(2 ^ 40) ≤ x ∧ x ≤ 2 ^ 40) ∧ (-(2 ^ 40) ≤ y ∧ y ≤ 2 ^ 40) ∧ RetO (pairL (s.chart.click x y)) H Q
/-- a ring's parts -/
structure PartsOk (ps : List Int) : Prop where
  n : ps.length ≤ 512
  nn : ∀ x ∈ ps, 0 ≤ x ∧ x ≤ 10 ^ 36
def sp_Ring (c : Cs) : Sp := fun vs H Q _ => ∃ (p dx a l : Addr) (ps : List Int), vs = [.ref p, .ref a, .ref l] ∧ H p = some (.ins c.ri dx []) ∧ H a = some (.lst (nV ps)) ∧ PartsOk ps ∧ InitP c.ri p dx (fun fs H' => ∃ q, fs = f_ri (.ref l) (.ref q) ∧ H' q = some (.lst (nV (bounds ps)))) H Q
def ringL (ps : List Int) (i j : Nat) : Option (List Int) := if i = 0 ∧ j < ps.length then some [(ps.take j).sum, (ps.take (j + 1)).sum, ps.sum] else none
def sp_ring_place (c : Cs) : Sp := fun vs H Q _ => ∃ (b : Addr) (ps : List Int) (k : Si28.Look) (i j : Nat), vs = [.ref b, .int (i : Int), .int (j : Int)] ∧ RiAt c H b ps k ∧ PartsOk ps ∧ RetO (ringL ps i j) H Q
def sp_far : Sp := fun vs H Q _ => ∃ u v r : Int, vs = [.int u, .int v, .int r] ∧ (-(2 ^ 40) ≤ u ∧ u ≤ 2 ^ 40) ∧ (-(2 ^ 40) ≤ v ∧ v ≤ 2 ^ 40) ∧ (-(2 ^ 40) ≤ r ∧ r ≤ 2 ^ 40) ∧ RetV (.int (farM u v r)) H Q
def sp_ring_at (c : Cs) : Sp := fun vs H Q _ => ∃ (b : Addr) (s : St) (x y : Int), vs = [.ref b, .int x, .int y] ∧ RiAt c H b s.chart.parts s.look ∧ PartsOk s.chart.parts ∧ LookOk s.look ∧ s.look.kind = 4 ∧ s.chart.parts.length = s.chart.n ∧ (-(2 ^ 31) ≤ x ∧ x ≤ 2 ^ 31) ∧ (-(2 ^ 31) ≤ y ∧ y ≤ 2 ^ 31) ∧ RetO (pairL (s.chart.click x y)) H Q
def partsOf (r : Series) : List Int := r.map fun v => match v with
  | some z => max z 0
  | none => 0
def sp_ring_parts : Sp := fun vs H Q _ => ∃ (p : Addr) (r : Series), vs = [.ref p] ∧ H p = some (.lst (r.map oV)) ∧ r.length ≤ 512 ∧ RetL (nV (partsOf r)) H Q
def cutM (ps : List Int) (w : Nat) : List Int := ps.map fun z => z * w / ps.sum
def lostM (ps : List Int) (w : Nat) : List Int := ps.map fun z => z * w % ps.sum
def sharesM (ps : List Int) (w : Nat) : List Int := incr (cutM ps w) ((sortO ps.length (lostM ps w)).take ((w : Int) - (cutM ps w).sum).toNat)
def sp_shares_of (c : Cs) : Sp := fun vs H Q _ => ∃ (p : Addr) (ps : List Int) (w : Nat), vs = [.ref p, .int (w : Int)] ∧ H p = some (.lst (nV ps)) ∧ PartsOk ps ∧ 0 < ps.sum ∧ 1 ≤ w ∧ w ≤ 1000000 ∧ TabC c H ∧
  ∀ d H', FrT H d → LamX.ExtN H H' → TabC c H' → H' d = some (.lst (nV (sharesM ps w))) → Q (.ref d) H'
/-! ### the reader: p's list is l, i numbers are read -/
def sp_at_end (K : PySem.W.Frag) (c : Cs) : Sp := fun vs H Q _ => ∃ (b p : Addr) (l : List Int) (i : Nat), vs = [.ref b] ∧ ReAt c H b p i ∧ SqL K H p (nV l) ∧ RetV (.bl (decide (l.length ≤ i))) H Q
/-- the reader has gone on to i, all else is as it was -/
def RetR (c : Cs) (b p : Addr) (i : Nat) (v : V) (H : Hp) (Q : VK) : Prop := ∀ H', But b H H' → ReAt c H' b p i → Q v H'
def sp_take (K : PySem.W.Frag) (c : Cs) : Sp := fun vs H Q _ => ∃ (b p : Addr) (l : List Int) (i : Nat) (z : Int), vs = [.ref b] ∧ ReAt c H b p i ∧ SqL K H p (nV l) ∧ l[i]? = some z ∧ RetR c b p (i + 1) (.int z) H Q
def sp_take_list (K : PySem.W.Frag) (c : Cs) : Sp := fun vs H Q _ => ∃ (b p : Addr) (l : List Int) (i : Nat) (n : Nat), vs = [.ref b] ∧ ReAt c H b p i ∧ SqL K H p (nV l) ∧ l[i]? = some (n : Int) ∧ i + 1 + n ≤ l.length ∧
  ∀ q H', H q = none → But b H H' → ReAt c H' b p (i + 1 + n) → H' q = some (.lst (nV ((l.drop (i + 1)).take n))) → Q (.ref q) H'
/-- lists of numbers, one behind another -/
def NumsL (H : Hp) (ps : List Addr) (ls : List (List Int)) : Prop := ps.length = ls.length ∧ ∀ (i : Nat) q r, ps[i]? = some q → ls[i]? = some r → H q = some (.lst (nV r))
theorem NumsL.mono {H H' : Hp} {ps : List Addr} {ls : List (List Int)} (h : NumsL H ps ls) (e : Ex H H') : NumsL H' ps ls := ⟨h.1, fun i q r h1 h2 => e _ _ (h.2 i q r h1 h2)⟩
def sp_take_lists (K : PySem.W.Frag) (c : Cs) : Sp := fun vs H Q _ => ∃ (b p : Addr) (l : List Int) (i k : Nat) (ls : List (List Int)) (rest : List Int), vs = [.ref b] ∧ ReAt c H b p i ∧ SqL K H p (nV l) ∧ l[i]? = some (k : Int) ∧ PyFlat.rows k (l.drop (i + 1)) = some (ls, rest) ∧ l.length ≤ 100000 ∧
  ∀ q ps H', H q = none → But b H H' → ReAt c H' b p (l.length - rest.length) → H' q = some (.lst (ps.map V.ref)) → NumsL H' ps ls → Q (.ref q) H'
def sp_row_numbers : Sp := fun vs H Q _ => ∃ (p : Addr) (l : List Int) (r : Series), vs = [.ref p] ∧ H p = some (.lst (nV l)) ∧ Si28Neutral.values l = some r ∧ l.length ≤ 10000 ∧ RetL (r.map oV) H Q
/-! ### the calls: chart at a, given at g, lists at ls -/
def GivenAt (H : Hp) (g : Addr) (l : List Int) : Prop := H g = some (.lst (nV l))
def ListsAt (H : Hp) (q : Addr) (ls : List (List Int)) : Prop := ∃ ps : List Addr, H q = some (.lst (ps.map V.ref)) ∧ NumsL H ps ls
/-- what a call is, by its numbers -/
def ansL (s : St) (q : Si28.Call) : List Int := (Si28.step s q).2.code :: (Si28.step s q).2.out
/-- one of the calls: what of its numbers is the call q; the chart is told apart from the object at t -/
def sp_call (c : Cs) (of : List Int → List (List Int) → Si28.Call → Prop) : Sp := fun vs H Q _ => ∃ (a g ls t : Addr) (s : St) (l : List Int) (rs : List (List Int)) (q : Si28.Call), vs = [.ref a, .ref g, .ref ls] ∧ ChAt c (hide t H) a s ∧ (∃ xs, H t = some (.lst xs)) ∧ t ≠ a ∧ TabC c H ∧ Wf s ∧ GivenAt H g l ∧ ListsAt H ls rs ∧ a ≠ g ∧ a ≠ ls ∧ of l rs q ∧ RetC c a t (Si28.step s q).1 (ansL s q) H Q
def of_begins (_ : List Int) (_ : List (List Int)) (q : Si28.Call) : Prop := q = .begins
def of_data (l : List Int) (rs : List (List Int)) (q : Si28.Call) : Prop := ∃ (n : Nat) (ss : List Series), l = [(n : Int)] ∧ rs.mapM Si28Neutral.values = some ss ∧ rs.length ≤ 10000 ∧ (∀ r ∈ rs, r.length ≤ 10000) ∧ q = .data n ss
def of_look (l : List Int) (_ : List (List Int)) (q : Si28.Call) : Prop := ∃ k w h m : Nat, l = [(k : Int), (w : Int), (h : Int), (m : Int)] ∧ q = .look ⟨k, w, h, m⟩
def of_axis (l : List Int) (_ : List (List Int)) (q : Si28.Call) : Prop := ∃ w : Nat, l = [(w : Int)] ∧ q = .axis w
def of_place (l : List Int) (_ : List (List Int)) (q : Si28.Call) : Prop := ∃ i j : Nat, l = [(i : Int), (j : Int)] ∧ q = .place i j
def of_click (l : List Int) (_ : List (List Int)) (q : Si28.Call) : Prop := ∃ x y : Int, l = [x, y] ∧ (-(2 ^ 31) ≤ x ∧ x ≤ 2 ^ 31) ∧ (-(2 ^ 31) ≤ y ∧ y ≤ 2 ^ 31) ∧ q = .click x y
def of_shares (l : List Int) (_ : List (List Int)) (q : Si28.Call) : Prop := ∃ w : Nat, l = [(w : Int)] ∧ q = .shares w
/-! ### the lambda -/
theorem lam_sc : LamSc ⟨.function, [("column", .local), ("losses", .free)], false, false, []⟩ "losses" "column" := by
  refine ⟨rfl, rfl, rfl, fun y hy => ?_, by decide +kernel, by decide +kernel⟩
  rcases List.mem_cons.mp hy with z | hy
  · rw [z]; decide
  · rw [List.mem_singleton.mp hy]; decide
def lamArgs (q : Pos) : Arguments := { posonlyargs := [], args := [{ arg := "column", annotation := none, pos := q : PySem.Arg }], vararg := none, kwonlyargs := [], kw_defaults := [], kwarg := none, defaults := [] : PySem.Arguments }
theorem lam_bind (q : Pos) (qual : Str) (body : Expr) (cl : List (Str × Addr)) (pm cv ctv v : Value) : bindArgs (PySem.W.kla_fn "<lambda>" qual (lamArgs q) body ⟨.function, [("column", .local), ("losses", .free)], false, false, []⟩ cl pm cv ctv) ⟨[v], []⟩ = pure [(("column" : Str), v)] := rfl
end DC
/-! # D. More words for readings -/
namespace DC
open PySem PySem.Spec PyProof.Rows L2 Evl
section
variable {K : PySem.W.Frag} {σ : L2.St} {H H' : Hp} {ta tb te to tx : TE} {t u : TT} {x y z v : V} {r : R2} {a C dx : Addr} {fs : List (Str × V)} {P : Addr → Hp → Prop} {D : Ends} {tu tw tz : TS} {g : TG}
theorem q_fldV {f : Str} (hv : Ev te σ H v) (ho : Ev to σ H (.ref a)) (h : H a = some (.ins C dx fs)) (c : Cls K C) (n : NoAttr K C f) (hz : fs.length < 1000) (k : ∀ H1, Ex H H1 → H1 a = some (.ins C dx fs) → tz D σ (upd H1 a (.ins C dx (putF f v fs)))) : tSeq (sFld K to te f) tz D σ H := s_fldV (D := { D with nx := tz D }) hv ho h c n hz k
theorem q_fldN {f : Str} (hv : EvN te σ H P) (ho : Ev to σ H (.ref a)) (h : H a = some (.ins C dx fs)) (c : Cls K C) (n : NoAttr K C f) (hz : fs.length < 1000) (k : ∀ p H1 H2, H p = none → Ex H H1 → P p H1 → Ex H1 H2 → H2 a = some (.ins C dx fs) → tz D σ (upd H2 a (.ins C dx (putF f (.ref p) fs)))) : tSeq (sFld K to te f) tz D σ H := s_fldN (D := { D with nx := tz D }) hv ho h c n hz k
theorem q_retL {xs : List V} (h : EvL te σ H xs) (k : RetL xs H D.rt) : tSeq (tRet te) tz D σ H := s_retL (D := { D with nx := tz D }) h k
theorem q_retV (h : Ev te σ H v) (k : RetV v H D.rt) : tSeq (tRet te) tz D σ H := s_ret (D := { D with nx := tz D }) h k
/-- a value read in a larger heap -/
theorem RetV.at {Q : VK} (k : RetV v H Q) (e : Ex H H') : Q v H' := k H' e
theorem wb {i : Int} {n : Nat} (h : -(2 ^ n : Int) < i ∧ i < 2 ^ n) : i.natAbs < 2 ^ n := by
  have e : ((2 ^ n : Nat) : Int) = (2 : Int) ^ n := by simp
  omega
theorem init_but {p : Addr} (x : But p H H') : ∀ b o, H b = some o → b ≠ p → H' b = some o := x
theorem en_imp {P' : Addr → Hp → Prop} (h : EvN te σ H P) (i : ∀ p H2, P p H2 → P' p H2) : EvN te σ H P' := fun H1 e Q q => h H1 e Q fun p H2 hp e2 h2 => q p H2 hp e2 (i p H2 h2)
/-- an object, new or not -/
def EvR (te : TE) (σ : L2.St) (H : Hp) (P : Addr → Hp → Prop) : Prop := ∀ H1, Ex H H1 → ∀ Q : VK, (∀ p H2, Ex H1 H2 → P p H2 → Q (.ref p) H2) → te σ H1 Q
theorem er_ref {p : Addr} (h : Ev te σ H (.ref p)) (hP : ∀ H1, Ex H H1 → P p H1) : EvR te σ H P := fun H1 e _ q => h H1 e _ fun H2 e2 => q p H2 e2 (hP H2 (e.trans e2))
theorem er_new {xs : List V} (h : EvL te σ H xs) : EvR te σ H fun p H' => H' p = some (.lst xs) := fun H1 e _ q => h H1 e _ fun p H2 _ e2 h2 => q p H2 e2 h2
theorem er_if {b : Bool} (h : EvT t σ H b) (h1 : b = true → EvR ta σ H P) (h2 : b = false → EvR tb σ H P) : EvR (tIf t ta tb) σ H P := fun H1 e Q q => h H1 e _ fun H2 e2 => by
  cases b with
  | true =>
    show ta σ H2 Q
    exact h1 rfl H2 (e.trans e2) Q fun p H3 e3 => q p H3 (e2.trans e3)
  | false =>
    show tb σ H2 Q
    exact h2 rfl H2 (e.trans e2) Q fun p H3 e3 => q p H3 (e2.trans e3)
theorem q_asgR {i : Nat} (h : EvR te σ H P) (k : ∀ p H1, Ex H H1 → P p H1 → tz D (σ.set i (some (.ref p))) H1) : tSeq (tAsg te (gName i)) tz D σ H := h H (Ex.refl H) _ k
/-- a list of the def's own is handed back -/
theorem ret_ref {p : Addr} {xs : List V} (h : Ev te σ H' (.ref p)) (hp : H p = none) (x1 : Ex H H') (x2 : H' p = some (.lst xs)) (k : RetL xs H D.rt) : tRet te D σ H' := s_ret h fun H1 e => k p H1 hp (x1.trans e) (e _ _ x2)
/-- xs.extend(ys), ys new; xs.append(e): something behind -/
theorem q_extL {l : Addr} {xs ys : List V} (hl : H l = some (.lst xs)) (ha : Ev ta σ H (.ref l)) (h : EvL te σ H ys) (hz : xs.length + ys.length ≤ sizeLine) (k : ∀ H1, Ex H H1 → tz D σ (upd H1 l (.lst (xs ++ ys)))) :
    tSeq (tDrop (tBM K "list" rExtend ta (tCons te tNil))) tz D σ H := s_extL (D := { D with nx := tz D }) hl ha h hz k
theorem q_appB {l : Addr} {xs : List V} (hl : H l = some (.lst xs)) (ha : Ev ta σ H (.ref l)) (h : Ev te σ H v) (hz : xs.length < sizeLine) (k : ∀ H1, Ex H H1 → tz D σ (upd H1 l (.lst (xs ++ [v])))) :
    tSeq (tDrop (tBM K "list" rAppend ta (tCons te tNil))) tz D σ H := s_appB (D := { D with nx := tz D }) hl ha h hz k
/-- min(xs), max(xs) -/
theorem ev_min {p : Addr} {ns : List Int} (h : Ev ta σ H (.ref p)) (hx : H p = some (.lst (nV ns))) (hn : ns ≠ []) : Ev (tCB (rMin K) (tCons ta tNil)) σ H (.int (lo ns)) := fun H1 e Q q =>
  h H1 e _ fun H2 e2 => ⟨p, ns, rfl, sq_of (e2 _ _ (e _ _ hx)), List.length_pos_iff.mpr hn, fun m hm hb => by rw [← lo_is hm hb]; exact q H2 e2⟩
theorem ev_max {p : Addr} {ns : List Int} (h : Ev ta σ H (.ref p)) (hx : H p = some (.lst (nV ns))) (hn : ns ≠ []) : Ev (tCB (rMax K) (tCons ta tNil)) σ H (.int (hi ns)) := fun H1 e Q q =>
  h H1 e _ fun H2 e2 => ⟨p, ns, rfl, sq_of (e2 _ _ (e _ _ hx)), List.length_pos_iff.mpr hn, fun m hm hb => by rw [← hi_is hm hb]; exact q H2 e2⟩
theorem ev_minN {ns : List Int} (h : EvL ta σ H (nV ns)) (hn : ns ≠ []) : Ev (tCB (rMin K) (tCons ta tNil)) σ H (.int (lo ns)) := fun H1 e Q q =>
  h H1 e _ fun p H2 _ e2 h2 => ⟨p, ns, rfl, sq_of h2, List.length_pos_iff.mpr hn, fun m hm hb => by rw [← lo_is hm hb]; exact q H2 e2⟩
theorem ev_sumN {ns : List Int} (h : EvL ta σ H (nV ns)) : Ev (tCB (rSum K) (tCons ta tNil)) σ H (.int ns.sum) := fun H1 e Q q =>
  h H1 e _ fun p H2 _ e2 h2 => ⟨p, ns, rfl, sq_of h2, q H2 e2⟩
theorem ev_sum {p : Addr} {ns : List Int} (h : Ev ta σ H (.ref p)) (hx : H p = some (.lst (nV ns))) : Ev (tCB (rSum K) (tCons ta tNil)) σ H (.int ns.sum) := fun H1 e Q q =>
  h H1 e _ fun H2 e2 => ⟨p, ns, rfl, sq_of (e2 _ _ (e _ _ hx)), q H2 e2⟩
/-- a list's truth -/
theorem et_list {p : Addr} {xs : List V} (h : Ev te σ H (.ref p)) (hx : H p = some (.lst xs)) : EvT (tTru K te) σ H (!xs.isEmpty) := et_tru h fun H1 e => Or.inl ⟨xs, sq_of (e _ _ hx), rfl⟩
/-! ### comprehensions over ints, by filter and map -/
theorem given_filter {α : Type} (f : α → Bool) (w : α → V) : ∀ (xs : List α) (g : Nat → Bool) (v : Nat → V), (∀ i x, xs[i]? = some x → g i = f x ∧ (f x = true → v i = w x)) → given xs.length g v = (xs.filter f).map w := by
  have key : ∀ (xs : List α) (g : Nat → Bool) (v : Nat → V), (∀ i x, xs[i]? = some x → g i = f x ∧ (f x = true → v i = w x)) → ∀ n, n ≤ xs.length → given n g v = ((xs.take n).filter f).map w := fun xs g v h n => by
    induction n with
    | zero => intro _; rfl
    | succ n ih =>
      intro hn
      obtain ⟨x, hx⟩ : ∃ x, xs[n]? = some x := ⟨_, List.getElem?_eq_getElem (by omega)⟩
      rw [take_more hx, List.filter_append, List.map_append, ← ih (by omega)]
      obtain ⟨h1, h2⟩ := h n x hx
      cases c : f x with
      | true => rw [given_yes (by rw [h1, c]), h2 c, List.filter_cons_of_pos c] <;> rfl
      | false =>
        rw [given_no (by rw [h1, c]), List.filter_cons_of_neg (by rw [c]; decide)]
        exact (List.append_nil _).symm
  intro xs g v h
  have := key xs g v h xs.length (Nat.le_refl _)
  rw [List.take_length] at this
  exact this
theorem given_map {α : Type} (w : α → V) (xs : List α) (v : Nat → V) (h : ∀ i x, xs[i]? = some x → v i = w x) : given xs.length (fun _ => true) v = xs.map w := by
  rw [given_filter (fun _ => true) w xs (fun _ => true) v fun i x hx => ⟨rfl, fun _ => h i x hx⟩, List.filter_eq_self.mpr fun _ _ => rfl]
theorem given_range (w : Nat → V) (n : Nat) : given n (fun _ => true) w = (List.range n).map w := by
  unfold given
  rw [List.filter_eq_self.mpr fun _ _ => rfl]
/-- [e(x) for x in xs if t(x)], xs told by xs' : List α and how each lies -/
theorem el_lcF {α : Type} {p : Addr} {tl : TE} {j : Nat} {vs : List Nat} (m : α → V) (xs : List α) (f : α → Bool) (w : α → V) (h : Ev tl σ H (.ref p)) (hx : H p = some (.lst (xs.map m))) (hz : xs.length ≤ 40000) (hw : ∀ x, wipe ((wipe σ vs).set j (some x)) vs = wipe σ vs)
    (ht : ∀ (x : α) H1, x ∈ xs → Ex H H1 → EvT t ((wipe σ vs).set j (some (m x))) H1 (f x)) (he : ∀ (x : α) H1, x ∈ xs → Ex H H1 → f x = true → Ev te ((wipe σ vs).set j (some (m x))) H1 (w x)) :
    EvL (tLc (iList K tl) (gName j) t te vs) σ H ((xs.filter f).map w) := by
  have go : ∀ {i : Nat} {x : V}, (xs.map m)[i]? = some x → ∃ y, xs[i]? = some y ∧ x = m y := fun {i x} hi => by
    rw [List.getElem?_map] at hi
    cases e : xs[i]? with
    | none => rw [e] at hi; cases hi
    | some y => rw [e] at hi; exact ⟨y, rfl, (Option.some.inj hi).symm⟩
  have r := el_lcL (K := K) (t := t) (te := te) (fun i => match xs[i]? with | some y => f y | none => false) (fun i => match xs[i]? with | some y => w y | none => .non) h (sq_of hx) (by rw [List.length_map]; exact hz) hw
    (fun i x H1 e hi => by
      obtain ⟨y, hy, rfl⟩ := go hi
      show EvT t _ H1 (match xs[i]? with | some y => f y | none => false)
      rw [hy]
      exact ht y H1 (List.mem_of_getElem? hy) e)
    (fun i x H1 e hi hf => by
      obtain ⟨y, hy, rfl⟩ := go hi
      have hf : (match xs[i]? with | some y => f y | none => false) = true := hf
      show Ev te _ H1 (match xs[i]? with | some y => w y | none => .non)
      rw [hy] at hf ⊢
      exact he y H1 (List.mem_of_getElem? hy) e hf)
  rw [List.length_map] at r
  rw [given_filter f w xs _ _ fun i x hx => by
    show (match xs[i]? with | some y => f y | none => false) = f x ∧ (f x = true → (match xs[i]? with | some y => w y | none => .non) = w x)
    rw [hx]
    exact ⟨rfl, fun _ => rfl⟩] at r
  exact r
/-- .. over a new list -/
theorem el_lcFN {α : Type} {tl : TE} {j : Nat} {vs : List Nat} (m : α → V) (xs : List α) (f : α → Bool) (w : α → V) (h : EvL tl σ H (xs.map m)) (hz : xs.length ≤ 40000) (hw : ∀ x, wipe ((wipe σ vs).set j (some x)) vs = wipe σ vs)
    (ht : ∀ (x : α) H1, x ∈ xs → Ex H H1 → EvT t ((wipe σ vs).set j (some (m x))) H1 (f x)) (he : ∀ (x : α) H1, x ∈ xs → Ex H H1 → f x = true → Ev te ((wipe σ vs).set j (some (m x))) H1 (w x)) :
    EvL (tLc (iList K tl) (gName j) t te vs) σ H ((xs.filter f).map w) := by
  have go : ∀ {i : Nat} {x : V}, (xs.map m)[i]? = some x → ∃ y, xs[i]? = some y ∧ x = m y := fun {i x} hi => by
    rw [List.getElem?_map] at hi
    cases e : xs[i]? with
    | none => rw [e] at hi; cases hi
    | some y => rw [e] at hi; exact ⟨y, rfl, (Option.some.inj hi).symm⟩
  have r := el_lcNL (K := K) (t := t) (te := te) (fun i => match xs[i]? with | some y => f y | none => false) (fun i => match xs[i]? with | some y => w y | none => .non) h (by rw [List.length_map]; exact hz) hw
    (fun i x H1 e hi => by
      obtain ⟨y, hy, rfl⟩ := go hi
      show EvT t _ H1 (match xs[i]? with | some y => f y | none => false)
      rw [hy]
      exact ht y H1 (List.mem_of_getElem? hy) e)
    (fun i x H1 e hi hf => by
      obtain ⟨y, hy, rfl⟩ := go hi
      have hf : (match xs[i]? with | some y => f y | none => false) = true := hf
      show Ev te _ H1 (match xs[i]? with | some y => w y | none => .non)
      rw [hy] at hf ⊢
      exact he y H1 (List.mem_of_getElem? hy) e hf)
  rw [List.length_map] at r
  rw [given_filter f w xs _ _ fun i x hx => by
    show (match xs[i]? with | some y => f y | none => false) = f x ∧ (f x = true → (match xs[i]? with | some y => w y | none => .non) = w x)
    rw [hx]
    exact ⟨rfl, fun _ => rfl⟩] at r
  exact r
/-- [e(k) for k in range(n)] -/
theorem el_lcR {ta : TA} {j : Nat} {vs : List Nat} (n : Nat) (w : Nat → V) (h : EvA ta σ H [.int (n : Int)]) (hn : n ≤ 40000) (hw : ∀ x, wipe ((wipe σ vs).set j (some x)) vs = wipe σ vs)
    (he : ∀ (i : Nat) H1, Ex H H1 → i < n → Ev te ((wipe σ vs).set j (some (.int (i : Int)))) H1 (w i)) :
    EvL (tLc (iRng1 ta) (gName j) tYes te vs) σ H ((List.range n).map w) := by
  have r := el_lcR1 (t := tYes) (te := te) (fun _ => true) w h (by omega) hw (fun i H1 e _ => et_yes) (fun i H1 e hi _ => he i H1 e (by omega))
  rw [show ((n : Int)).toNat = n by omega, given_range] at r
  exact r
theorem el_is {xs ys : List V} (h : EvL te σ H xs) (e : xs = ys) : EvL te σ H ys := by
  rw [← e]
  exact h
theorem nV_len (l : List Int) : (nV l).length = l.length := List.length_map _
theorem nV_get {l : List Int} {i : Nat} {z : Int} (h : l[i]? = some z) : (nV l)[i]? = some (.int z) := by
  unfold nV
  rw [List.getElem?_map, h] <;> rfl
end
end DC
namespace DC
open PySem PySem.Spec PyProof.Rows L2 Evl
section
variable {K : PySem.W.Frag} {σ : L2.St} {H H' : Hp} {ta tb te to tx : TE} {t u : TT} {x y z v : V} {r : R2} {a C dx : Addr} {fs : List (Str × V)} {P : Addr → Hp → Prop} {D : Ends} {tu tw tz : TS} {g : TG}
theorem sz16 {n : Nat} (h : n ≤ 16777216) : n ≤ sizeLine := by
  have : sizeLine = 16777216 := by decide
  omega
theorem sz16l {n : Nat} (h : n < 16777216) : n < sizeLine := by
  have : sizeLine = 16777216 := by decide
  omega
/-- xs + ys, both new -/
theorem el_cat {xs ys : List V} (ha : EvL ta σ H xs) (hb : EvL tb σ H ys) (hz : xs.length + ys.length ≤ 16777216) : EvL (tOp rCat ta tb) σ H (xs ++ ys) := fun H1 e Q q =>
  ha H1 e _ fun p H2 hp e2 h2 => hb H2 (e.trans e2) _ fun w H3 hw e3 h3 => ⟨p, w, xs, ys, rfl, rfl, e3 _ _ h2, h3, sz16 hz, fun d hd => q d _ (fresh_back (e2.trans e3) hd) ((e2.trans e3).trans (Ex.new hd)) upd_same⟩
/-- xs + ys, ys held -/
theorem el_catR {xs ys : List V} {b : Addr} (ha : EvL ta σ H xs) (hb : Ev tb σ H (.ref b)) (h : H b = some (.lst ys)) (hz : xs.length + ys.length ≤ 16777216) : EvL (tOp rCat ta tb) σ H (xs ++ ys) := fun H1 e Q q =>
  ha H1 e _ fun p H2 hp e2 h2 => hb H2 (e.trans e2) _ fun H3 e3 => ⟨p, b, xs, ys, rfl, rfl, e3 _ _ h2, e3 _ _ (e2 _ _ (e _ _ h)), sz16 hz, fun d hd => q d _ (fresh_back (e2.trans e3) hd) ((e2.trans e3).trans (Ex.new hd)) upd_same⟩
theorem cutV_from (xs : List V) (k : Nat) : cutV xs (some (k : Int)) none = xs.drop k := by
  unfold cutV
  rw [HT.sIx_nat, HT.sIx_none]
  by_cases h : k ≤ xs.length
  · rw [Nat.min_eq_left h]
    exact List.take_of_length_le (by rw [List.length_drop]; omega)
  · rw [Nat.min_eq_right (by omega), List.drop_of_length_le (Nat.le_refl _), List.drop_of_length_le (by omega)]
    simp
theorem cutV_to (xs : List V) (k : Nat) : cutV xs none (some (k : Int)) = xs.take k := by
  unfold cutV
  rw [HT.sIx_nat, HT.sIx_none]
  show (xs.drop 0).take (min k xs.length - 0) = _
  rw [List.drop_zero, Nat.sub_zero]
  by_cases h : k ≤ xs.length
  · rw [Nat.min_eq_left h]
  · rw [Nat.min_eq_right (by omega), List.take_length, List.take_of_length_le (by omega)]
theorem cutV_mid (xs : List V) (j k : Nat) (h : j + k ≤ xs.length) : cutV xs (some (j : Int)) (some ((j + k : Nat) : Int)) = (xs.drop j).take k := by
  unfold cutV
  rw [HT.sIx_nat, HT.sIx_nat, Nat.min_eq_left h, Nat.min_eq_left (show j ≤ xs.length by omega)]
  congr 1
  omega
/-- a new list handed to a call that gives a value, a list, an object -/
theorem RowsL.drop {ps : List Addr} {rs : List Series} (h : RowsL H ps rs) (k : Nat) : RowsL H (ps.drop k) (rs.drop k) := ⟨by rw [List.length_drop, List.length_drop, h.1], fun i q r h1 h2 => by
  rw [List.getElem?_drop] at h1 h2
  exact h.2 _ q r h1 h2⟩
theorem RowsL.take {ps : List Addr} {rs : List Series} (h : RowsL H ps rs) (k : Nat) : RowsL H (ps.take k) (rs.take k) := ⟨by rw [List.length_take, List.length_take, h.1], fun i q r h1 h2 => by
  by_cases c : i < k
  · rw [List.getElem?_take_of_lt c] at h1 h2
    exact h.2 _ q r h1 h2
  · rw [List.getElem?_take_eq_none (by omega)] at h1
    cases h1⟩
theorem RowsL.of {ps : List Addr} {rs : List Series} (h : RowsL H ps rs) {i : Nat} {x : V} (hx : (ps.map V.ref)[i]? = some x) : ∃ q r, x = .ref q ∧ ps[i]? = some q ∧ rs[i]? = some r ∧ H q = some (.lst (r.map oV)) := by
  rw [List.getElem?_map] at hx
  cases e : ps[i]? with
  | none => rw [e] at hx; cases hx
  | some q =>
    rw [e] at hx
    have hi : i < rs.length := by
      rw [← h.1]
      exact (List.getElem?_eq_some_iff.mp e).1
    have hr : rs[i]? = some rs[i] := List.getElem?_eq_getElem hi
    exact ⟨q, rs[i], (Option.some.inj hx).symm, rfl, hr, h.2 i q _ e hr⟩
/-- [e(row) for row in rows] -/
theorem el_lcRows {tl : TE} {j : Nat} {vs : List Nat} {p : Addr} {ps : List Addr} {rs : List Series} (w : Series → V) (h : Ev tl σ H (.ref p)) (hx : H p = some (.lst (ps.map V.ref))) (hr : RowsL H ps rs) (hz : rs.length ≤ 40000) (hw : ∀ x, wipe ((wipe σ vs).set j (some x)) vs = wipe σ vs)
    (he : ∀ (q : Addr) (r : Series) H1, r ∈ rs → Ex H H1 → H1 q = some (.lst (r.map oV)) → Ev te ((wipe σ vs).set j (some (.ref q))) H1 (w r)) :
    EvL (tLc (iList K tl) (gName j) tYes te vs) σ H (rs.map w) := by
  have r := el_lcL (K := K) (t := tYes) (te := te) (fun _ => true) (fun i => match rs[i]? with | some y => w y | none => .non) h (sq_of hx) (by rw [List.length_map, hr.1]; exact hz) hw (fun i x H1 e hi => et_yes)
    (fun i x H1 e hi _ => by
      obtain ⟨q, r, rfl, h1, h2, h3⟩ := hr.of hi
      show Ev te _ H1 (match rs[i]? with | some y => w y | none => .non)
      rw [h2]
      exact he q r H1 (List.mem_of_getElem? h2) e (e _ _ h3))
  rw [List.length_map, hr.1, given_map w rs _ fun i x hx => by
    show (match rs[i]? with | some y => w y | none => .non) = w x
    rw [hx]] at r
  exact r
/-- .. where the rows are a new list -/
theorem el_lcRowsN {tl : TE} {j : Nat} {vs : List Nat} {ps : List Addr} {rs : List Series} (w : Series → V) (h : EvL tl σ H (ps.map V.ref)) (hr : RowsL H ps rs) (hz : rs.length ≤ 40000) (hw : ∀ x, wipe ((wipe σ vs).set j (some x)) vs = wipe σ vs)
    (he : ∀ (q : Addr) (r : Series) H1, r ∈ rs → Ex H H1 → H1 q = some (.lst (r.map oV)) → Ev te ((wipe σ vs).set j (some (.ref q))) H1 (w r)) :
    EvL (tLc (iList K tl) (gName j) tYes te vs) σ H (rs.map w) := by
  have r := el_lcNL (K := K) (t := tYes) (te := te) (fun _ => true) (fun i => match rs[i]? with | some y => w y | none => .non) h (by rw [List.length_map, hr.1]; exact hz) hw (fun i x H1 e hi => et_yes)
    (fun i x H1 e hi _ => by
      obtain ⟨q, r, rfl, h1, h2, h3⟩ := hr.of hi
      show Ev te _ H1 (match rs[i]? with | some y => w y | none => .non)
      rw [h2]
      exact he q r H1 (List.mem_of_getElem? h2) e (e _ _ h3))
  rw [List.length_map, hr.1, given_map w rs _ fun i x hx => by
    show (match rs[i]? with | some y => w y | none => .non) = w x
    rw [hx]] at r
  exact r
/-- None, or a new list -/
def EvQ (te : TE) (σ : L2.St) (H : Hp) (o : Option (List Int)) : Prop := ∀ H1, Ex H H1 → ∀ Q : VK, RetO o H1 Q → te σ H1 Q
def SpO (sp : Sp) (vs : List V) (H : Hp) (o : Option (List Int)) : Prop := ∀ H1, Ex H H1 → ∀ Q : VK, RetO o H1 Q → ∀ E : XK, sp vs H1 Q E
theorem RetO.up {o : Option (List Int)} {Q : VK} (k : RetO o H Q) (e : Ex H H') : RetO o H' Q := by
  cases o with
  | none => exact RetV.up (v := .non) k e
  | some l => exact RetL.up (xs := nV l) k e
theorem eq_meth {m : Str} {sp : Sp} {vs : List V} {tr : TA} {o : Option (List Int)} (h : Ev to σ H (.ref a)) (ho : H a = some (.ins C dx fs)) (hm : fs.lookup m = none) (ha : EvA tr σ H vs) (hs : SpO sp (.ref a :: vs) H o) : EvQ (tMeth C m sp [] E0 to tr) σ H o := fun H1 e Q q =>
  h H1 e _ fun H2 e2 => ⟨a, dx, fs, rfl, e2 _ _ (e _ _ ho), hm, ha H2 (e.trans e2) _ fun H3 e3 => by
    rw [List.append_nil]
    exact hs H3 ((e.trans e2).trans e3) Q (q.up (e2.trans e3)) E0⟩
theorem q_asgQ {i : Nat} {o : Option (List Int)} (h : EvQ te σ H o) (k0 : o = none → ∀ H1, Ex H H1 → tz D (σ.set i (some .non)) H1) (k1 : ∀ l, o = some l → ∀ p H1, H p = none → Ex H H1 → H1 p = some (.lst (nV l)) → tz D (σ.set i (some (.ref p))) H1) : tSeq (tAsg te (gName i)) tz D σ H := by
  refine h H (Ex.refl H) _ ?_
  cases o with
  | none => exact fun H1 e => k0 rfl H1 e
  | some l => exact fun p H1 hp e h1 => k1 l rfl p H1 hp e h1
theorem s_retQ {o : Option (List Int)} (h : EvQ te σ H o) (k : RetO o H D.rt) : tRet te D σ H := h H (Ex.refl H) _ k
theorem RetO.non {o : Option (List Int)} {Q : VK} (k : RetO o H Q) (e : o = none) : RetV .non H Q := by
  rw [e] at k
  exact k
theorem RetO.lst {o : Option (List Int)} {l : List Int} {Q : VK} (k : RetO o H Q) (e : o = some l) : RetL (nV l) H Q := by
  rw [e] at k
  exact k
theorem oV_non {o : Option Int} : decide (oV o = V.non) = o.isNone := by
  cases o with
  | none => rfl
  | some z => exact decide_eq_false fun e => by cases e
/-- what stands beside an instance without fields stands when it gets some -/
theorem but_raw {p q C dx : Addr} {o : HO} (hp : H p = some (.ins C dx [])) (x : But p H H') (h : H q = some o) (n : ∀ C dx, o ≠ .ins C dx []) : H' q = some o := x q o h (ne_of h hp (n _ _))
theorem raw_l {xs : List V} : ∀ C dx, HO.lst xs ≠ .ins C dx [] := fun _ _ z => by cases z
theorem raw_f {C dx : Addr} {f : Str} {v : V} {fs : List (Str × V)} : ∀ C' dx', HO.ins C dx ((f, v) :: fs) ≠ .ins C' dx' [] := fun _ _ z => by cases z
theorem AxAt.but {c : Cs} {p a C dx : Addr} {A : Si28.Axis} (h : AxAt c H a A) (hp : H p = some (.ins C dx [])) (x : But p H H') : AxAt c H' a A := by
  obtain ⟨dx, h⟩ := h
  exact ⟨dx, but_raw hp x h raw_f⟩
theorem LkAt.but {c : Cs} {p a C dx : Addr} {l : Si28.Look} (h : LkAt c H a l) (hp : H p = some (.ins C dx [])) (x : But p H H') : LkAt c H' a l := by
  obtain ⟨dx, h⟩ := h
  exact ⟨dx, but_raw hp x h raw_f⟩
theorem RowsAt.but {p a C dx : Addr} {rs : List Series} (h : RowsAt H a rs) (hp : H p = some (.ins C dx [])) (x : But p H H') : RowsAt H' a rs := by
  obtain ⟨ps, h1, h2⟩ := h
  exact ⟨ps, but_raw hp x h1 raw_l, h2.1, fun i q r e1 e2 => but_raw hp x (h2.2 i q r e1 e2) raw_l⟩
theorem ChAt.but {c : Cs} {p a C dx : Addr} {s : St} (h : ChAt c H a s) (hp : H p = some (.ins C dx [])) (x : But p H H') : ChAt c H' a s := by
  obtain ⟨dx, pr, pl, h1, h2, h3⟩ := h
  exact ⟨dx, pr, pl, but_raw hp x h1 raw_f, h2.but hp x, h3.but hp x⟩
theorem perm_sum {l k : List Int} (h : l.Perm k) : l.sum = k.sum := by
  induction h with
  | nil => rfl
  | cons x _ ih => rw [List.sum_cons, List.sum_cons, ih]
  | swap x y l =>
    simp only [List.sum_cons]
    omega
  | trans _ _ a b => rw [a, b]
theorem sort2 {p q : Int} {l : List Int} (h : l.Perm [p, q]) (hs : l.Pairwise (· ≤ ·)) : l = [min p q, max p q] := by
  match l, h.length_eq with
  | [x, y], _ => 
    have hx : x ≤ y := by
      have := (List.pairwise_cons.mp hs).1 y (List.mem_cons_self)
      exact this
    have m1 := h.mem_iff (a := p)
    have m2 := h.mem_iff (a := q)
    have m3 := h.mem_iff (a := x)
    have m4 := h.mem_iff (a := y)
    have sm : x + y = p + q := by
      have := perm_sum h
      simpa using this
    simp at m1 m2 m3 m4
    have a : x = min p q := by omega
    have b : y = max p q := by omega
    rw [a, b]
/-- sorted([p, q]) -/
theorem el_sort2 {p q : Int} (h : EvL ta σ H [.int p, .int q]) : EvL (tCB (rSortedI K) (tCons ta tNil)) σ H [.int (min p q), .int (max p q)] := fun H1 e Q k =>
  h H1 e _ fun d H2 hd e2 h2 => ⟨d, [p, q], rfl, sq_of h2, fun ns w hp hs hw => by
    have := sort2 hp hs
    subst this
    exact k w _ (fresh_back e2 hw) (e2.trans (Ex.new hw)) upd_same⟩
theorem ev_sumT {ns : List Int} (h : EvN ta σ H fun p H' => H' p = some (.tup (nV ns))) : Ev (tCB (rSumT K) (tCons ta tNil)) σ H (.int ns.sum) := fun H1 e Q q =>
  h H1 e _ fun p H2 _ e2 h2 => ⟨p, ns, rfl, st_of h2, q H2 e2⟩
/-- a call whose first argument is a new object -/
theorem el_callN {sp : Sp} {vs xs : List V} {tr : TA} (h : EvN ta σ H P) (hr : EvA tr σ H vs) (hs : ∀ p H1, P p H1 → Ex H H1 → ∀ H2, Ex H1 H2 → ∀ Q : VK, (∀ p' H3, H2 p' = none → Ex H2 H3 → H3 p' = some (.lst xs) → Q (.ref p') H3) → ∀ E : XK, sp (.ref p :: vs) H2 Q E) : EvL (tCall sp [] E0 (tCons ta tr)) σ H xs := fun H1 e Q q =>
  h H1 e _ fun p H2 hp e2 h2 => hr H2 (e.trans e2) _ fun H3 e3 => by
    show sp ((V.ref p :: vs) ++ []) H3 Q E0
    rw [List.append_nil]
    exact hs p H2 h2 (e.trans e2) H3 e3 Q (fun p' H4 hp' e4 h4 => q p' H4 (fresh_back (e2.trans e3) hp') ((e2.trans e3).trans e4) h4) E0
theorem en_impE {P' : Addr → Hp → Prop} (h : EvN te σ H P) (i : ∀ p H2, Ex H H2 → P p H2 → P' p H2) : EvN te σ H P' := fun H1 e Q q => h H1 e Q fun p H2 hp e2 h2 => q p H2 hp e2 (i p H2 (e.trans e2) h2)
/-- a new instance, its first argument a new list -/
theorem en_makePL {P : List (Str × V) → Hp → Prop} {sp : Sp} {vs xs : List V} {tr : TA} (h : EvL ta σ H xs) (hr : EvA tr σ H vs) (hs : ∀ (w : Addr) (H1 : Hp), H1 w = some (.lst xs) → Ex H H1 → ∀ (H2 : Hp) (p dx : Addr), Ex H1 H2 → H2 p = some (.ins C dx []) → ∀ Q : VK, InitP C p dx P H2 Q → ∀ E : XK, sp (.ref p :: .ref w :: vs) H2 Q E) :
    EvN (tMake C sp [] E0 (tCons ta tr)) σ H fun p H2 => ∃ dx fs, H2 p = some (.ins C dx fs) ∧ P fs H2 := fun H1 e Q q =>
  h H1 e _ fun w H2 hw e2 h2 => hr H2 (e.trans e2) _ fun H3 e3 x dx nx nd ne => by
    have e4 : Ex H3 (upd (upd H3 dx (.own x)) x (.ins C dx [])) := fun b o hb => by
      rw [upd_ne (ne_of_none hb nx), upd_ne (ne_of_none hb nd)]
      exact hb
    show sp (V.ref x :: ((V.ref w :: vs) ++ [])) _ _ _
    rw [List.append_nil]
    refine hs w H2 h2 (e.trans e2) _ x dx (e3.trans e4) upd_same _ (fun H' fs h' hP k => ⟨rfl, ?_⟩) E0
    exact q x H' (fresh_back (e2.trans e3) nx) ((e2.trans e3).trans (Same.made nx nd k)) ⟨dx, fs, h', hP⟩
theorem eu_is {xs ys : List V} (h : EvU te σ H xs) (e : xs = ys) : EvN te σ H fun p H' => H' p = some (.tup ys) := by
  rw [← e]
  exact h
theorem en_l {xs : List V} (h : EvL te σ H xs) : EvN te σ H fun p H' => H' p = some (.lst xs) := h
theorem ev_abs {i : Int} (h : Ev ta σ H (.int i)) : Ev (tCB rAbs (tCons ta tNil)) σ H (.int (if i < 0 then -i else i)) := ev_cb1 h fun H1 _ _ q => ⟨i, rfl, q H1 (Ex.refl H1)⟩
theorem ev_anyN {bs : List Bool} (h : EvL ta σ H (bs.map V.bl)) : Ev (tCB (rAny K) (tCons ta tNil)) σ H (.bl (bs.any id)) := fun H1 e Q q =>
  h H1 e _ fun p H2 _ e2 h2 => ⟨p, bs, rfl, sq_of h2, q H2 e2⟩
theorem bl_eq {a b : Bool} (h : a = true ↔ b = true) : V.bl a = V.bl b := congrArg V.bl (Bool.eq_iff_iff.mpr h)
theorem nV_app (l k : List Int) : nV l ++ nV k = nV (l ++ k) := (List.map_append).symm
theorem oV_get {r : Series} {i : Nat} {o : Option Int} (h : r[i]? = some o) : (r.map oV)[i]? = some (oV o) := by
  rw [List.getElem?_map, h] <;> rfl
theorem ref_get {ps : List Addr} {i : Nat} {q : Addr} (h : ps[i]? = some q) : (ps.map V.ref)[i]? = some (.ref q) := by
  rw [List.getElem?_map, h] <;> rfl
/-- the first row -/
theorem RowsOk.head {n : Nat} {rs : List Series} (o : RowsOk n rs) : ∃ r, rs[0]? = some r ∧ r ∈ rs ∧ r.length = n ∧ rs.headD [] = r := by
  cases rs with
  | nil => exact absurd rfl o.k1
  | cons r rs => exact ⟨r, rfl, List.mem_cons_self, o.len r List.mem_cons_self, rfl⟩
theorem RowsOk.n_is {n : Nat} {s : St} (o : RowsOk n s.series) : s.chart.n = n := by
  obtain ⟨r, _, _, h, e⟩ := o.head
  show (s.series.headD []).length = n
  rw [e, h]
end
end DC
namespace DC
open PySem PySem.Spec PyProof.Rows L2 Evl
/-! Look.__init__: level 1 -/
abbrev s_Look_init : Stmt := inClass (top 11) 0
theorem sc_Look_init : FnScope ["self", "kind", "wide", "high", "steps"] ["self", "kind", "wide", "high", "steps"] (defScope s_Look_init) := ⟨rfl, rfl, rfl, by decide +kernel, rfl, by decide +kernel, by decide +kernel⟩
def t_Look_init (K : PySem.W.Frag) (c : Cs) : TS :=
    (tSeq (sFld K (tVar 0) (tVar 1) "kind")
    (tSeq (sFld K (tVar 0) (tVar 2) "wide")
    (tSeq (sFld K (tVar 0) (tVar 3) "high")
    (sFld K (tVar 0) (tVar 4) "steps"))))
theorem der_Look_init {P : Program} {w : World} {K : PySem.W.Frag} {mg : Str → Option Value} {base : Heap} {c : Cs} (T : Txt K mg c)
    {f : Addr} {cdv : Value} {A : Around} {outer : List Env} {s : Shared} {H : Hp} {E : XK}  (hr : Room 0 (A.deeper (envOfC "Look.__init__" (defScope s_Look_init) s.heap.objs.size f cdv))) :
    PSs (cxOf CX0 P w K mg base ["self", "kind", "wide", "high", "steps"] "Look.__init__" (defScope s_Look_init) f cdv A outer s H E).nox (defBody s_Look_init) (t_Look_init K c) :=
    (pss_cons (ps_fld (pv 0) (pv 1) rfl)
      (pss_cons (ps_fld (pv 0) (pv 2) rfl)
      (pss_cons (ps_fld (pv 0) (pv 3) rfl)
      (pss_one (ps_fld (pv 0) (pv 4) rfl)))))
end DC
namespace DC
open PySem PySem.Spec PyProof.Rows L2 Evl
/-! Look.is_allowed: level 1 -/
abbrev s_Look_is_allowed : Stmt := inClass (top 11) 1
theorem sc_Look_is_allowed : FnScope ["self"] ["self"] (defScope s_Look_is_allowed) := ⟨rfl, rfl, rfl, by decide +kernel, rfl, by decide +kernel, by decide +kernel⟩
def t_Look_is_allowed (K : PySem.W.Frag) (c : Cs) : TS :=
    (tSeq (tIfS (tTest (tOp (rIn K true) (tFld K (tVar 0) "kind") (tTup (tCons (tC (.int 0)) (tCons (tC (.int 1)) (tCons (tC (.int 2)) (tCons (tC (.int 3)) (tCons (tC (.int 4)) tNil)))))))) (tRet (tC (.bl false))) tNext)
    (tRet (tAndV (tChain rLe rLe (tC (.int 16)) (tFld K (tVar 0) "wide") (tC (.int 4096))) (tAndV (tChain rLe rLe (tC (.int 16)) (tFld K (tVar 0) "high") (tC (.int 4096))) (tChain rLe rLe (tC (.int 2)) (tFld K (tVar 0) "steps") (tC (.int 64)))))))
theorem der_Look_is_allowed {P : Program} {w : World} {K : PySem.W.Frag} {mg : Str → Option Value} {base : Heap} {c : Cs} (T : Txt K mg c)
    {f : Addr} {cdv : Value} {A : Around} {outer : List Env} {s : Shared} {H : Hp} {E : XK}  (hr : Room 0 (A.deeper (envOfC "Look.is_allowed" (defScope s_Look_is_allowed) s.heap.objs.size f cdv))) :
    PSs (cxOf CX0 P w K mg base ["self"] "Look.is_allowed" (defScope s_Look_is_allowed) f cdv A outer s H E).nox (defBody s_Look_is_allowed) (t_Look_is_allowed K c) :=
    (pss_cons (ps_if (pt_cmpR op_notIn_seq (pe_fld (pv 0) rfl) (pe_tup (pa_cons (C8.pe_gc (v := .int 0) (by rfl) T.gSIDE_BY_SIDE) (pa_cons (C8.pe_gc (v := .int 1) (by rfl) T.gSTACKED) (pa_cons (C8.pe_gc (v := .int 2) (by rfl) T.gLINES) (pa_cons (C8.pe_gc (v := .int 3) (by rfl) T.gPOINTS) (pa_cons (C8.pe_gc (v := .int 4) (by rfl) T.gRING) pa_nil)))))) (by rfl)) (pss_one (ps_ret pe_bl)) pss_nil)
      (pss_one (ps_ret (pe_and (pe_chain op_le op_le pe_int (pe_fld (pv 0) rfl) pe_int) (pe_and (pe_chain op_le op_le pe_int (pe_fld (pv 0) rfl) pe_int) (pe_one (pe_chain op_le op_le pe_int (pe_fld (pv 0) rfl) pe_int)))))))
end DC
namespace DC
open PySem PySem.Spec PyProof.Rows L2 Evl
/-! Look.band_of: level 1 -/
abbrev s_Look_band_of : Stmt := inClass (top 11) 2
theorem sc_Look_band_of : FnScope ["self", "column", "columns"] ["self", "column", "columns"] (defScope s_Look_band_of) := ⟨rfl, rfl, rfl, by decide +kernel, rfl, by decide +kernel, by decide +kernel⟩
def t_Look_band_of (K : PySem.W.Frag) (c : Cs) : TS :=
    (tRet (tTup (tCons (tOp rDiv (tOp rMul (tVar 1) (tFld K (tVar 0) "wide")) (tVar 2)) (tCons (tOp rDiv (tOp rMul (tOp rAdd (tVar 1) (tC (.int 1))) (tFld K (tVar 0) "wide")) (tVar 2)) tNil))))
theorem der_Look_band_of {P : Program} {w : World} {K : PySem.W.Frag} {mg : Str → Option Value} {base : Heap} {c : Cs} (T : Txt K mg c)
    {f : Addr} {cdv : Value} {A : Around} {outer : List Env} {s : Shared} {H : Hp} {E : XK}  (hr : Room 0 (A.deeper (envOfC "Look.band_of" (defScope s_Look_band_of) s.heap.objs.size f cdv))) :
    PSs (cxOf CX0 P w K mg base ["self", "column", "columns"] "Look.band_of" (defScope s_Look_band_of) f cdv A outer s H E).nox (defBody s_Look_band_of) (t_Look_band_of K c) :=
    (pss_one (ps_ret (pe_tup (pa_cons (pe_op op_fdivW (pe_op op_mulW (pv 1) (pe_fld (pv 0) rfl)) (pv 2)) (pa_cons (pe_op op_fdivW (pe_op op_mulW (pe_op op_add (pv 1) pe_int) (pe_fld (pv 0) rfl)) (pv 2)) pa_nil)))))
end DC
namespace DC
open PySem PySem.Spec PyProof.Rows L2 Evl
/-! Chart.__init__: level 4 -/
abbrev s_Chart_init : Stmt := inClass (top 13) 0
theorem sc_Chart_init : FnScope ["self"] ["self"] (defScope s_Chart_init) := ⟨rfl, rfl, rfl, by decide +kernel, rfl, by decide +kernel, by decide +kernel⟩
def t_Chart_init (K : PySem.W.Frag) (c : Cs) (p_Chart_begin_anew : Sp) : TS :=
    (tDrop (tMeth c.ch "begin_anew" p_Chart_begin_anew [] E0 (tVar 0) tNil))
theorem der_Chart_init {P : Program} {w : World} {K : PySem.W.Frag} {mg : Str → Option Value} {base : Heap} {c : Cs} {p_Chart_begin_anew : Sp} (T : Txt K mg c)
    (c_Chart_begin_anew : C8.Met P w K mg base 3 c.ch "begin_anew" p_Chart_begin_anew [])
    {f : Addr} {cdv : Value} {A : Around} {outer : List Env} {s : Shared} {H : Hp} {E : XK}  (hr : Room 3 (A.deeper (envOfC "Chart.__init__" (defScope s_Chart_init) s.heap.objs.size f cdv))) :
    PSs (cxOf CX0 P w K mg base ["self"] "Chart.__init__" (defScope s_Chart_init) f cdv A outer s H E).nox (defBody s_Chart_init) (t_Chart_init K c p_Chart_begin_anew) :=
    (pss_one (ps_expr (C8.pe_mt0 c_Chart_begin_anew hr (by decide) (pv 0))))
end DC
namespace DC
open PySem PySem.Spec PyProof.Rows L2 Evl
/-! Chart.begin_anew: level 3 -/
abbrev s_Chart_begin_anew : Stmt := inClass (top 13) 1
theorem sc_Chart_begin_anew : FnScope ["self"] ["self"] (defScope s_Chart_begin_anew) := ⟨rfl, rfl, rfl, by decide +kernel, rfl, by decide +kernel, by decide +kernel⟩
def t_Chart_begin_anew (K : PySem.W.Frag) (c : Cs) (p_Look : Sp) : TS :=
    (tSeq (sFld K (tVar 0) (tLst tNil) "rows")
    (sFld K (tVar 0) (tMake c.lk p_Look [] E0 (tCons (tC (.int 0)) (tCons (tC (.int 16)) (tCons (tC (.int 16)) (tCons (tC (.int 10)) tNil))))) "look"))
theorem der_Chart_begin_anew {P : Program} {w : World} {K : PySem.W.Frag} {mg : Str → Option Value} {base : Heap} {c : Cs} {p_Look : Sp} (T : Txt K mg c)
    (c_Look : C8.Mak P w K mg base 1 "Look" c.lk p_Look [])
    {f : Addr} {cdv : Value} {A : Around} {outer : List Env} {s : Shared} {H : Hp} {E : XK}  (hr : Room 2 (A.deeper (envOfC "Chart.begin_anew" (defScope s_Chart_begin_anew) s.heap.objs.size f cdv))) :
    PSs (cxOf CX0 P w K mg base ["self"] "Chart.begin_anew" (defScope s_Chart_begin_anew) f cdv A outer s H E).nox (defBody s_Chart_begin_anew) (t_Chart_begin_anew K c p_Look) :=
    (pss_cons (ps_fld (pv 0) (pe_lst pa_nil) rfl)
      (pss_one (ps_fld (pv 0) (C8.pe_mk c_Look hr (by decide) (by rfl) (pa_cons (C8.pe_gc (v := .int 0) (by rfl) T.gSIDE_BY_SIDE) (pa_cons pe_int (pa_cons pe_int (pa_cons pe_int pa_nil))))) rfl)))
end DC
namespace DC
open PySem PySem.Spec PyProof.Rows L2 Evl
/-! Chart.columns: level 1 -/
abbrev s_Chart_columns : Stmt := inClass (top 13) 2
theorem sc_Chart_columns : FnScope ["self"] ["self"] (defScope s_Chart_columns) := ⟨rfl, rfl, rfl, by decide +kernel, rfl, by decide +kernel, by decide +kernel⟩
def t_Chart_columns (K : PySem.W.Frag) (c : Cs) : TS :=
    (tRet (tCB (rLenS K) (tCons (tOp (rIxL K) (tFld K (tVar 0) "rows") (tC (.int 0))) tNil)))
theorem der_Chart_columns {P : Program} {w : World} {K : PySem.W.Frag} {mg : Str → Option Value} {base : Heap} {c : Cs} (T : Txt K mg c)
    {f : Addr} {cdv : Value} {A : Around} {outer : List Env} {s : Shared} {H : Hp} {E : XK}  (hr : Room 0 (A.deeper (envOfC "Chart.columns" (defScope s_Chart_columns) s.heap.objs.size f cdv))) :
    PSs (cxOf CX0 P w K mg base ["self"] "Chart.columns" (defScope s_Chart_columns) f cdv A outer s H E).nox (defBody s_Chart_columns) (t_Chart_columns K c) :=
    (pss_one (ps_ret (pe_callB call_len_seq (by rfl) T.n_len b_len (pa_cons (pe_ix ix_list (pe_fld (pv 0) rfl) pe_int (fun _ _ => rfl)) pa_nil))))
end DC
namespace DC
open PySem PySem.Spec PyProof.Rows L2 Evl
/-! Chart.number_at: level 2 -/
abbrev s_Chart_number_at : Stmt := inClass (top 13) 3
theorem sc_Chart_number_at : FnScope ["self", "row", "column"] ["self", "row", "column"] (defScope s_Chart_number_at) := ⟨rfl, rfl, rfl, by decide +kernel, rfl, by decide +kernel, by decide +kernel⟩
def t_Chart_number_at (K : PySem.W.Frag) (c : Cs) (p_Chart_columns : Sp) : TS :=
    (tSeq (tIfS (tOr (tTest (tOp rGe (tVar 1) (tCB (rLenS K) (tCons (tFld K (tVar 0) "rows") tNil)))) (tTest (tOp rGe (tVar 2) (tMeth c.ch "columns" p_Chart_columns [] E0 (tVar 0) tNil)))) (tRet (tC .non)) tNext)
    (tRet (tOp (rIxL K) (tOp (rIxL K) (tFld K (tVar 0) "rows") (tVar 1)) (tVar 2))))
theorem der_Chart_number_at {P : Program} {w : World} {K : PySem.W.Frag} {mg : Str → Option Value} {base : Heap} {c : Cs} {p_Chart_columns : Sp} (T : Txt K mg c)
    (c_Chart_columns : C8.Met P w K mg base 1 c.ch "columns" p_Chart_columns [])
    {f : Addr} {cdv : Value} {A : Around} {outer : List Env} {s : Shared} {H : Hp} {E : XK}  (hr : Room 1 (A.deeper (envOfC "Chart.number_at" (defScope s_Chart_number_at) s.heap.objs.size f cdv))) :
    PSs (cxOf CX0 P w K mg base ["self", "row", "column"] "Chart.number_at" (defScope s_Chart_number_at) f cdv A outer s H E).nox (defBody s_Chart_number_at) (t_Chart_number_at K c p_Chart_columns) :=
    (pss_cons (ps_if (PW.pt (pw_or (pt_cmpR op_ge (pv 1) (pe_callB call_len_seq (by rfl) T.n_len b_len (pa_cons (pe_fld (pv 0) rfl) pa_nil)) (nomark _)) (pw_or1 (pt_cmpR op_ge (pv 2) (C8.pe_mt0 c_Chart_columns hr (by decide) (pv 0)) (nomark _))))) (pss_one (ps_ret pe_non)) pss_nil)
      (pss_one (ps_ret (pe_ix ix_list (pe_ix ix_list (pe_fld (pv 0) rfl) (pv 1) (fun _ _ => rfl)) (pv 2) (fun _ _ => rfl)))))
end DC
namespace DC
open PySem PySem.Spec PyProof.Rows L2 Evl
section
variable {K : PySem.W.Frag} {mg : Str → Option Value} {c : Cs} {vs : List V} {H : Hp} {Q : VK} {E : XK}
theorem pure_Look_init (T : Txt K mg c) (h : sp_Look c vs H Q E) : t_Look_init K c { nx := fun _ H' => Q .non H', rt := Q } (start ["self", "kind", "wide", "high", "steps"] vs) H := by
  obtain ⟨p, dx, x0, x1, x2, x3, rfl, hp, k⟩ := h
  refine q_fldV (ev_var rfl) (ev_var rfl) hp T.c_lk T.a_lk_kind (show 0 < 1000 by decide) fun H1 e1 _ => ?_
  rw [i_lk_kind]
  refine q_fldV (ev_var rfl) (ev_var rfl) upd_same T.c_lk T.a_lk_wide (show 1 < 1000 by decide) fun H2 e2 _ => ?_
  rw [i_lk_wide]
  refine q_fldV (ev_var rfl) (ev_var rfl) upd_same T.c_lk T.a_lk_high (show 2 < 1000 by decide) fun H3 e3 _ => ?_
  rw [i_lk_high]
  refine s_fldV (ev_var rfl) (ev_var rfl) upd_same T.c_lk T.a_lk_steps (show 3 < 1000 by decide) fun H4 e4 _ => ?_
  rw [i_lk_steps]
  exact k _ upd_same (((((But.ex e1).trans But.upd).trans ((But.ex e2).trans But.upd)).trans ((But.ex e3).trans But.upd)).trans ((But.ex e4).trans But.upd))
theorem use_Look {x0 x1 x2 x3 : V} : ∀ (H1 : Hp) (p dx : Addr), Ex H H1 → H p = none → H1 p = some (.ins c.lk dx []) → ∀ Q : VK, Init c.lk p dx (f_lk x0 x1 x2 x3) H1 Q → ∀ E : XK, sp_Look c (.ref p :: [x0, x1, x2, x3]) H1 Q E := fun _ p dx _ _ h _ k _ => ⟨p, dx, x0, x1, x2, x3, rfl, h, k⟩
theorem in5 (k : Nat) : inV (.int (k : Int)) [.int 0, .int 1, .int 2, .int 3, .int 4] = decide (k ≤ 4) := by
  rw [Bool.eq_iff_iff]
  show ((0 : Int) == (k : Int) || ((1 : Int) == (k : Int) || ((2 : Int) == (k : Int) || ((3 : Int) == (k : Int) || ((4 : Int) == (k : Int) || false))))) = true ↔ _
  simp only [Bool.or_eq_true, beq_iff_eq, decide_eq_true_eq, Bool.false_eq_true, or_false]
  omega
theorem pure_Look_is_allowed (T : Txt K mg c) (h : sp_allowed c vs H Q E) : t_Look_is_allowed K c { nx := fun _ H' => Q .non H', rt := Q } (start ["self"] vs) H := by
  obtain ⟨a, l, rfl, ⟨dx, ho⟩, k⟩ := h
  refine q_when (et_test (ev_niU (ev_fld (ev_var rfl) ho T.c_lk T.a_lk_kind l_lk_kind) (eu_tup (ea_cons ev_c (ea_cons ev_c (ea_cons ev_c (ea_cons ev_c (ea_cons ev_c ea_nil))))) (by decide)) rfl rfl)) (fun hb H1 e => ?_) fun hb H1 e => ?_
  · refine ret_v ev_c ?_
    rw [in5] at hb
    have z : allowed l = false := by
      unfold allowed
      cases q : decide (l.kind ≤ 4) with
      | true => rw [q] at hb; cases hb
      | false => rfl
    rw [z] at k
    exact RetV.up k e
  · rw [in5] at hb
    have q : l.kind ≤ 4 := by
      by_cases q : l.kind ≤ 4
      · exact q
      · rw [decide_eq_false q] at hb; cases hb
    have h1 := e _ _ ho
    refine ret_v (ev_is (ev_andV (ev_leLe ev_c (ev_fld (ev_var rfl) h1 T.c_lk T.a_lk_wide l_lk_wide) ev_c) fun _ => ev_andV (ev_leLe ev_c (ev_fld (ev_var rfl) h1 T.c_lk T.a_lk_high l_lk_high) ev_c) fun _ => ev_leLe ev_c (ev_fld (ev_var rfl) h1 T.c_lk T.a_lk_steps l_lk_steps) ev_c) (bl_eq ?_)) (RetV.up k e)
    unfold allowed
    simp only [Bool.and_eq_true, decide_eq_true_eq]
    omega
theorem use_allowed {a : Addr} {l : Si28.Look} (h : LkAt c H a l) : SpV (sp_allowed c) [.ref a] H (.bl (allowed l)) := fun _ e _ q _ => ⟨a, l, rfl, h.mono e, q⟩
theorem pure_Look_band_of (T : Txt K mg c) (h : sp_band c vs H Q E) : t_Look_band_of K c { nx := fun _ H' => Q .non H', rt := Q } (start ["self", "column", "columns"] vs) H := by
  obtain ⟨a, l, j, n, rfl, ⟨dx, ho⟩, ok, hj, n1, n2, k⟩ := h
  have w2 := ok.w2
  have b1 : ((j : Int)).natAbs < 2 ^ 20 := by omega
  have b2 : ((l.width : Int)).natAbs < 2 ^ 20 := by omega
  have b3 : ((n : Int)).natAbs < 2 ^ 20 := by omega
  have b4 : ((j : Int) + 1).natAbs < 2 ^ 20 := by omega
  refine ret_n (eu_is (eu_tup (ea_cons (ev_div (ev_mul (ev_var rfl) (ev_fld (ev_var rfl) ho T.c_lk T.a_lk_wide l_lk_wide) (wide_mul b1 b2 (by decide) (by decide) (by decide))) (ev_var rfl) (wide_div (by omega) b3 (by decide) (by decide)))
    (ea_cons (ev_div (ev_mul (ev_add (ev_var rfl) ev_c) (ev_fld (ev_var rfl) ho T.c_lk T.a_lk_wide l_lk_wide) (wide_mul b4 b2 (by decide) (by decide) (by decide))) (ev_var rfl) (wide_div (by omega) b3 (by decide) (by decide))) ea_nil)) (show 2 ≤ 100000 by decide)) ?_) k
  rw [Int.natCast_ediv, Int.natCast_ediv, Int.natCast_mul, Int.natCast_mul, Int.natCast_add] <;> rfl
theorem use_band {a : Addr} {l : Si28.Look} {j n : Nat} (h : LkAt c H a l) (ok : LookOk l) (hj : j ≤ 100000) (n1 : 1 ≤ n) (n2 : n ≤ 100000) : SpN (sp_band c) [.ref a, .int (j : Int), .int (n : Int)] H (fun p H' => H' p = some (.tup [.int ((j * l.width / n : Nat) : Int), .int (((j + 1) * l.width / n : Nat) : Int)])) := fun _ e _ q _ => ⟨a, l, j, n, rfl, h.mono e, ok, hj, n1, n2, q⟩
theorem pure_Chart_begin_anew (T : Txt K mg c) (h : sp_begin c vs H Q E) : t_Chart_begin_anew K c (sp_Look c) { nx := fun _ H' => Q .non H', rt := Q } (start ["self"] vs) H := by
  obtain ⟨a, dx, fs, rfl, ho, hf, k⟩ := h
  obtain ⟨z, e0⟩ : ∃ z : V → List (Str × V), ∀ x, putF "rows" x fs = z x ∧ (z x).length < 1000 ∧ ∀ y, putF "look" y (z x) = f_ch x y := by
    rcases hf with rfl | ⟨u, w, rfl⟩
    · exact ⟨fun x => [("rows", x)], fun x => ⟨i_ch_rows, (show 1 < 1000 by decide), fun y => i_ch_look⟩⟩
    · exact ⟨fun x => f_ch x w, fun x => ⟨p_ch_rows, (show 2 < 1000 by decide), fun y => p_ch_look⟩⟩
  have hz : fs.length < 1000 := by
    rcases hf with rfl | ⟨u, w, rfl⟩
    · decide
    · exact (show 2 < 1000 by decide)
  refine q_fldN (en_l (el_lst ea_nil (by decide))) (ev_var rfl) ho T.c_ch T.a_ch_rows hz fun pr H1 H2 hpr e1 h1 e2 ho2 => ?_
  rw [(e0 _).1]
  have nA : a ≠ pr := ne_of_none ho hpr
  refine s_fldN (en_make (ea_cons ev_c (ea_cons ev_c (ea_cons ev_c (ea_cons ev_c ea_nil)))) use_Look) (ev_var rfl) upd_same T.c_ch T.a_ch_look (e0 _).2.1 fun pl H3 H4 hpl e3 ⟨dl, h3⟩ e4 ho4 => ?_
  rw [(e0 _).2.2]
  have hq : H4 pr = some (.lst []) := by
    refine e4 _ _ (e3 _ _ ?_)
    rw [upd_ne (fun z => nA z.symm)]
    exact e2 _ _ h1
  have nL : pl ≠ a := fun z => by
    rw [z, upd_same] at hpl
    cases hpl
  have hpr4 : upd H4 a (.ins c.ch dx (f_ch (.ref pr) (.ref pl))) pr = some (.lst []) := by
    rw [upd_ne (fun z => nA z.symm)]
    exact hq
  have hpl4 : upd H4 a (.ins c.ch dx (f_ch (.ref pr) (.ref pl))) pl = some (.ins c.lk dl (f_lk (.int 0) (.int 16) (.int 16) (.int 10))) := by
    rw [upd_ne nL]
    exact e4 _ _ h3
  refine k _ ((((But.ex (e1.trans e2)).trans But.upd).trans (But.ex (e3.trans e4))).trans But.upd) ⟨dx, pr, pl, upd_same, ⟨[], hpr4, rfl, fun i q r h1 => (by cases h1)⟩, dl, hpl4⟩ fun t o ht nt => ?_
  have n1 : pr ≠ t := fun z => by rw [z, ht] at hpr; cases hpr
  have n2 : pl ≠ t := fun z => by
    rw [z, upd_ne nt, (e1.trans e2) _ _ ht] at hpl
    cases hpl
  exact ⟨dx, pr, pl, hide_of (fun z => nt z.symm) upd_same, ⟨[], hide_of n1 hpr4, rfl, fun i q r h1 => (by cases h1)⟩, dl, hide_of n2 hpl4⟩
theorem pure_Chart_init (h : ∃ p dx, vs = [V.ref p] ∧ H p = some (.ins c.ch dx []) ∧ RetM c p Si28.init H Q) : t_Chart_init K c (sp_begin c) { nx := fun _ H' => Q .non H', rt := Q } (start ["self"] vs) H := by
  obtain ⟨p, dx, rfl, hp, k⟩ := h
  exact ⟨_, rfl, p, dx, [], rfl, hp, rfl, p, dx, [], rfl, hp, Or.inl rfl, k⟩
theorem row0 {c : Cs} (T : Txt K mg c) {σ : L2.St} {a : Addr} {s : St} {n : Nat} {to : TE} (ho : Ev to σ H (.ref a)) (h : ChAt c H a s) (o : RowsOk n s.series) : ∃ q r, s.series[0]? = some r ∧ r.length = n ∧ H q = some (.lst (r.map oV)) ∧ Ev (tOp (rIxL K) (tFld K to "rows") (tC (.int 0))) σ H (.ref q) := by
  obtain ⟨dx, pr, pl, h1, ⟨ps, h2, h3⟩, h4⟩ := h
  obtain ⟨r, hr, _, hl, _⟩ := o.head
  obtain ⟨q, hq, h5⟩ := RowsAt.row h3 hr
  exact ⟨q, r, hr, hl, h5, ev_ixL (ev_fld ho h1 T.c_ch T.a_ch_rows l_ch_rows) ev_c (sq_of h2) (atI_nat (j := 0) (ref_get hq))⟩
theorem pure_Chart_columns (T : Txt K mg c) (h : sp_columns c vs H Q E) : t_Chart_columns K c { nx := fun _ H' => Q .non H', rt := Q } (start ["self"] vs) H := by
  obtain ⟨a, s, n, rfl, hc, o, k⟩ := h
  obtain ⟨q, r, hr, hl, h5, he⟩ := row0 T (σ := start ["self"] [V.ref a]) (ev_var (i := 0) rfl) hc o
  refine ret_v (ev_is (ev_len he (sq_of h5)) ?_) k
  rw [List.length_map, hl]
theorem use_columns {a : Addr} {s : St} {n : Nat} (h : ChAt c H a s) (o : RowsOk n s.series) : SpV (sp_columns c) [.ref a] H (.int (n : Int)) := fun _ e _ q _ => ⟨a, s, n, rfl, h.mono e, o, q⟩
theorem pure_Chart_number_at (T : Txt K mg c) (h : sp_number_at c vs H Q E) : t_Chart_number_at K c (sp_columns c) { nx := fun _ H' => Q .non H', rt := Q } (start ["self", "row", "column"] vs) H := by
  obtain ⟨a, s, n, i, j, rfl, hc, o, k⟩ := h
  have hc' := hc
  obtain ⟨dx, pr, pl, h1, ⟨ps, h2, h3⟩, h4⟩ := hc
  refine q_when (et_or (et_test (ev_ge (ev_var rfl) (ev_len (ev_fld (ev_var rfl) h1 T.c_ch T.a_ch_rows l_ch_rows) (sq_of h2)))) fun _ => et_test (ev_ge (ev_var rfl) (ev_meth (ev_var rfl) h1 m_ch_columns ea_nil (use_columns hc' o)))) (fun hb H1 e => ?_) fun hb H1 e => ?_
  · have z : s.chart.at_ i j = none := by
      rw [Bool.or_eq_true, decide_eq_true_eq, decide_eq_true_eq, List.length_map, h3.1] at hb
      refine at_out ?_
      rcases hb with hb | hb
      · exact Or.inl (by show s.series.length ≤ i; omega)
      · exact Or.inr fun r hr => by rw [o.len r hr]; omega
    rw [z] at k
    exact ret_v ev_c (RetV.up k e)
  · rw [Bool.or_eq_false_iff, decide_eq_false_iff_not, decide_eq_false_iff_not, List.length_map, h3.1] at hb
    obtain ⟨r, hr⟩ : ∃ r, s.series[i]? = some r := ⟨_, List.getElem?_eq_getElem (by omega)⟩
    have hl := o.len r (List.mem_of_getElem? hr)
    obtain ⟨v, hv⟩ : ∃ v, r[j]? = some v := ⟨_, List.getElem?_eq_getElem (by omega)⟩
    obtain ⟨q, hq, h5⟩ := RowsAt.row h3 hr
    rw [at_of hr hv] at k
    exact ret_v (ev_ixL (ev_ixL (ev_fld (ev_var rfl) (e _ _ h1) T.c_ch T.a_ch_rows l_ch_rows) (ev_var rfl) (sq_of (e _ _ h2)) (atI_nat (ref_get hq))) (ev_var rfl) (sq_of (e _ _ h5)) (atI_nat (oV_get hv))) (RetV.up k e)
theorem use_number_at {a : Addr} {s : St} {n i j : Nat} (h : ChAt c H a s) (o : RowsOk n s.series) : SpV (sp_number_at c) [.ref a, .int (i : Int), .int (j : Int)] H (oV (s.chart.at_ i j)) := fun _ e _ q _ => ⟨a, s, n, i, j, rfl, h.mono e, o, q⟩
end
end DC
namespace DC
open PySem PySem.Spec PyProof.Rows L2 Evl
/-! Axis.__init__: level 1 -/
abbrev s_Axis_init : Stmt := inClass (top 1) 0
theorem sc_Axis_init : FnScope ["self", "start", "step", "steps"] ["self", "start", "step", "steps"] (defScope s_Axis_init) := ⟨rfl, rfl, rfl, by decide +kernel, rfl, by decide +kernel, by decide +kernel⟩
def t_Axis_init (K : PySem.W.Frag) (c : Cs) : TS :=
    (tSeq (sFld K (tVar 0) (tVar 1) "start")
    (tSeq (sFld K (tVar 0) (tVar 2) "step")
    (sFld K (tVar 0) (tVar 3) "steps")))
theorem der_Axis_init {P : Program} {w : World} {K : PySem.W.Frag} {mg : Str → Option Value} {base : Heap} {c : Cs} (T : Txt K mg c)
    {f : Addr} {cdv : Value} {A : Around} {outer : List Env} {s : Shared} {H : Hp} {E : XK}  (hr : Room 0 (A.deeper (envOfC "Axis.__init__" (defScope s_Axis_init) s.heap.objs.size f cdv))) :
    PSs (cxOf CX0 P w K mg base ["self", "start", "step", "steps"] "Axis.__init__" (defScope s_Axis_init) f cdv A outer s H E).nox (defBody s_Axis_init) (t_Axis_init K c) :=
    (pss_cons (ps_fld (pv 0) (pv 1) rfl)
      (pss_cons (ps_fld (pv 0) (pv 2) rfl)
      (pss_one (ps_fld (pv 0) (pv 3) rfl))))
end DC
namespace DC
open PySem PySem.Spec PyProof.Rows L2 Evl
/-! Axis.dot_of: level 1 -/
abbrev s_Axis_dot_of : Stmt := inClass (top 1) 1
theorem sc_Axis_dot_of : FnScope ["self", "number", "dots", "span"] ["self", "number", "dots"] (defScope s_Axis_dot_of) := ⟨rfl, rfl, rfl, by decide +kernel, rfl, by decide +kernel, by decide +kernel⟩
def t_Axis_dot_of (K : PySem.W.Frag) (c : Cs) : TS :=
    (tSeq (tAsg (tOp rMul (tFld K (tVar 0) "steps") (tFld K (tVar 0) "step")) (gName 3))
    (tRet (tOp rDiv (tOp rAdd (tOp rMul (tOp rMul (tC (.int 2)) (tOp rSub (tVar 1) (tFld K (tVar 0) "start"))) (tOp rSub (tVar 2) (tC (.int 1)))) (tVar 3)) (tOp rMul (tC (.int 2)) (tVar 3)))))
theorem der_Axis_dot_of {P : Program} {w : World} {K : PySem.W.Frag} {mg : Str → Option Value} {base : Heap} {c : Cs} (T : Txt K mg c)
    {f : Addr} {cdv : Value} {A : Around} {outer : List Env} {s : Shared} {H : Hp} {E : XK}  (hr : Room 0 (A.deeper (envOfC "Axis.dot_of" (defScope s_Axis_dot_of) s.heap.objs.size f cdv))) :
    PSs (cxOf CX0 P w K mg base ["self", "number", "dots", "span"] "Axis.dot_of" (defScope s_Axis_dot_of) f cdv A outer s H E).nox (defBody s_Axis_dot_of) (t_Axis_dot_of K c) :=
    (pss_cons (ps_set (i := 3) sc_Axis_dot_of.nd rfl (Or.inl rfl) (pe_op op_mulW (pe_fld (pv 0) rfl) (pe_fld (pv 0) rfl)))
      (pss_one (ps_ret (pe_op op_fdivW (pe_op op_add (pe_op op_mulW (pe_op op_mulW pe_int (pe_op op_sub (pv 1) (pe_fld (pv 0) rfl))) (pe_op op_sub (pv 2) pe_int)) (pv 3)) (pe_op op_mulW pe_int (pv 3))))))
end DC
namespace DC
open PySem PySem.Spec PyProof.Rows L2 Evl
/-! Axis.step_dots: level 2 -/
abbrev s_Axis_step_dots : Stmt := inClass (top 1) 2
theorem sc_Axis_step_dots : FnScope ["self", "dots", "passed"] ["self", "dots"] (defScope s_Axis_step_dots) := ⟨rfl, rfl, rfl, by decide +kernel, rfl, by decide +kernel, by decide +kernel⟩
def t_Axis_step_dots (K : PySem.W.Frag) (c : Cs) (p_Axis_dot_of : Sp) : TS :=
    (tRet (tLc (iRng1 (tCons (tOp rAdd (tFld K (tVar 0) "steps") (tC (.int 1))) tNil)) (gName 2) tYes (tMeth c.ax "dot_of" p_Axis_dot_of [] E0 (tVar 0) (tCons (tOp rAdd (tFld K (tVar 0) "start") (tOp rMul (tVar 2) (tFld K (tVar 0) "step"))) (tCons (tVar 1) tNil))) [2]))
theorem der_Axis_step_dots {P : Program} {w : World} {K : PySem.W.Frag} {mg : Str → Option Value} {base : Heap} {c : Cs} {p_Axis_dot_of : Sp} (T : Txt K mg c)
    (c_Axis_dot_of : C8.Met P w K mg base 1 c.ax "dot_of" p_Axis_dot_of [])
    {f : Addr} {cdv : Value} {A : Around} {outer : List Env} {s : Shared} {H : Hp} {E : XK}  (hr : Room 1 (A.deeper (envOfC "Axis.step_dots" (defScope s_Axis_step_dots) s.heap.objs.size f cdv))) :
    PSs (cxOf CX0 P w K mg base ["self", "dots", "passed"] "Axis.step_dots" (defScope s_Axis_step_dots) f cdv A outer s H E).nox (defBody s_Axis_step_dots) (t_Axis_step_dots K c p_Axis_dot_of) :=
    (pss_one (ps_ret (pe_lc (own := [("passed", 2)]) (g := gName 2) (tt := tYes) (by rfl) sc_Axis_step_dots.nd (pi_range1 (by rfl) T.n_range (pa_cons (pe_op op_add (pe_fld (pv 0) rfl) pe_int) pa_nil)) (blkOk_by (own := [("passed", 2)]) (N := ["self", "dots", "passed"]) (sc := defScope s_Axis_step_dots) (by decide +kernel)) (fun _ _ _ _ _ => pg_name (i := 2) sc_Axis_step_dots.nd rfl (Or.inl rfl)) (fun _ _ _ _ _ => pts_nil) (fun _ _ _ _ _ => (C8.pe_mt c_Axis_dot_of hr (by decide) (pv 0) (pa_cons (pe_op op_add (pe_fld (pv 0) rfl) (pe_op op_mulW (pv 2) (pe_fld (pv 0) rfl))) (pa_cons (pv 1) pa_nil)))))))
end DC
namespace DC
open PySem PySem.Spec PyProof.Rows L2 Evl
/-! good_steps: level 1 -/
abbrev s_good_steps : Stmt := top 2
theorem sc_good_steps : FnScope ["steps", "power", "exponent"] [] (defScope s_good_steps) := ⟨rfl, rfl, rfl, by decide +kernel, rfl, by decide +kernel, by decide +kernel⟩
def t_good_steps (K : PySem.W.Frag) (c : Cs) : TS :=
    (tSeq (tAsg (tLst tNil) (gName 0))
    (tSeq (tAsg (tC (.int 1)) (gName 1))
    (tSeq (tFor (iRng1 (tCons (tC (.int 56)) tNil)) (gName 2) (tSeq (tDrop (tBM K "list" rExtend (tVar 0) (tCons (tLst (tCons (tVar 1) (tCons (tOp rMul (tC (.int 2)) (tVar 1)) (tCons (tOp rMul (tC (.int 5)) (tVar 1)) tNil)))) tNil)))
    (tAsg (tOp rMul (tVar 1) (tC (.int 10))) (gName 1))))
    (tRet (tVar 0)))))
theorem der_good_steps {P : Program} {w : World} {K : PySem.W.Frag} {mg : Str → Option Value} {base : Heap} {c : Cs} (T : Txt K mg c)
    {f : Addr} {cdv : Value} {A : Around} {outer : List Env} {s : Shared} {H : Hp} {E : XK}  (hr : Room 0 (A.deeper (envOfC "good_steps" (defScope s_good_steps) s.heap.objs.size f cdv))) :
    PSs (cxOf CX0 P w K mg base ["steps", "power", "exponent"] "good_steps" (defScope s_good_steps) f cdv A outer s H E).nox (defBody s_good_steps) (t_good_steps K c) :=
    (pss_cons (ps_set (i := 0) sc_good_steps.nd rfl (Or.inl rfl) (pe_lst pa_nil))
      (pss_cons (ps_set (i := 1) sc_good_steps.nd rfl (Or.inl rfl) pe_int)
      (pss_cons (ps_for PassesOwn.never rfl (pi_range1 (by rfl) T.n_range (pa_cons pe_int pa_nil)) (pg_name (i := 2) sc_good_steps.nd rfl (Or.inl rfl)) (pss_cons (ps_expr (pe_bm PySem.F.plainAttrs_list PySem.F.slot_list_extend PySem.F.type_list_extend mt_extend (pv 0) (pa_cons (pe_lst (pa_cons (pv 1) (pa_cons (pe_op op_mulW pe_int (pv 1)) (pa_cons (pe_op op_mulW pe_int (pv 1)) pa_nil)))) pa_nil)))
      (pss_one (ps_set (i := 1) sc_good_steps.nd rfl (Or.inl rfl) (pe_op op_mulW (pv 1) pe_int)))))
      (pss_one (ps_ret (pv 0))))))
end DC
namespace DC
open PySem PySem.Spec PyProof.Rows L2 Evl
/-! steps_between: level 1 -/
abbrev s_steps_between : Stmt := top 3
theorem sc_steps_between : FnScope ["low", "high", "step"] ["low", "high", "step"] (defScope s_steps_between) := ⟨rfl, rfl, rfl, by decide +kernel, rfl, by decide +kernel, by decide +kernel⟩
def t_steps_between (K : PySem.W.Frag) (c : Cs) : TS :=
    (tRet (tOp rSub (tUn rNeg (tOp rDiv (tUn rNeg (tVar 1)) (tVar 2))) (tOp rDiv (tVar 0) (tVar 2))))
theorem der_steps_between {P : Program} {w : World} {K : PySem.W.Frag} {mg : Str → Option Value} {base : Heap} {c : Cs} (T : Txt K mg c)
    {f : Addr} {cdv : Value} {A : Around} {outer : List Env} {s : Shared} {H : Hp} {E : XK}  (hr : Room 0 (A.deeper (envOfC "steps_between" (defScope s_steps_between) s.heap.objs.size f cdv))) :
    PSs (cxOf CX0 P w K mg base ["low", "high", "step"] "steps_between" (defScope s_steps_between) f cdv A outer s H E).nox (defBody s_steps_between) (t_steps_between K c) :=
    (pss_one (ps_ret (pe_op op_sub (pe_un un_neg (pe_op op_fdivW (pe_un un_neg (pv 1)) (pv 2))) (pe_op op_fdivW (pv 0) (pv 2)))))
end DC
namespace DC
open PySem PySem.Spec PyProof.Rows L2 Evl
/-! axis_of: level 3 -/
abbrev s_axis_of : Stmt := top 4
theorem sc_axis_of : FnScope ["numbers", "most", "shown", "low", "high", "step", "good"] ["numbers", "most"] (defScope s_axis_of) := ⟨rfl, rfl, rfl, by decide +kernel, rfl, by decide +kernel, by decide +kernel⟩
def t_axis_of (K : PySem.W.Frag) (c : Cs) (p_good_steps p_steps_between p_Axis : Sp) : TS :=
    (tSeq (tAsg (tIf (tTru K (tVar 0)) (tVar 0) (tLst (tCons (tC (.int 0)) tNil))) (gName 2))
    (tSeq (tAsg (tCB (rMin K) (tCons (tVar 2) tNil)) (gName 3))
    (tSeq (tAsg (tCB (rMax K) (tCons (tVar 2) tNil)) (gName 4))
    (tSeq (tIfS (tTest (tOp rEq (tVar 4) (tVar 3))) (tAsg (tOp rAdd (tVar 3) (tOp rPow (tC (.int 10)) (tC (.int 12)))) (gName 4)) tNext)
    (tSeq (tAsg (tCB (rMin K) (tCons (tLc (iList K (tCall p_good_steps [] E0 tNil)) (gName 6) (tTest (tOp rLe (tCall p_steps_between [] E0 (tCons (tVar 3) (tCons (tVar 4) (tCons (tVar 6) tNil)))) (tVar 1))) (tVar 6) [6]) tNil)) (gName 5))
    (tRet (tMake c.ax p_Axis [] E0 (tCons (tOp rMul (tOp rDiv (tVar 3) (tVar 5)) (tVar 5)) (tCons (tVar 5) (tCons (tCall p_steps_between [] E0 (tCons (tVar 3) (tCons (tVar 4) (tCons (tVar 5) tNil)))) tNil))))))))))
theorem der_axis_of {P : Program} {w : World} {K : PySem.W.Frag} {mg : Str → Option Value} {base : Heap} {c : Cs} {p_good_steps p_steps_between p_Axis : Sp} (T : Txt K mg c)
    (c_good_steps : C8.Cal P w K mg base 1 "good_steps" p_good_steps [])
    (c_steps_between : C8.Cal P w K mg base 1 "steps_between" p_steps_between [])
    (c_Axis : C8.Mak P w K mg base 1 "Axis" c.ax p_Axis [])
    {f : Addr} {cdv : Value} {A : Around} {outer : List Env} {s : Shared} {H : Hp} {E : XK}  (hr : Room 2 (A.deeper (envOfC "axis_of" (defScope s_axis_of) s.heap.objs.size f cdv))) :
    PSs (cxOf CX0 P w K mg base ["numbers", "most", "shown", "low", "high", "step", "good"] "axis_of" (defScope s_axis_of) f cdv A outer s H E).nox (defBody s_axis_of) (t_axis_of K c p_good_steps p_steps_between p_Axis) :=
    (pss_cons (ps_set (i := 2) sc_axis_of.nd rfl (Or.inl rfl) (pe_ifExp (pt_truth (pv 0) (by intro _; rfl)) (pv 0) (pe_lst (pa_cons pe_int pa_nil))))
      (pss_cons (ps_set (i := 3) sc_axis_of.nd rfl (Or.inr rfl) (pe_callB (cr_min rfl) (by rfl) T.n_min b_min (pa_cons (pv 2) pa_nil)))
      (pss_cons (ps_set (i := 4) sc_axis_of.nd rfl (Or.inr rfl) (pe_callB (cr_max rfl) (by rfl) T.n_max b_max (pa_cons (pv 2) pa_nil)))
      (pss_cons (ps_if (pt_cmpR op_eq (pv 4) (pv 3) (nomark _)) (pss_one (ps_set (i := 4) sc_axis_of.nd rfl (Or.inr rfl) (pe_op op_add (pv 3) (pe_op op_pow pe_int pe_int)))) pss_nil)
      (pss_cons (ps_set (i := 5) sc_axis_of.nd rfl (Or.inl rfl) (pe_callB (cr_min rfl) (by rfl) T.n_min b_min (pa_cons (pe_lc (own := [("good", 6)]) (g := gName 6) (tt := (tTest (tOp rLe (tCall p_steps_between [] E0 (tCons (tVar 3) (tCons (tVar 4) (tCons (tVar 6) tNil)))) (tVar 1)))) (by rfl) sc_axis_of.nd (pi_list (pe_c0 c_good_steps hr (by decide) (by rfl))) (blkOk_by (own := [("good", 6)]) (N := ["numbers", "most", "shown", "low", "high", "step", "good"]) (sc := defScope s_axis_of) (by decide +kernel)) (fun _ _ _ _ _ => pg_name (i := 6) sc_axis_of.nd rfl (Or.inl rfl)) (fun _ _ _ _ _ => pts_one (pt_cmpR op_le (C8.pe_c c_steps_between hr (by decide) (by rfl) (pa_cons (pv 3) (pa_cons (pv 4) (pa_cons (pv 6) pa_nil)))) (pv 1) (nomark _))) (fun _ _ _ _ _ => (pv 6))) pa_nil)))
      (pss_one (ps_ret (C8.pe_mk c_Axis hr (by decide) (by rfl) (pa_cons (pe_op op_mulW (pe_op op_fdivW (pv 3) (pv 5)) (pv 5)) (pa_cons (pv 5) (pa_cons (C8.pe_c c_steps_between hr (by decide) (by rfl) (pa_cons (pv 3) (pa_cons (pv 4) (pa_cons (pv 5) pa_nil)))) pa_nil)))))))))))
end DC
namespace DC
open PySem PySem.Spec PyProof.Rows L2 Evl
section
variable {K : PySem.W.Frag} {mg : Str → Option Value} {c : Cs} {vs : List V} {H : Hp} {Q : VK} {E : XK}
theorem pure_Axis_init (T : Txt K mg c) (h : sp_Axis c vs H Q E) : t_Axis_init K c { nx := fun _ H' => Q .non H', rt := Q } (start ["self", "start", "step", "steps"] vs) H := by
  obtain ⟨p, dx, x0, x1, x2, rfl, hp, k⟩ := h
  refine q_fldV (ev_var rfl) (ev_var rfl) hp T.c_ax T.a_ax_start (show 0 < 1000 by decide) fun H1 e1 _ => ?_
  rw [i_ax_start]
  refine q_fldV (ev_var rfl) (ev_var rfl) upd_same T.c_ax T.a_ax_step (show 1 < 1000 by decide) fun H2 e2 _ => ?_
  rw [i_ax_step]
  refine s_fldV (ev_var rfl) (ev_var rfl) upd_same T.c_ax T.a_ax_steps (show 2 < 1000 by decide) fun H3 e3 _ => ?_
  rw [i_ax_steps]
  exact k _ upd_same ((((But.ex e1).trans But.upd).trans ((But.ex e2).trans But.upd)).trans ((But.ex e3).trans But.upd))
theorem pure_Axis_dot_of (T : Txt K mg c) (h : sp_dot_of c vs H Q E) : t_Axis_dot_of K c { nx := fun _ H' => Q .non H', rt := Q } (start ["self", "number", "dots", "span"] vs) H := by
  obtain ⟨a, A, v, d, rfl, ⟨dx, hA⟩, ok, hv, hd, k⟩ := h
  obtain ⟨p1, p2, p3, p4, p5⟩ := ok
  have b1 : ((A.count : Int)).natAbs < 2 ^ 7 := by omega
  have b2 : A.step.natAbs < 2 ^ 190 := by omega
  have b3 := wide_lt b1 b2
  have b4 : (2 : Int).natAbs < 2 ^ 2 := by decide
  have b5 : (v - A.start).natAbs < 2 ^ 210 := by omega
  have b6 := wide_lt b4 b5
  have b7 : ((d : Int) - 1).natAbs < 2 ^ 14 := by omega
  have b8 : 0 < (A.count : Int) * A.step := Int.mul_pos (by omega) p1
  refine q_asg (ev_mul (ev_fld (ev_var rfl) hA T.c_ax T.a_ax_steps l_ax_steps) (ev_fld (ev_var rfl) hA T.c_ax T.a_ax_step l_ax_step) (wide_mul b1 b2 (by decide) (by decide) (by decide))) fun H1 e => ?_
  refine ret_v (ev_is (ev_div (ev_add (ev_mul (ev_mul ev_c (ev_sub (ev_var rfl) (ev_fld (ev_var rfl) (e _ _ hA) T.c_ax T.a_ax_start l_ax_start)) (wide_mul b4 b5 (by decide) (by decide) (by decide))) (ev_sub (ev_var rfl) ev_c) (wide_mul b6 b7 (by decide) (by decide) (by decide))) (ev_var rfl))
    (ev_mul ev_c (ev_var rfl) (wide_mul b4 b3 (by decide) (by decide) (by decide))) (wide_div (by omega) (wide_lt b4 b3) (by decide) (by decide))) ?_) (RetV.up k e)
  rw [dot_is]
theorem use_dot {a : Addr} {A : Si28.Axis} {v : Int} {d : Nat} (hA : AxAt c H a A) (ok : AxOk A) (hv : -(10 ^ 60) ≤ v ∧ v ≤ 10 ^ 60) (hd : d ≤ 4096) : SpV (sp_dot_of c) [.ref a, .int v, .int (d : Int)] H (.int (A.dot d v)) := fun _ e _ q _ => ⟨a, A, v, d, rfl, hA.mono e, ok, hv, hd, q⟩
theorem pure_Axis_step_dots (T : Txt K mg c) (h : sp_step_dots c vs H Q E) : t_Axis_step_dots K c (sp_dot_of c) { nx := fun _ H' => Q .non H', rt := Q } (start ["self", "dots", "passed"] vs) H := by
  obtain ⟨a, A, d, rfl, hA, ok, hd, k⟩ := h
  have ok' := ok
  obtain ⟨p1, p2, p3, p4, p5⟩ := ok
  have hA' := hA
  obtain ⟨dx, ho⟩ := hA
  refine ret_l (el_is (el_lcR (A.count + 1) (fun k => .int (A.dot d (A.start + A.step * (k : Int)))) (ea_cons (ev_is (ev_add (ev_fld (ev_var rfl) ho T.c_ax T.a_ax_steps l_ax_steps) ev_c) (by simp)) ea_nil) (by omega) (fun x => rfl) fun i H1 e hi => ?_) (by
    unfold dotsOf nV
    rw [List.map_map] <;> rfl)) k
  have b1 : ((i : Int)).natAbs < 2 ^ 8 := by omega
  have b2 : A.step.natAbs < 2 ^ 190 := by omega
  have m1 : 0 ≤ A.step * (i : Int) := Int.mul_nonneg (by omega) (by omega)
  have m2 : A.step * (i : Int) ≤ 5 * 10 ^ 55 * 64 := by
    calc A.step * (i : Int) ≤ (5 * 10 ^ 55) * (i : Int) := Int.mul_le_mul_of_nonneg_right p2 (by omega)
      _ ≤ 5 * 10 ^ 55 * 64 := by omega
  have hs := e _ _ ho
  refine ev_meth (ev_var rfl) hs m_ax_dot_of (ea_cons (ev_is (ev_add (ev_fld (ev_var rfl) hs T.c_ax T.a_ax_start l_ax_start) (ev_mul (ev_var rfl) (ev_fld (ev_var rfl) hs T.c_ax T.a_ax_step l_ax_step) (wide_mul b1 b2 (by decide) (by decide) (by decide)))) rfl) (ea_cons (ev_var rfl) ea_nil)) ?_
  rw [Int.mul_comm (i : Int)]
  exact use_dot (hA'.mono e) ok' (by omega) hd
theorem pure_steps_between (h : sp_between vs H Q E) : t_steps_between K c { nx := fun _ H' => Q .non H', rt := Q } (start ["low", "high", "step"] vs) H := by
  obtain ⟨l, h, s, rfl, h1, h2, k⟩ := h
  have b1 : s.natAbs < 2 ^ 190 := by omega
  exact ret_v (ev_sub (ev_neg (ev_div (ev_neg (ev_var rfl)) (ev_var rfl) (wide_div h1 b1 (by decide) (by decide)))) (ev_div (ev_var rfl) (ev_var rfl) (wide_div h1 b1 (by decide) (by decide)))) k
theorem use_between {l h s : Int} (h1 : 0 < s) (h2 : s ≤ 5 * 10 ^ 55) : SpV sp_between [.int l, .int h, .int s] H (.int (btw l h s)) := fun _ _ _ q _ => ⟨l, h, s, rfl, h1, h2, q⟩
/-- the good steps, of the first i powers -/
def stepsTo (i : Nat) : List Int := (List.range i).flatMap fun e => [10 ^ e, 2 * 10 ^ e, 5 * 10 ^ e]
theorem stepsTo_more (i : Nat) : stepsTo (i + 1) = stepsTo i ++ [10 ^ i, 2 * 10 ^ i, 5 * 10 ^ i] := by
  unfold stepsTo
  rw [List.range_succ, List.flatMap_append]
  simp
theorem stepsTo_len : ∀ i, (stepsTo i).length = 3 * i
  | 0 => rfl
  | i + 1 => by
    rw [stepsTo_more, List.length_append, stepsTo_len i]
    show 3 * i + 3 = 3 * (i + 1)
    omega
theorem pow_small {i : Nat} (h : i < 56) : ((10 : Int) ^ i).natAbs < 2 ^ 200 := by
  have e : ((10 : Int) ^ i).natAbs = 10 ^ i := by
    rw [Int.natAbs_pow] <;> rfl
  rw [e]
  exact Nat.lt_of_le_of_lt (Nat.pow_le_pow_right (by decide) (show i ≤ 55 by omega)) (by decide)
theorem pure_good_steps (h : sp_good_steps vs H Q E) : t_good_steps K c { nx := fun _ H' => Q .non H', rt := Q } (start ["steps", "power", "exponent"] vs) H := by
  obtain ⟨rfl, k⟩ := h
  refine q_asgL (el_lst ea_nil (by decide)) fun p H1 hp e1 h1 => ?_
  refine q_asg ev_c fun H2 e2 => ?_
  refine q_forR1 (n := 56) (ea_cons ev_c ea_nil) (by decide) (fun i σ H' => ∃ v, σ = [some (.ref p), some (.int (10 ^ i)), v] ∧ Ex H H' ∧ H' p = some (.lst (nV (stepsTo i)))) (fun H3 e3 => ⟨_, rfl, e1.trans (e2.trans e3), e3 _ _ (e2 _ _ h1)⟩) ?_ ?_
  · rintro i σ H' hi ⟨v, rfl, x1, x2⟩
    have hi' : i < 56 := by omega
    have bp := pow_small hi'
    refine q_extL (ys := nV [10 ^ i, 2 * 10 ^ i, 5 * 10 ^ i]) x2 (ev_var rfl) (el_lst (ea_cons (ev_var rfl) (ea_cons (ev_mul ev_c (ev_var rfl) (wide_mul (a := 2) (by decide) bp (by decide) (by decide) (by decide))) (ea_cons (ev_mul ev_c (ev_var rfl) (wide_mul (a := 3) (by decide) bp (by decide) (by decide) (by decide))) ea_nil))) (show 3 ≤ 100000 by decide)) ?_ fun H3 e3 => ?_
    · rw [nV_len, stepsTo_len]
      exact sz_of (by show 3 * i + 3 ≤ 100000; omega)
    · refine s_asg (ev_mul (ev_var rfl) ev_c (wide_mul (b := 4) bp (by decide) (by decide) (by decide) (by decide))) fun H4 e4 => ?_
      refine ⟨some (.int (i : Int)), ?_, (Ex.mut (x1.trans e3) hp).trans e4, ?_⟩
      · show [some (V.ref p), some (V.int (10 ^ i * 10)), some (V.int (i : Int))] = _
        rw [Int.pow_succ]
      · have := e4 _ _ (upd_same (H := H3) (a := p) (o := .lst (nV (stepsTo i) ++ nV [10 ^ i, 2 * 10 ^ i, 5 * 10 ^ i])))
        rw [this, stepsTo_more]
        unfold nV
        rw [List.map_append]
  · rintro σ H' ⟨v, rfl, x1, x2⟩
    exact ret_ref (ev_var rfl) hp x1 x2 k
theorem use_good : SpL sp_good_steps [] H (nV steps) := fun _ _ _ q _ => ⟨rfl, q⟩
theorem use_Axis {x0 x1 x2 : V} : ∀ (H1 : Hp) (p dx : Addr), Ex H H1 → H p = none → H1 p = some (.ins c.ax dx []) → ∀ Q : VK, Init c.ax p dx (f_ax x0 x1 x2) H1 Q → ∀ E : XK, sp_Axis c (.ref p :: [x0, x1, x2]) H1 Q E := fun _ p dx _ _ h _ k _ => ⟨p, dx, x0, x1, x2, rfl, h, k⟩
theorem pure_axis_of (h : sp_axis_of c vs H Q E) : t_axis_of K c sp_good_steps sp_between (sp_Axis c) { nx := fun _ H' => Q .non H', rt := Q } (start ["numbers", "most", "shown", "low", "high", "step", "good"] vs) H := by
  obtain ⟨a, ns, most, rfl, ha, sm, m1, m2, k⟩ := h
  obtain ⟨ns', e0, hn, sm'⟩ : ∃ ns', ns' = (if ns = [] then [0] else ns) ∧ ns' ≠ [] ∧ Sm ns' := by
    refine ⟨_, rfl, ?_⟩
    by_cases z : ns = []
    · rw [if_pos z]; exact ⟨by decide, sm_0⟩
    · rw [if_neg z]; exact ⟨z, sm⟩
  have eA : axM ns most = axM ns' most := by
    rw [e0]
    by_cases z : ns = []
    · rw [if_pos z, z, axM_nil]
    · rw [if_neg z]
  refine q_asgR (P := fun p H' => H' p = some (.lst (nV ns'))) (er_if (et_list (ev_var rfl) ha) (fun hb => er_ref (ev_var rfl) fun H1 e => ?_) fun hb => er_new (el_is (el_lst (ea_cons ev_c ea_nil) (by decide)) ?_)) fun p H1 e1 hp => ?_
  · have z : ns ≠ [] := fun z => by rw [z] at hb; cases hb
    rw [e0, if_neg z]
    exact e _ _ ha
  · have z : ns = [] := by
      cases ns with
      | nil => rfl
      | cons _ _ => cases hb
    rw [e0, if_pos z] <;> rfl
  refine q_asg (ev_min (ev_var rfl) hp hn) fun H2 e2 => ?_
  refine q_asg (ev_max (ev_var rfl) (e2 _ _ hp) hn) fun H3 e3 => ?_
  have h1 := sm'.lo
  have h3 := sm'.hi
  have h2 := lo_hi ns'
  refine q_ifAsg (v := .int (hi' (lo ns') (hi ns'))) (et_test (ev_eqI (ev_var rfl) (ev_var rfl))) (fun hb => ev_is (ev_add (ev_var rfl) (ev_pow ev_c ev_c ⟨by decide, by decide, by decide⟩)) ?_) (fun hb => ?_) fun H4 e4 => ?_
  · unfold hi'
    rw [if_pos (of_decide_eq_true hb)] <;> rfl
  · unfold hi'
    rw [if_neg (of_decide_eq_false hb)] <;> rfl
  have hne : steps.filter (fitsS (lo ns') (hi' (lo ns') (hi ns')) most) ≠ [] := List.ne_nil_of_mem (List.mem_filter.mpr ⟨steps_last, fits_last h1 h2 h3 m1⟩)
  refine q_asg (ev_minN (el_lcFN V.int steps (fitsS (lo ns') (hi' (lo ns') (hi ns')) most) V.int (el_cal ea_nil use_good) (by decide +kernel) (fun x => rfl) (fun x H5 hx e5 => et_test (ev_is (ev_le (ev_cal (ea_cons (ev_var rfl) (ea_cons (ev_var rfl) (ea_cons (ev_var rfl) ea_nil))) (use_between (steps_pos x hx).1 (steps_pos x hx).2)) (ev_var rfl)) rfl)) fun x H5 hx e5 _ => ev_var rfl) hne) fun H5 e5 => ?_
  have g1 := List.mem_filter.mp (lo_mem hne)
  have g2 := axisOf_is h1 h2 h3 m1 m2 g1.1 g1.2 fun x hx hf => lo_le (List.mem_filter.mpr ⟨hx, hf⟩)
  generalize lo (steps.filter (fitsS (lo ns') (hi' (lo ns') (hi ns')) most)) = s at g1 g2 ⊢
  have sp := steps_pos s g1.1
  have b1 : s.natAbs < 2 ^ 190 := by omega
  have b2 : (lo ns' / s).natAbs < 2 ^ 190 := by
    have q1 := ediv_small (B := 10 ^ 54) sp.1 h1 (Int.le_trans h2 h3) (by decide)
    omega
  refine ret_n (en_imp (en_make (ea_cons (ev_mul (ev_div (ev_var rfl) (ev_var rfl) (wide_div sp.1 b1 (by decide) (by decide))) (ev_var rfl) (wide_mul b2 b1 (by decide) (by decide) (by decide))) (ea_cons (ev_var rfl) (ea_cons (ev_cal (ea_cons (ev_var rfl) (ea_cons (ev_var rfl) (ea_cons (ev_var rfl) ea_nil))) (use_between sp.1 sp.2)) ea_nil))) use_Axis) fun q H6 ⟨dx, hq⟩ => ?_) (RetN.up k ((((e1.trans e2).trans e3).trans e4).trans e5))
  refine ⟨dx, ?_⟩
  rw [hq, eA]
  show _ = some (HO.ins c.ax dx (f_ax (.int (Si28.axisOf (lo ns') (hi ns') most).start) (.int (Si28.axisOf (lo ns') (hi ns') most).step) (.int ((Si28.axisOf (lo ns') (hi ns') most).count : Int))))
  rw [g2.2.2, g2.1]
end
end DC
namespace DC
open PySem PySem.Spec PyProof.Rows L2 Evl
/-! Chart.upright_axis: level 4 -/
abbrev s_Chart_upright_axis : Stmt := inClass (top 13) 4
theorem sc_Chart_upright_axis : FnScope ["self"] ["self"] (defScope s_Chart_upright_axis) := ⟨rfl, rfl, rfl, by decide +kernel, rfl, by decide +kernel, by decide +kernel⟩
def t_Chart_upright_axis (K : PySem.W.Frag) (c : Cs) (p_axis_of p_upright_numbers : Sp) : TS :=
    (tRet (tCall p_axis_of [] E0 (tCons (tCall p_upright_numbers [] E0 (tCons (tFld K (tFld K (tVar 0) "look") "kind") (tCons (tFld K (tVar 0) "rows") tNil))) (tCons (tFld K (tFld K (tVar 0) "look") "steps") tNil))))
theorem der_Chart_upright_axis {P : Program} {w : World} {K : PySem.W.Frag} {mg : Str → Option Value} {base : Heap} {c : Cs} {p_axis_of p_upright_numbers : Sp} (T : Txt K mg c)
    (c_axis_of : C8.Cal P w K mg base 3 "axis_of" p_axis_of [])
    (c_upright_numbers : C8.Cal P w K mg base 3 "upright_numbers" p_upright_numbers [])
    {f : Addr} {cdv : Value} {A : Around} {outer : List Env} {s : Shared} {H : Hp} {E : XK}  (hr : Room 3 (A.deeper (envOfC "Chart.upright_axis" (defScope s_Chart_upright_axis) s.heap.objs.size f cdv))) :
    PSs (cxOf CX0 P w K mg base ["self"] "Chart.upright_axis" (defScope s_Chart_upright_axis) f cdv A outer s H E).nox (defBody s_Chart_upright_axis) (t_Chart_upright_axis K c p_axis_of p_upright_numbers) :=
    (pss_one (ps_ret (C8.pe_c c_axis_of hr (by decide) (by rfl) (pa_cons (C8.pe_c c_upright_numbers hr (by decide) (by rfl) (pa_cons (pe_fld (pe_fld (pv 0) rfl) rfl) (pa_cons (pe_fld (pv 0) rfl) pa_nil))) (pa_cons (pe_fld (pe_fld (pv 0) rfl) rfl) pa_nil)))))
end DC
namespace DC
open PySem PySem.Spec PyProof.Rows L2 Evl
/-! Chart.along_axis: level 4 -/
abbrev s_Chart_along_axis : Stmt := inClass (top 13) 5
theorem sc_Chart_along_axis : FnScope ["self"] ["self"] (defScope s_Chart_along_axis) := ⟨rfl, rfl, rfl, by decide +kernel, rfl, by decide +kernel, by decide +kernel⟩
def t_Chart_along_axis (K : PySem.W.Frag) (c : Cs) (p_axis_of p_numbers_there : Sp) : TS :=
    (tRet (tCall p_axis_of [] E0 (tCons (tCall p_numbers_there [] E0 (tCons (tOp (rIxL K) (tFld K (tVar 0) "rows") (tC (.int 0))) tNil)) (tCons (tFld K (tFld K (tVar 0) "look") "steps") tNil))))
theorem der_Chart_along_axis {P : Program} {w : World} {K : PySem.W.Frag} {mg : Str → Option Value} {base : Heap} {c : Cs} {p_axis_of p_numbers_there : Sp} (T : Txt K mg c)
    (c_axis_of : C8.Cal P w K mg base 3 "axis_of" p_axis_of [])
    (c_numbers_there : C8.Cal P w K mg base 1 "numbers_there" p_numbers_there [])
    {f : Addr} {cdv : Value} {A : Around} {outer : List Env} {s : Shared} {H : Hp} {E : XK}  (hr : Room 3 (A.deeper (envOfC "Chart.along_axis" (defScope s_Chart_along_axis) s.heap.objs.size f cdv))) :
    PSs (cxOf CX0 P w K mg base ["self"] "Chart.along_axis" (defScope s_Chart_along_axis) f cdv A outer s H E).nox (defBody s_Chart_along_axis) (t_Chart_along_axis K c p_axis_of p_numbers_there) :=
    (pss_one (ps_ret (C8.pe_c c_axis_of hr (by decide) (by rfl) (pa_cons (C8.pe_c c_numbers_there hr (by decide) (by rfl) (pa_cons (pe_ix ix_list (pe_fld (pv 0) rfl) pe_int (fun _ _ => rfl)) pa_nil)) (pa_cons (pe_fld (pe_fld (pv 0) rfl) rfl) pa_nil)))))
end DC
namespace DC
open PySem PySem.Spec PyProof.Rows L2 Evl
/-! are_rows: level 2 -/
abbrev s_are_rows : Stmt := top 14
theorem sc_are_rows : FnScope ["length", "rows", "row", "number"] ["length", "rows"] (defScope s_are_rows) := ⟨rfl, rfl, rfl, by decide +kernel, rfl, by decide +kernel, by decide +kernel⟩
def t_are_rows (K : PySem.W.Frag) (c : Cs) (p_numbers_there : Sp) : TS :=
    (tSeq (tIfS (tOr (tNot (tTest (tChain rLe rLe (tC (.int 1)) (tVar 0) (tC (.int 512))))) (tNot (tTest (tChain rLe rLe (tC (.int 1)) (tCB (rLenS K) (tCons (tVar 1) tNil)) (tC (.int 16)))))) (tRet (tC (.bl false))) tNext)
    (tSeq (tFor (iList K (tVar 1)) (gName 2) (tIfS (tOr (tTest (tOp rNe (tCB (rLenS K) (tCons (tVar 2) tNil)) (tVar 0))) (tB (tCB (rAny K) (tCons (tLc (iList K (tCall p_numbers_there [] E0 (tCons (tVar 2) tNil))) (gName 3) tYes (tOp rGe (tCB (rAbs) (tCons (tVar 3) tNil)) (tOp rPow (tC (.int 10)) (tC (.int 36)))) [3]) tNil)))) (tRet (tC (.bl false))) tNext))
    (tRet (tC (.bl true)))))
theorem der_are_rows {P : Program} {w : World} {K : PySem.W.Frag} {mg : Str → Option Value} {base : Heap} {c : Cs} {p_numbers_there : Sp} (T : Txt K mg c)
    (c_numbers_there : C8.Cal P w K mg base 1 "numbers_there" p_numbers_there [])
    {f : Addr} {cdv : Value} {A : Around} {outer : List Env} {s : Shared} {H : Hp} {E : XK}  (hr : Room 1 (A.deeper (envOfC "are_rows" (defScope s_are_rows) s.heap.objs.size f cdv))) :
    PSs (cxOf CX0 P w K mg base ["length", "rows", "row", "number"] "are_rows" (defScope s_are_rows) f cdv A outer s H E).nox (defBody s_are_rows) (t_are_rows K c p_numbers_there) :=
    (pss_cons (ps_if (PW.pt (pw_or (pt_not (pt_chain op_le op_le pe_int (pv 0) pe_int)) (pw_or1 (pt_not (pt_chain op_le op_le pe_int (pe_callB call_len_seq (by rfl) T.n_len b_len (pa_cons (pv 1) pa_nil)) pe_int))))) (pss_one (ps_ret pe_bl)) pss_nil)
      (pss_cons (ps_for PassesOwn.never rfl (pi_list (pv 1)) (pg_name (i := 2) sc_are_rows.nd rfl (Or.inl rfl)) (pss_one (ps_if (PW.pt (pw_or (pt_cmpR op_ne (pe_callB call_len_seq (by rfl) T.n_len b_len (pa_cons (pv 2) pa_nil)) (pv 0) (nomark _)) (pw_or1 (pt_val (pe_callB (cr_any rfl) (by rfl) T.n_any b_any (pa_cons (pe_lc (own := [("number", 3)]) (g := gName 3) (tt := tYes) (by rfl) sc_are_rows.nd (pi_list (C8.pe_c c_numbers_there hr (by decide) (by rfl) (pa_cons (pv 2) pa_nil))) (blkOk_by (own := [("number", 3)]) (N := ["length", "rows", "row", "number"]) (sc := defScope s_are_rows) (by decide +kernel)) (fun _ _ _ _ _ => pg_name (i := 3) sc_are_rows.nd rfl (Or.inl rfl)) (fun _ _ _ _ _ => pts_nil) (fun _ _ _ _ _ => (pe_cmpR op_ge (pe_callB call_abs (by rfl) T.n_abs b_abs (pa_cons (pv 3) pa_nil)) (pe_op op_pow pe_int pe_int) (nomark _)))) pa_nil)))))) (pss_one (ps_ret pe_bl)) pss_nil)))
      (pss_one (ps_ret pe_bl))))
end DC
namespace DC
open PySem PySem.Spec PyProof.Rows L2 Evl
/-! numbers_there: level 1 -/
abbrev s_numbers_there : Stmt := top 15
theorem sc_numbers_there : FnScope ["row", "number"] ["row"] (defScope s_numbers_there) := ⟨rfl, rfl, rfl, by decide +kernel, rfl, by decide +kernel, by decide +kernel⟩
def t_numbers_there (K : PySem.W.Frag) (c : Cs) : TS :=
    (tRet (tLc (iList K (tVar 0)) (gName 1) (tTest (tOp rNotN (tVar 1) (tC .non))) (tVar 1) [1]))
theorem der_numbers_there {P : Program} {w : World} {K : PySem.W.Frag} {mg : Str → Option Value} {base : Heap} {c : Cs} (T : Txt K mg c)
    {f : Addr} {cdv : Value} {A : Around} {outer : List Env} {s : Shared} {H : Hp} {E : XK}  (hr : Room 0 (A.deeper (envOfC "numbers_there" (defScope s_numbers_there) s.heap.objs.size f cdv))) :
    PSs (cxOf CX0 P w K mg base ["row", "number"] "numbers_there" (defScope s_numbers_there) f cdv A outer s H E).nox (defBody s_numbers_there) (t_numbers_there K c) :=
    (pss_one (ps_ret (pe_lc (own := [("number", 1)]) (g := gName 1) (tt := (tTest (tOp rNotN (tVar 1) (tC .non)))) (by rfl) sc_numbers_there.nd (pi_list (pv 0)) (blkOk_by (own := [("number", 1)]) (N := ["row", "number"]) (sc := defScope s_numbers_there) (by decide +kernel)) (fun _ _ _ _ _ => pg_name (i := 1) sc_numbers_there.nd rfl (Or.inl rfl)) (fun _ _ _ _ _ => pts_one (pt_cmpR op_notN (pv 1) pe_non (nomark _))) (fun _ _ _ _ _ => (pv 1)))))
end DC
namespace DC
open PySem PySem.Spec PyProof.Rows L2 Evl
/-! all_numbers: level 2 -/
abbrev s_all_numbers : Stmt := top 16
theorem sc_all_numbers : FnScope ["rows", "numbers", "row"] ["rows"] (defScope s_all_numbers) := ⟨rfl, rfl, rfl, by decide +kernel, rfl, by decide +kernel, by decide +kernel⟩
def t_all_numbers (K : PySem.W.Frag) (c : Cs) (p_numbers_there : Sp) : TS :=
    (tSeq (tAsg (tLst tNil) (gName 1))
    (tSeq (tFor (iList K (tVar 0)) (gName 2) (tDrop (tBM K "list" rExtend (tVar 1) (tCons (tCall p_numbers_there [] E0 (tCons (tVar 2) tNil)) tNil))))
    (tRet (tVar 1))))
theorem der_all_numbers {P : Program} {w : World} {K : PySem.W.Frag} {mg : Str → Option Value} {base : Heap} {c : Cs} {p_numbers_there : Sp} (T : Txt K mg c)
    (c_numbers_there : C8.Cal P w K mg base 1 "numbers_there" p_numbers_there [])
    {f : Addr} {cdv : Value} {A : Around} {outer : List Env} {s : Shared} {H : Hp} {E : XK}  (hr : Room 1 (A.deeper (envOfC "all_numbers" (defScope s_all_numbers) s.heap.objs.size f cdv))) :
    PSs (cxOf CX0 P w K mg base ["rows", "numbers", "row"] "all_numbers" (defScope s_all_numbers) f cdv A outer s H E).nox (defBody s_all_numbers) (t_all_numbers K c p_numbers_there) :=
    (pss_cons (ps_set (i := 1) sc_all_numbers.nd rfl (Or.inl rfl) (pe_lst pa_nil))
      (pss_cons (ps_for PassesOwn.never rfl (pi_list (pv 0)) (pg_name (i := 2) sc_all_numbers.nd rfl (Or.inl rfl)) (pss_one (ps_expr (pe_bm PySem.F.plainAttrs_list PySem.F.slot_list_extend PySem.F.type_list_extend mt_extend (pv 1) (pa_cons (C8.pe_c c_numbers_there hr (by decide) (by rfl) (pa_cons (pv 2) pa_nil)) pa_nil)))))
      (pss_one (ps_ret (pv 1)))))
end DC
namespace DC
open PySem PySem.Spec PyProof.Rows L2 Evl
/-! column_sums: level 2 -/
abbrev s_column_sums : Stmt := top 17
theorem sc_column_sums : FnScope ["rows", "sums", "column", "numbers", "row", "number"] ["rows"] (defScope s_column_sums) := ⟨rfl, rfl, rfl, by decide +kernel, rfl, by decide +kernel, by decide +kernel⟩
def t_column_sums (K : PySem.W.Frag) (c : Cs) (p_numbers_there : Sp) : TS :=
    (tSeq (tAsg (tLst tNil) (gName 1))
    (tSeq (tFor (iRng1 (tCons (tCB (rLenS K) (tCons (tOp (rIxL K) (tVar 0) (tC (.int 0))) tNil)) tNil)) (gName 2) (tSeq (tAsg (tCall p_numbers_there [] E0 (tCons (tLc (iList K (tVar 0)) (gName 4) tYes (tOp (rIxL K) (tVar 4) (tVar 2)) [4]) tNil)) (gName 3))
    (tSeq (tDrop (tBM K "list" rAppend (tVar 1) (tCons (tCB (rSum K) (tCons (tLc (iList K (tVar 3)) (gName 5) (tTest (tOp rGe (tVar 5) (tC (.int 0)))) (tVar 5) [5]) tNil)) tNil)))
    (tDrop (tBM K "list" rAppend (tVar 1) (tCons (tCB (rSum K) (tCons (tLc (iList K (tVar 3)) (gName 5) (tTest (tOp rLt (tVar 5) (tC (.int 0)))) (tVar 5) [5]) tNil)) tNil))))))
    (tRet (tVar 1))))
theorem der_column_sums {P : Program} {w : World} {K : PySem.W.Frag} {mg : Str → Option Value} {base : Heap} {c : Cs} {p_numbers_there : Sp} (T : Txt K mg c)
    (c_numbers_there : C8.Cal P w K mg base 1 "numbers_there" p_numbers_there [])
    {f : Addr} {cdv : Value} {A : Around} {outer : List Env} {s : Shared} {H : Hp} {E : XK}  (hr : Room 1 (A.deeper (envOfC "column_sums" (defScope s_column_sums) s.heap.objs.size f cdv))) :
    PSs (cxOf CX0 P w K mg base ["rows", "sums", "column", "numbers", "row", "number"] "column_sums" (defScope s_column_sums) f cdv A outer s H E).nox (defBody s_column_sums) (t_column_sums K c p_numbers_there) :=
    (pss_cons (ps_set (i := 1) sc_column_sums.nd rfl (Or.inl rfl) (pe_lst pa_nil))
      (pss_cons (ps_for PassesOwn.never rfl (pi_range1 (by rfl) T.n_range (pa_cons (pe_callB call_len_seq (by rfl) T.n_len b_len (pa_cons (pe_ix ix_list (pv 0) pe_int (fun _ _ => rfl)) pa_nil)) pa_nil)) (pg_name (i := 2) sc_column_sums.nd rfl (Or.inr rfl)) (pss_cons (ps_set (i := 3) sc_column_sums.nd rfl (Or.inl rfl) (C8.pe_c c_numbers_there hr (by decide) (by rfl) (pa_cons (pe_lc (own := [("row", 4)]) (g := gName 4) (tt := tYes) (by rfl) sc_column_sums.nd (pi_list (pv 0)) (blkOk_by (own := [("row", 4)]) (N := ["rows", "sums", "column", "numbers", "row", "number"]) (sc := defScope s_column_sums) (by decide +kernel)) (fun _ _ _ _ _ => pg_name (i := 4) sc_column_sums.nd rfl (Or.inl rfl)) (fun _ _ _ _ _ => pts_nil) (fun _ _ _ _ _ => (pe_ix ix_list (pv 4) (pv 2) (fun _ _ => rfl)))) pa_nil)))
      (pss_cons (ps_expr (pe_bm PySem.F.plainAttrs_list PySem.F.slot_list_append PySem.F.type_list_append mt_append (pv 1) (pa_cons (pe_callB (cr_sum rfl) (by rfl) T.n_sum b_sum (pa_cons (pe_lc (own := [("number", 5)]) (g := gName 5) (tt := (tTest (tOp rGe (tVar 5) (tC (.int 0))))) (by rfl) sc_column_sums.nd (pi_list (pv 3)) (blkOk_by (own := [("number", 5)]) (N := ["rows", "sums", "column", "numbers", "row", "number"]) (sc := defScope s_column_sums) (by decide +kernel)) (fun _ _ _ _ _ => pg_name (i := 5) sc_column_sums.nd rfl (Or.inl rfl)) (fun _ _ _ _ _ => pts_one (pt_cmpR op_ge (pv 5) pe_int (nomark _))) (fun _ _ _ _ _ => (pv 5))) pa_nil)) pa_nil)))
      (pss_one (ps_expr (pe_bm PySem.F.plainAttrs_list PySem.F.slot_list_append PySem.F.type_list_append mt_append (pv 1) (pa_cons (pe_callB (cr_sum rfl) (by rfl) T.n_sum b_sum (pa_cons (pe_lc (own := [("number", 5)]) (g := gName 5) (tt := (tTest (tOp rLt (tVar 5) (tC (.int 0))))) (by rfl) sc_column_sums.nd (pi_list (pv 3)) (blkOk_by (own := [("number", 5)]) (N := ["rows", "sums", "column", "numbers", "row", "number"]) (sc := defScope s_column_sums) (by decide +kernel)) (fun _ _ _ _ _ => pg_name (i := 5) sc_column_sums.nd rfl (Or.inl rfl)) (fun _ _ _ _ _ => pts_one (pt_cmpR op_lt (pv 5) pe_int (nomark _))) (fun _ _ _ _ _ => (pv 5))) pa_nil)) pa_nil)))))))
      (pss_one (ps_ret (pv 1)))))
end DC
namespace DC
open PySem PySem.Spec PyProof.Rows L2 Evl
/-! upright_numbers: level 3 -/
abbrev s_upright_numbers : Stmt := top 18
theorem sc_upright_numbers : FnScope ["kind", "rows"] ["kind", "rows"] (defScope s_upright_numbers) := ⟨rfl, rfl, rfl, by decide +kernel, rfl, by decide +kernel, by decide +kernel⟩
def t_upright_numbers (K : PySem.W.Frag) (c : Cs) (p_all_numbers p_column_sums : Sp) : TS :=
    (tSeq (tIfS (tTest (tOp rEq (tVar 0) (tC (.int 0)))) (tRet (tOp rCat (tCall p_all_numbers [] E0 (tCons (tVar 1) tNil)) (tLst (tCons (tC (.int 0)) tNil)))) tNext)
    (tSeq (tIfS (tTest (tOp rEq (tVar 0) (tC (.int 1)))) (tRet (tOp rCat (tCall p_column_sums [] E0 (tCons (tVar 1) tNil)) (tLst (tCons (tC (.int 0)) tNil)))) tNext)
    (tSeq (tIfS (tTest (tOp rEq (tVar 0) (tC (.int 3)))) (tRet (tCall p_all_numbers [] E0 (tCons (tSl (rSlL K) (tVar 1) (tPart (tC (.int 1))) tNoPart) tNil))) tNext)
    (tRet (tCall p_all_numbers [] E0 (tCons (tVar 1) tNil))))))
theorem der_upright_numbers {P : Program} {w : World} {K : PySem.W.Frag} {mg : Str → Option Value} {base : Heap} {c : Cs} {p_all_numbers p_column_sums : Sp} (T : Txt K mg c)
    (c_all_numbers : C8.Cal P w K mg base 2 "all_numbers" p_all_numbers [])
    (c_column_sums : C8.Cal P w K mg base 2 "column_sums" p_column_sums [])
    {f : Addr} {cdv : Value} {A : Around} {outer : List Env} {s : Shared} {H : Hp} {E : XK}  (hr : Room 2 (A.deeper (envOfC "upright_numbers" (defScope s_upright_numbers) s.heap.objs.size f cdv))) :
    PSs (cxOf CX0 P w K mg base ["kind", "rows"] "upright_numbers" (defScope s_upright_numbers) f cdv A outer s H E).nox (defBody s_upright_numbers) (t_upright_numbers K c p_all_numbers p_column_sums) :=
    (pss_cons (ps_if (pt_cmpR op_eq (pv 0) (C8.pe_gc (v := .int 0) (by rfl) T.gSIDE_BY_SIDE) (nomark _)) (pss_one (ps_ret (pe_op op_cat (C8.pe_c c_all_numbers hr (by decide) (by rfl) (pa_cons (pv 1) pa_nil)) (pe_lst (pa_cons pe_int pa_nil))))) pss_nil)
      (pss_cons (ps_if (pt_cmpR op_eq (pv 0) (C8.pe_gc (v := .int 1) (by rfl) T.gSTACKED) (nomark _)) (pss_one (ps_ret (pe_op op_cat (C8.pe_c c_column_sums hr (by decide) (by rfl) (pa_cons (pv 1) pa_nil)) (pe_lst (pa_cons pe_int pa_nil))))) pss_nil)
      (pss_cons (ps_if (pt_cmpR op_eq (pv 0) (C8.pe_gc (v := .int 3) (by rfl) T.gPOINTS) (nomark _)) (pss_one (ps_ret (C8.pe_c c_all_numbers hr (by decide) (by rfl) (pa_cons (pe_slice sl_list (pv 1) (po_some pe_int) po_none) pa_nil)))) pss_nil)
      (pss_one (ps_ret (C8.pe_c c_all_numbers hr (by decide) (by rfl) (pa_cons (pv 1) pa_nil)))))))
end DC
namespace DC
open PySem PySem.Spec PyProof.Rows L2 Evl
section
variable {K : PySem.W.Frag} {mg : Str → Option Value} {c : Cs} {vs : List V} {H : Hp} {Q : VK} {E : XK}
theorem there_map (r : Series) : (r.filter fun o => !decide (oV o = V.non)).map oV = nV (r.filterMap id) := by
  induction r with
  | nil => rfl
  | cons o r ih =>
    cases o with
    | none =>
      rw [List.filter_cons_of_neg (by decide)]
      exact ih
    | some z =>
      rw [List.filter_cons_of_pos (p := fun o => !decide (oV o = V.non)) (a := some z) (show (!decide (V.int z = V.non)) = true from by rw [decide_eq_false (fun e => by cases e)]; rfl)]
      show V.int z :: _ = V.int z :: _
      rw [ih] <;> rfl
theorem pure_numbers_there (h : sp_there vs H Q E) : t_numbers_there K c { nx := fun _ H' => Q .non H', rt := Q } (start ["row", "number"] vs) H := by
  obtain ⟨p, r, rfl, hp, hl, k⟩ := h
  exact ret_l (el_is (el_lcF oV r (fun o => !decide (oV o = V.non)) oV (ev_var rfl) hp (by omega) (fun x => rfl) (fun x H1 hx e => et_test (ev_notN (ev_var rfl))) fun x H1 hx e _ => ev_var rfl) (there_map r)) k
theorem use_there {p : Addr} {r : Series} (h : H p = some (.lst (r.map oV))) (hl : r.length ≤ 10000) : SpL sp_there [.ref p] H (nV (r.filterMap id)) := fun _ e _ q _ => ⟨p, r, rfl, e _ _ h, hl, q⟩
theorem there_len : ∀ {rs : List Series}, (∀ r ∈ rs, r.length ≤ 512) → (there rs).length ≤ 512 * rs.length
  | [], _ => by simp [there, Si28.there]
  | r :: rs, h => by
    have ih := there_len (rs := rs) fun x hx => h x (List.mem_cons_of_mem _ hx)
    have h1 := h r List.mem_cons_self
    show (r.filterMap id ++ there rs).length ≤ _
    have h2 := List.length_filterMap_le id r
    rw [List.length_append, List.length_cons]
    omega
theorem there_more {rs : List Series} {i : Nat} {r : Series} (h : rs[i]? = some r) : there (rs.take (i + 1)) = there (rs.take i) ++ r.filterMap id := by
  rw [take_more h]
  unfold there Si28.there
  rw [List.flatMap_append]
  simp
theorem pure_all_numbers (h : sp_all_numbers vs H Q E) : t_all_numbers K c sp_there { nx := fun _ H' => Q .non H', rt := Q } (start ["rows", "numbers", "row"] vs) H := by
  obtain ⟨p, rs, rfl, ⟨ps, hp, hr⟩, ⟨l1, l2⟩, k⟩ := h
  refine q_asgL (el_lst ea_nil (by decide)) fun w H1 hw e1 h1 => ?_
  refine q_forLn (ev_var rfl) (sq_of (e1 _ _ hp)) (fun i σ H' => ∃ v, σ = [some (.ref p), some (.ref w), v] ∧ Ex H H' ∧ H' w = some (.lst (nV (there (rs.take i))))) (fun H2 e2 => ⟨_, rfl, e1.trans e2, e2 _ _ h1⟩) (fun i σ' H' _ ⟨v, _, x1, _⟩ => sq_of (x1 _ _ hp)) ?_ ?_
  · rintro i x σ' H' hx ⟨v, rfl, x1, x2⟩
    obtain ⟨q, r, rfl, h2, h3, h4⟩ := hr.of hx
    have hm : r ∈ rs := List.mem_of_getElem? h3
    have n1 := there_len (rs := rs.take i) fun r hr => l2 r (List.mem_of_mem_take hr)
    have n2 := List.length_filterMap_le id r
    have n3 := l2 r hm
    have n4 := List.length_take_le' i rs
    refine s_extL x2 (ev_var rfl) (el_cal (ea_cons (ev_var rfl) ea_nil) (use_there (x1 _ _ h4) (by omega))) (sz16 (by rw [nV_len, nV_len]; omega)) fun H2 e2 => ⟨_, rfl, Ex.mut (x1.trans e2) hw, ?_⟩
    rw [upd_same, nV_app, there_more h3]
  · rintro σ' H' ⟨v, rfl, x1, x2⟩
    rw [List.length_map, hr.1, List.take_length] at x2
    exact ret_ref (ev_var rfl) hw x1 x2 k
theorem use_all {p : Addr} {rs : List Series} (h : RowsAt H p rs) (l : rs.length ≤ 16 ∧ ∀ r ∈ rs, r.length ≤ 512) : SpL sp_all_numbers [.ref p] H (nV (there rs)) := fun _ e _ q _ => ⟨p, rs, rfl, h.mono e, l, q⟩
theorem sumsOf_more (rs : List Series) (n : Nat) : sumsOf rs (n + 1) = sumsOf rs n ++ [((colN rs n).filter fun z => decide (0 ≤ z)).sum, ((colN rs n).filter fun z => decide (z < 0)).sum] := by
  unfold sumsOf
  rw [List.range_succ, List.flatMap_append]
  simp
theorem sumsOf_len (rs : List Series) : ∀ n, (sumsOf rs n).length = 2 * n
  | 0 => rfl
  | n + 1 => by
    rw [sumsOf_more, List.length_append, sumsOf_len rs n]
    show 2 * n + 2 = _
    omega
theorem colN_map (rs : List Series) (j : Nat) : (rs.map fun r => (r[j]?).bind id).filterMap id = colN rs j := by
  unfold colN
  rw [List.filterMap_map] <;> rfl
/-- numbers_there([row[column] for row in rows]) -/
theorem el_col {te tl : TE} {σ : L2.St} {j : Nat} {vs : List Nat} {p : Addr} {rs : List Series} {n m : Nat} (h : Ev tl σ H (.ref p)) (hx : RowsAt H p rs) (o : ∀ r ∈ rs, r.length = n) (hm : m < n) (hz : rs.length ≤ 10000) (hw : ∀ x, wipe ((wipe σ vs).set j (some x)) vs = wipe σ vs)
    (h1 : ∀ H1 q, Ex H H1 → Ev te ((wipe σ vs).set j (some (.ref q))) H1 (.int (m : Int))) (h2 : ∀ x, ((wipe σ vs).set j (some x))[j]? = some (some x)) :
    EvL (tCall sp_there [] E0 (tCons (tLc (iList K tl) (gName j) tYes (tOp (rIxL K) (tVar j) te) vs) tNil)) σ H (nV (colN rs m)) := by
  obtain ⟨ps, hp, hr⟩ := hx
  refine el_calL (xs := (rs.map fun r => (r[m]?).bind id).map oV) (el_is (el_lcRows (fun r => oV ((r[m]?).bind id)) h hp hr (by omega) hw fun q r H1 hr e hq => ?_) (by rw [List.map_map] <;> rfl)) ea_nil fun w H1 hw e => ?_
  · obtain ⟨v, hv⟩ : ∃ v, r[m]? = some v := ⟨_, List.getElem?_eq_getElem (by rw [o r hr]; exact hm)⟩
    refine ev_is (ev_ixL (ev_var (h2 _)) (h1 H1 q e) (sq_of hq) (atI_nat (oV_get hv))) ?_
    rw [hv] <;> rfl
  · have := use_there (H := H1) hw (by rw [List.length_map]; omega)
    rw [colN_map] at this
    exact this
/-- sum([x for x in xs if t(x)]) -/
theorem ev_sumF {tl te : TE} {t : TT} {σ : L2.St} {j : Nat} {vs : List Nat} {p : Addr} (ns : List Int) (f : Int → Bool) (h : Ev tl σ H (.ref p)) (hx : H p = some (.lst (nV ns))) (hz : ns.length ≤ 40000) (hw : ∀ x, wipe ((wipe σ vs).set j (some x)) vs = wipe σ vs)
    (ht : ∀ (x : Int) H1, x ∈ ns → Ex H H1 → EvT t ((wipe σ vs).set j (some (.int x))) H1 (f x)) (he : ∀ (x : Int) H1, x ∈ ns → Ex H H1 → f x = true → Ev te ((wipe σ vs).set j (some (.int x))) H1 (.int x)) :
    Ev (tCB (rSum K) (tCons (tLc (iList K tl) (gName j) t te vs) tNil)) σ H (.int (ns.filter f).sum) := ev_sumN (el_lcF V.int ns f V.int h hx hz hw ht he)
theorem pure_column_sums (h : sp_sums vs H Q E) : t_column_sums K c sp_there { nx := fun _ H' => Q .non H', rt := Q } (start ["rows", "sums", "column", "numbers", "row", "number"] vs) H := by
  obtain ⟨p, rs, n, rfl, hR, o, k⟩ := h
  have hR' := hR
  obtain ⟨ps, hp, hr⟩ := hR
  have n2 := o.n2
  have k2 := o.k2
  obtain ⟨r, hr0, _, hl, _⟩ := o.head
  obtain ⟨q, hq, h5⟩ := RowsAt.row hr hr0
  refine q_asgL (el_lst ea_nil (by decide)) fun w H1 hw e1 h1 => ?_
  refine q_forR1 (n := (n : Int)) (ea_cons (ev_is (ev_len (ev_ixL (ev_var rfl) ev_c (sq_of (e1 _ _ hp)) (atI_nat (j := 0) (ref_get hq))) (sq_of (e1 _ _ h5))) (by rw [List.length_map, hl])) ea_nil) (by omega)
    (fun i σ H' => ∃ v3 v4 v5 v6, σ = [some (.ref p), some (.ref w), v3, v4, v5, v6] ∧ Ex H H' ∧ H' w = some (.lst (nV (sumsOf rs i)))) (fun H2 e2 => ⟨_, _, _, _, rfl, e1.trans e2, e2 _ _ h1⟩) ?_ ?_
  · rintro i σ' H' hi ⟨v3, v4, v5, v6, rfl, x1, x2⟩
    have hc := colN_len rs i
    have hs := sumsOf_len rs i
    refine q_asgL (el_col (n := n) (m := i) (ev_var rfl) (hR'.mono x1) o.len (by omega) (by omega) (fun x => rfl) (fun H2 q2 e2 => ev_var rfl) (fun x => rfl)) fun m H2 hm e2 h2 => ?_
    have nw : m ≠ w := fun z => by rw [z, x2] at hm; cases hm
    refine q_appB (e2 _ _ x2) (ev_var rfl) (ev_sumF (colN rs i) (fun z => decide (0 ≤ z)) (ev_var rfl) h2 (by omega) (fun x => rfl) (fun x H3 _ _ => et_test (ev_ge (ev_var rfl) ev_c)) fun x H3 _ _ _ => ev_var rfl) (sz16l (by rw [nV_len]; omega)) fun H3 e3 => ?_
    refine s_appB upd_same (ev_var rfl) (ev_sumF (colN rs i) (fun z => decide (z < 0)) (ev_var rfl) (by rw [upd_ne nw]; exact e3 _ _ h2) (by omega) (fun x => rfl) (fun x H3 _ _ => et_test (ev_lt (ev_var rfl) ev_c)) fun x H3 _ _ _ => ev_var rfl) (sz16l (by rw [List.length_append, nV_len]; show _ + 1 < _; omega)) fun H4 e4 => ?_
    refine ⟨_, _, _, _, rfl, ?_, ?_⟩
    · have z := Ex.mut (o := .lst (nV (sumsOf rs i) ++ [V.int ((colN rs i).filter fun z => decide (0 ≤ z)).sum])) ((x1.trans e2).trans e3) hw
      exact Ex.mut (z.trans e4) hw
    · rw [upd_same, sumsOf_more]
      unfold nV
      rw [List.map_append, List.append_assoc] <;> rfl
  · rintro σ' H' ⟨v3, v4, v5, v6, rfl, x1, x2⟩
    rw [show ((n : Int)).toNat = n by omega] at x2
    exact ret_ref (ev_var rfl) hw x1 x2 k
theorem use_sums {p : Addr} {rs : List Series} {n : Nat} (h : RowsAt H p rs) (o : RowsOk n rs) : SpL sp_sums [.ref p] H (nV (sumsOf rs n)) := fun _ e _ q _ => ⟨p, rs, n, rfl, h.mono e, o, q⟩
theorem RowsOk.small_len {n : Nat} {rs : List Series} (o : RowsOk n rs) : rs.length ≤ 16 ∧ ∀ r ∈ rs, r.length ≤ 512 := ⟨o.k2, fun r hr => by rw [o.len r hr]; exact o.n2⟩
theorem pure_upright_numbers (h : sp_upright_numbers vs H Q E) : t_upright_numbers K c sp_all_numbers sp_sums { nx := fun _ H' => Q .non H', rt := Q } (start ["kind", "rows"] vs) H := by
  obtain ⟨p, s, rfl, hR, o, k⟩ := h
  have hl := o.small_len
  have n2 := o.n2
  have t1 := there_len hl.2
  have cl : ∀ m, (s.look.kind : Int) = ((m : Nat) : Int) ↔ s.look.kind = m := fun m => by omega
  refine q_when (et_test (ev_eqI (ev_var rfl) ev_c)) (fun hb H1 e => ?_) fun hb0 H1 e1 => ?_
  · have z : upN s.chart = there s.series ++ [0] := if_pos ((cl 0).mp (of_decide_eq_true hb))
    rw [z] at k
    refine ret_l (el_is (el_cat (el_cal (ea_cons (ev_var rfl) ea_nil) (use_all (hR.mono e) hl)) (el_lst (ea_cons ev_c ea_nil) (by decide)) (by rw [nV_len]; show _ + 1 ≤ _; omega)) (nV_app _ [0])) (RetL.up k e)
  refine q_when (et_test (ev_eqI (ev_var rfl) ev_c)) (fun hb H2 e => ?_) fun hb1 H2 e2 => ?_
  · have z : upN s.chart = sumsOf s.series s.chart.n ++ [0] := (if_neg fun q => of_decide_eq_false hb0 ((cl 0).mpr q)).trans (if_pos ((cl 1).mp (of_decide_eq_true hb)))
    rw [z] at k
    refine ret_l (el_is (el_cat (el_cal (ea_cons (ev_var rfl) ea_nil) (use_sums (hR.mono (e1.trans e)) o)) (el_lst (ea_cons ev_c ea_nil) (by decide)) (by rw [nV_len, sumsOf_len]; show _ + 1 ≤ _; omega)) (nV_app _ [0])) (RetL.up k (e1.trans e))
  refine q_when (et_test (ev_eqI (ev_var rfl) ev_c)) (fun hb H3 e => ?_) fun hb3 H3 e3 => ?_
  · have z : upN s.chart = there (s.series.drop 1) := (if_neg fun q => of_decide_eq_false hb0 ((cl 0).mpr q)).trans ((if_neg fun q => of_decide_eq_false hb1 ((cl 1).mpr q)).trans (if_pos ((cl 3).mp (of_decide_eq_true hb))))
    rw [z] at k
    obtain ⟨ps, hp, hr⟩ := hR.mono ((e1.trans e2).trans e)
    refine ret_l (el_calL (xs := (ps.drop 1).map V.ref) (el_is (el_sl (ev_var rfl) (eo_some ev_c) eo_none (sq_of hp)) (by rw [show (1 : Int) = ((1 : Nat) : Int) from rfl, cutV_from, List.map_drop])) ea_nil fun w H4 hw e4 => use_all ⟨ps.drop 1, hw, (hr.drop 1).mono e4⟩ ⟨?_, fun r hr => hl.2 r (List.mem_of_mem_drop hr)⟩) (RetL.up k ((e1.trans e2).trans e))
    rw [List.length_drop]
    omega
  · have z : upN s.chart = there s.series := (if_neg fun q => of_decide_eq_false hb0 ((cl 0).mpr q)).trans ((if_neg fun q => of_decide_eq_false hb1 ((cl 1).mpr q)).trans (if_neg fun q => of_decide_eq_false hb3 ((cl 3).mpr q)))
    rw [z] at k
    exact ret_l (el_cal (ea_cons (ev_var rfl) ea_nil) (use_all (hR.mono ((e1.trans e2).trans e3)) hl)) (RetL.up k ((e1.trans e2).trans e3))
theorem pure_upright_axis (T : Txt K mg c) (h : sp_axis false c vs H Q E) : t_Chart_upright_axis K c (sp_axis_of c) sp_upright_numbers { nx := fun _ H' => Q .non H', rt := Q } (start ["self"] vs) H := by
  obtain ⟨a, s, n, rfl, ⟨dx, pr, pl, h1, hR, dl, h4⟩, o, lk, k⟩ := h
  have o' := o
  rw [← o.n_is] at o'
  rw [up_axis] at k
  refine ret_n (en_calL (xs := nV (upN s.chart)) (el_cal (ea_cons (ev_fld (ev_fld (ev_var rfl) h1 T.c_ch T.a_ch_look l_ch_look) h4 T.c_lk T.a_lk_kind l_lk_kind) (ea_cons (ev_fld (ev_var rfl) h1 T.c_ch T.a_ch_rows l_ch_rows) ea_nil)) fun H1 e _ q _ => ⟨pr, s, rfl, hR.mono e, o', q⟩)
    (ea_cons (ev_fld (ev_fld (ev_var rfl) h1 T.c_ch T.a_ch_look l_ch_look) h4 T.c_lk T.a_lk_steps l_lk_steps) ea_nil) fun w H1 hw e H2 e2 _ q _ => ⟨w, upN s.chart, s.look.most, rfl, e2 _ _ hw, upN_small o, lk.m1, lk.m2, q⟩) k
theorem pure_along_axis (T : Txt K mg c) (h : sp_axis true c vs H Q E) : t_Chart_along_axis K c (sp_axis_of c) sp_there { nx := fun _ H' => Q .non H', rt := Q } (start ["self"] vs) H := by
  obtain ⟨a, s, n, rfl, hc, o, lk, k⟩ := h
  obtain ⟨q, r, hr, hl, h5, he⟩ := row0 T (σ := start ["self"] [V.ref a]) (ev_var (i := 0) rfl) hc o
  obtain ⟨dx, pr, pl, h1, hR, dl, h4⟩ := hc
  have n2 := o.n2
  have e1 : there (s.series.take 1) = r.filterMap id := by
    rw [show (1 : Nat) = 0 + 1 from rfl, there_more hr]
    rfl
  rw [along_axis] at k
  have k : RetN (fun p H' => AxAt c H' p (axM (there (s.series.take 1)) s.look.most)) H Q := k
  have sm : Sm (there (s.series.take 1)) := there_small o fun r h => List.mem_of_mem_take h
  rw [e1] at k sm
  refine ret_n (en_calL (xs := nV (r.filterMap id)) (el_cal (ea_cons he ea_nil) (use_there h5 (by omega)))
    (ea_cons (ev_fld (ev_fld (ev_var rfl) h1 T.c_ch T.a_ch_look l_ch_look) h4 T.c_lk T.a_lk_steps l_lk_steps) ea_nil) fun w H1 hw e H2 e2 _ q _ => ⟨w, r.filterMap id, s.look.most, rfl, e2 _ _ hw, sm, lk.m1, lk.m2, q⟩) k
theorem pure_are_rows (h : sp_are_rows vs H Q E) : t_are_rows K c sp_there { nx := fun _ H' => Q .non H', rt := Q } (start ["length", "rows", "row", "number"] vs) H := by
  obtain ⟨p, n, rs, rfl, ⟨ps, hp, hr⟩, ⟨l1, l2⟩, k⟩ := h
  refine q_when (et_or (et_not (et_test (ev_leLe ev_c (ev_var rfl) ev_c))) fun _ => et_not (et_test (ev_leLe ev_c (ev_len (ev_var rfl) (sq_of hp)) ev_c))) (fun hb H1 e => ?_) fun hb H1 e1 => ?_
  · have z : rowsOk n rs = false := by
      rw [List.length_map, hr.1] at hb
      unfold rowsOk
      rw [Bool.and_eq_false_iff, Bool.and_eq_false_iff]
      left
      simp only [Bool.or_eq_true, Bool.not_eq_true', Bool.and_eq_false_iff, decide_eq_false_iff_not] at hb ⊢
      omega
    rw [z] at k
    exact ret_v ev_c (RetV.up k e)
  have z : (decide (1 ≤ n) && decide (n ≤ 512) && (decide (1 ≤ rs.length) && decide (rs.length ≤ 16))) = true := by
    rw [List.length_map, hr.1] at hb
    simp only [Bool.or_eq_false_iff, Bool.not_eq_false', Bool.and_eq_true, decide_eq_true_eq] at hb ⊢
    omega
  have zz : rowsOk n rs = rs.all (rowOk n) := by
    unfold rowsOk
    rw [z] <;> rfl
  rw [zz] at k
  refine q_forLn (ev_var rfl) (sq_of (e1 _ _ hp)) (fun i σ H' => (∃ v v', σ = [some (.int (n : Int)), some (.ref p), v, v']) ∧ Ex H H' ∧ (rs.take i).all (rowOk n) = true) (fun H2 e2 => ⟨⟨_, _, rfl⟩, e1.trans e2, rfl⟩) (fun i σ' H' _ ⟨_, x1, _⟩ => sq_of (x1 _ _ hp)) ?_ ?_
  · rintro i x σ' H' hx ⟨⟨v, v', rfl⟩, x1, x2⟩
    obtain ⟨q, r, rfl, h2, h3, h4⟩ := hr.of hx
    have hm : r ∈ rs := List.mem_of_getElem? h3
    have hl := l2 r hm
    have hf := List.length_filterMap_le id r
    refine s_when (b := !rowOk n r) (et_is (et_or (et_test (ev_neI (ev_len (ev_var rfl) (sq_of (x1 _ _ h4))) (ev_var rfl))) fun _ => et_B (ev_anyN (bs := (r.filterMap id).map fun z => decide (10 ^ 36 ≤ (if z < 0 then -z else z))) (el_is (el_lcFN V.int (r.filterMap id) (fun _ => true) (fun z => V.bl (decide (10 ^ 36 ≤ (if z < 0 then -z else z)))) (el_cal (ea_cons (ev_var rfl) ea_nil) (use_there (x1 _ _ h4) hl)) (by omega) (fun x => rfl) (fun x H2 _ _ => et_yes) fun x H2 _ _ _ => ev_ge (ev_abs (ev_var rfl)) (ev_pow ev_c ev_c ⟨by decide, by decide, by decide⟩)) ?_))) ?_) (fun hb H2 e2 => ?_) fun hb H2 e2 => ?_
    · rw [List.filter_eq_self.mpr fun _ _ => rfl, List.map_map] <;> rfl
    · unfold rowOk
      rw [List.length_map, Bool.not_and, show decide ((r.length : Int) = (n : Int)) = decide (r.length = n) from decide_eq_decide.mpr (by omega), List.any_map]
      congr 1
      rw [List.not_all_eq_any_not]
      congr 1
      funext z
      unfold small36
      simp
    · have z : rs.all (rowOk n) = false := by
        cases q : rs.all (rowOk n) with
        | false => rfl
        | true =>
          rw [List.all_eq_true.mp q r hm] at hb
          cases hb
      rw [z] at k
      exact ret_v ev_c (RetV.up k (x1.trans e2))
    · refine ⟨⟨_, _, rfl⟩, x1.trans e2, ?_⟩
      rw [take_more h3, List.all_append, x2]
      show (rowOk n r && true) = true
      rw [Bool.and_true]
      cases q : rowOk n r with
      | true => rfl
      | false => rw [q] at hb; cases hb
  · rintro σ' H' ⟨_, x1, x2⟩
    rw [List.length_map, hr.1, List.take_length] at x2
    rw [x2] at k
    exact ret_v ev_c (RetV.up k x1)
end
end DC
namespace DC
open PySem PySem.Spec PyProof.Rows L2 Evl
/-! Bars.__init__: level 5 -/
abbrev s_Bars_init : Stmt := inClass (top 20) 0
theorem sc_Bars_init : FnScope ["self", "chart"] ["self", "chart"] (defScope s_Bars_init) := ⟨rfl, rfl, rfl, by decide +kernel, rfl, by decide +kernel, by decide +kernel⟩
def t_Bars_init (K : PySem.W.Frag) (c : Cs) (p_Chart_upright_axis : Sp) : TS :=
    (tSeq (sFld K (tVar 0) (tVar 1) "chart")
    (sFld K (tVar 0) (tMeth c.ch "upright_axis" p_Chart_upright_axis [] E0 (tVar 1) tNil) "upright"))
theorem der_Bars_init {P : Program} {w : World} {K : PySem.W.Frag} {mg : Str → Option Value} {base : Heap} {c : Cs} {p_Chart_upright_axis : Sp} (T : Txt K mg c)
    (c_Chart_upright_axis : C8.Met P w K mg base 4 c.ch "upright_axis" p_Chart_upright_axis [])
    {f : Addr} {cdv : Value} {A : Around} {outer : List Env} {s : Shared} {H : Hp} {E : XK}  (hr : Room 4 (A.deeper (envOfC "Bars.__init__" (defScope s_Bars_init) s.heap.objs.size f cdv))) :
    PSs (cxOf CX0 P w K mg base ["self", "chart"] "Bars.__init__" (defScope s_Bars_init) f cdv A outer s H E).nox (defBody s_Bars_init) (t_Bars_init K c p_Chart_upright_axis) :=
    (pss_cons (ps_fld (pv 0) (pv 1) rfl)
      (pss_one (ps_fld (pv 0) (C8.pe_mt0 c_Chart_upright_axis hr (by decide) (pv 1)) rfl)))
end DC
namespace DC
open PySem PySem.Spec PyProof.Rows L2 Evl
/-! Bars.place_of: level 5 -/
abbrev s_Bars_place_of : Stmt := inClass (top 20) 1
theorem sc_Bars_place_of : FnScope ["self", "row", "column"] ["self", "row", "column"] (defScope s_Bars_place_of) := ⟨rfl, rfl, rfl, by decide +kernel, rfl, by decide +kernel, by decide +kernel⟩
def t_Bars_place_of (K : PySem.W.Frag) (c : Cs) (p_Chart_number_at p_Bars_sides_of p_Bars_ends_of : Sp) : TS :=
    (tSeq (tIfS (tTest (tOp rIsN (tMeth c.ch "number_at" p_Chart_number_at [] E0 (tFld K (tVar 0) "chart") (tCons (tVar 1) (tCons (tVar 2) tNil))) (tC .non))) (tRet (tC .non)) tNext)
    (tRet (tOp rCat (tMeth c.ba "sides_of" p_Bars_sides_of [] E0 (tVar 0) (tCons (tVar 1) (tCons (tVar 2) tNil))) (tMeth c.ba "ends_of" p_Bars_ends_of [] E0 (tVar 0) (tCons (tVar 1) (tCons (tVar 2) tNil))))))
theorem der_Bars_place_of {P : Program} {w : World} {K : PySem.W.Frag} {mg : Str → Option Value} {base : Heap} {c : Cs} {p_Chart_number_at p_Bars_sides_of p_Bars_ends_of : Sp} (T : Txt K mg c)
    (c_Chart_number_at : C8.Met P w K mg base 2 c.ch "number_at" p_Chart_number_at [])
    (c_Bars_sides_of : C8.Met P w K mg base 2 c.ba "sides_of" p_Bars_sides_of [])
    (c_Bars_ends_of : C8.Met P w K mg base 4 c.ba "ends_of" p_Bars_ends_of [])
    {f : Addr} {cdv : Value} {A : Around} {outer : List Env} {s : Shared} {H : Hp} {E : XK}  (hr : Room 4 (A.deeper (envOfC "Bars.place_of" (defScope s_Bars_place_of) s.heap.objs.size f cdv))) :
    PSs (cxOf CX0 P w K mg base ["self", "row", "column"] "Bars.place_of" (defScope s_Bars_place_of) f cdv A outer s H E).nox (defBody s_Bars_place_of) (t_Bars_place_of K c p_Chart_number_at p_Bars_sides_of p_Bars_ends_of) :=
    (pss_cons (ps_if (pt_cmpR op_isN (C8.pe_mt c_Chart_number_at hr (by decide) (pe_fld (pv 0) rfl) (pa_cons (pv 1) (pa_cons (pv 2) pa_nil))) pe_non (nomark _)) (pss_one (ps_ret pe_non)) pss_nil)
      (pss_one (ps_ret (pe_op op_cat (C8.pe_mt c_Bars_sides_of hr (by decide) (pv 0) (pa_cons (pv 1) (pa_cons (pv 2) pa_nil))) (C8.pe_mt c_Bars_ends_of hr (by decide) (pv 0) (pa_cons (pv 1) (pa_cons (pv 2) pa_nil)))))))
end DC
namespace DC
open PySem PySem.Spec PyProof.Rows L2 Evl
/-! Bars.one_at: level 7 -/
abbrev s_Bars_one_at : Stmt := inClass (top 20) 2
theorem sc_Bars_one_at : FnScope ["self", "x", "y", "column", "band"] ["self", "x", "y"] (defScope s_Bars_one_at) := ⟨rfl, rfl, rfl, by decide +kernel, rfl, by decide +kernel, by decide +kernel⟩
def t_Bars_one_at (K : PySem.W.Frag) (c : Cs) (p_Chart_columns p_Look_band_of p_Bars_one_within : Sp) : TS :=
    (tSeq (tFor (iRng1 (tCons (tMeth c.ch "columns" p_Chart_columns [] E0 (tFld K (tVar 0) "chart") tNil) tNil)) (gName 3) (tSeq (tAsg (tMeth c.lk "band_of" p_Look_band_of [] E0 (tFld K (tFld K (tVar 0) "chart") "look") (tCons (tVar 3) (tCons (tMeth c.ch "columns" p_Chart_columns [] E0 (tFld K (tVar 0) "chart") tNil) tNil))) (gName 4))
    (tIfS (tTest (tChain rLe rLt (tOp (rIxT K) (tVar 4) (tC (.int 0))) (tVar 1) (tOp (rIxT K) (tVar 4) (tC (.int 1))))) (tRet (tMeth c.ba "one_within" p_Bars_one_within [] E0 (tVar 0) (tCons (tVar 3) (tCons (tVar 1) (tCons (tVar 2) tNil))))) tNext)))
    (tRet (tC .non)))
theorem der_Bars_one_at {P : Program} {w : World} {K : PySem.W.Frag} {mg : Str → Option Value} {base : Heap} {c : Cs} {p_Chart_columns p_Look_band_of p_Bars_one_within : Sp} (T : Txt K mg c)
    (c_Chart_columns : C8.Met P w K mg base 1 c.ch "columns" p_Chart_columns [])
    (c_Look_band_of : C8.Met P w K mg base 1 c.lk "band_of" p_Look_band_of [])
    (c_Bars_one_within : C8.Met P w K mg base 6 c.ba "one_within" p_Bars_one_within [])
    {f : Addr} {cdv : Value} {A : Around} {outer : List Env} {s : Shared} {H : Hp} {E : XK}  (hr : Room 6 (A.deeper (envOfC "Bars.one_at" (defScope s_Bars_one_at) s.heap.objs.size f cdv))) :
    PSs (cxOf CX0 P w K mg base ["self", "x", "y", "column", "band"] "Bars.one_at" (defScope s_Bars_one_at) f cdv A outer s H E).nox (defBody s_Bars_one_at) (t_Bars_one_at K c p_Chart_columns p_Look_band_of p_Bars_one_within) :=
    (pss_cons (ps_for PassesOwn.never rfl (pi_range1 (by rfl) T.n_range (pa_cons (C8.pe_mt0 c_Chart_columns hr (by decide) (pe_fld (pv 0) rfl)) pa_nil)) (pg_name (i := 3) sc_Bars_one_at.nd rfl (Or.inl rfl)) (pss_cons (ps_set (i := 4) sc_Bars_one_at.nd rfl (Or.inl rfl) (C8.pe_mt c_Look_band_of hr (by decide) (pe_fld (pe_fld (pv 0) rfl) rfl) (pa_cons (pv 3) (pa_cons (C8.pe_mt0 c_Chart_columns hr (by decide) (pe_fld (pv 0) rfl)) pa_nil))))
      (pss_one (ps_if (pt_chain op_le op_lt (pe_ix ix_tup (pv 4) pe_int (fun _ _ => rfl)) (pv 1) (pe_ix ix_tup (pv 4) pe_int (fun _ _ => rfl))) (pss_one (ps_ret (C8.pe_mt c_Bars_one_within hr (by decide) (pv 0) (pa_cons (pv 3) (pa_cons (pv 1) (pa_cons (pv 2) pa_nil)))))) pss_nil))))
      (pss_one (ps_ret pe_non)))
end DC
namespace DC
open PySem PySem.Spec PyProof.Rows L2 Evl
/-! Bars.one_within: level 6 -/
abbrev s_Bars_one_within : Stmt := inClass (top 20) 3
theorem sc_Bars_one_within : FnScope ["self", "column", "x", "y", "row", "found"] ["self", "column", "x", "y"] (defScope s_Bars_one_within) := ⟨rfl, rfl, rfl, by decide +kernel, rfl, by decide +kernel, by decide +kernel⟩
def t_Bars_one_within (K : PySem.W.Frag) (c : Cs) (p_Bars_place_of : Sp) : TS :=
    (tSeq (tFor (iRng1 (tCons (tCB (rLenS K) (tCons (tFld K (tFld K (tVar 0) "chart") "rows") tNil)) tNil)) (gName 4) (tSeq (tAsg (tMeth c.ba "place_of" p_Bars_place_of [] E0 (tVar 0) (tCons (tVar 4) (tCons (tVar 1) tNil))) (gName 5))
    (tIfS (tAnd (tTest (tOp rNotN (tVar 5) (tC .non))) (tAnd (tTest (tChain rLe rLt (tOp (rIxL K) (tVar 5) (tC (.int 0))) (tVar 2) (tOp (rIxL K) (tVar 5) (tC (.int 1))))) (tTest (tChain rLe rLt (tOp (rIxL K) (tVar 5) (tC (.int 2))) (tVar 3) (tOp (rIxL K) (tVar 5) (tC (.int 3))))))) (tRet (tLst (tCons (tVar 4) (tCons (tVar 1) tNil)))) tNext)))
    (tRet (tC .non)))
theorem der_Bars_one_within {P : Program} {w : World} {K : PySem.W.Frag} {mg : Str → Option Value} {base : Heap} {c : Cs} {p_Bars_place_of : Sp} (T : Txt K mg c)
    (c_Bars_place_of : C8.Met P w K mg base 5 c.ba "place_of" p_Bars_place_of [])
    {f : Addr} {cdv : Value} {A : Around} {outer : List Env} {s : Shared} {H : Hp} {E : XK}  (hr : Room 5 (A.deeper (envOfC "Bars.one_within" (defScope s_Bars_one_within) s.heap.objs.size f cdv))) :
    PSs (cxOf CX0 P w K mg base ["self", "column", "x", "y", "row", "found"] "Bars.one_within" (defScope s_Bars_one_within) f cdv A outer s H E).nox (defBody s_Bars_one_within) (t_Bars_one_within K c p_Bars_place_of) :=
    (pss_cons (ps_for PassesOwn.never rfl (pi_range1 (by rfl) T.n_range (pa_cons (pe_callB call_len_seq (by rfl) T.n_len b_len (pa_cons (pe_fld (pe_fld (pv 0) rfl) rfl) pa_nil)) pa_nil)) (pg_name (i := 4) sc_Bars_one_within.nd rfl (Or.inl rfl)) (pss_cons (ps_set (i := 5) sc_Bars_one_within.nd rfl (Or.inl rfl) (C8.pe_mt c_Bars_place_of hr (by decide) (pv 0) (pa_cons (pv 4) (pa_cons (pv 1) pa_nil))))
      (pss_one (ps_if (PW.pt (pw_and (pt_cmpR op_notN (pv 5) pe_non (nomark _)) (pw_and (pt_chain op_le op_lt (pe_ix ix_list (pv 5) pe_int (fun _ _ => rfl)) (pv 2) (pe_ix ix_list (pv 5) pe_int (fun _ _ => rfl))) (pw_and1 (pt_chain op_le op_lt (pe_ix ix_list (pv 5) pe_int (fun _ _ => rfl)) (pv 3) (pe_ix ix_list (pv 5) pe_int (fun _ _ => rfl))))))) (pss_one (ps_ret (pe_lst (pa_cons (pv 4) (pa_cons (pv 1) pa_nil))))) pss_nil))))
      (pss_one (ps_ret pe_non)))
end DC
namespace DC
open PySem PySem.Spec PyProof.Rows L2 Evl
/-! Bars.sides_of: level 2 -/
abbrev s_Bars_sides_of : Stmt := inClass (top 20) 4
theorem sc_Bars_sides_of : FnScope ["self", "row", "column", "band", "free", "inner", "left", "count"] ["self", "row", "column"] (defScope s_Bars_sides_of) := ⟨rfl, rfl, rfl, by decide +kernel, rfl, by decide +kernel, by decide +kernel⟩
def t_Bars_sides_of (K : PySem.W.Frag) (c : Cs) (p_Look_band_of p_Chart_columns : Sp) : TS :=
    (tSeq (tAsg (tMeth c.lk "band_of" p_Look_band_of [] E0 (tFld K (tFld K (tVar 0) "chart") "look") (tCons (tVar 2) (tCons (tMeth c.ch "columns" p_Chart_columns [] E0 (tFld K (tVar 0) "chart") tNil) tNil))) (gName 3))
    (tSeq (tAsg (tOp rDiv (tOp rSub (tOp (rIxT K) (tVar 3) (tC (.int 1))) (tOp (rIxT K) (tVar 3) (tC (.int 0)))) (tC (.int 4))) (gName 4))
    (tSeq (tAsg (tOp rSub (tOp rSub (tOp (rIxT K) (tVar 3) (tC (.int 1))) (tOp (rIxT K) (tVar 3) (tC (.int 0)))) (tVar 4)) (gName 5))
    (tSeq (tAsg (tOp rAdd (tOp (rIxT K) (tVar 3) (tC (.int 0))) (tOp rDiv (tVar 4) (tC (.int 2)))) (gName 6))
    (tSeq (tIfS (tTest (tOp rEq (tFld K (tFld K (tFld K (tVar 0) "chart") "look") "kind") (tC (.int 1)))) (tRet (tLst (tCons (tVar 6) (tCons (tOp rAdd (tVar 6) (tVar 5)) tNil)))) tNext)
    (tSeq (tAsg (tCB (rLenS K) (tCons (tFld K (tFld K (tVar 0) "chart") "rows") tNil)) (gName 7))
    (tRet (tLst (tCons (tOp rAdd (tVar 6) (tOp rDiv (tOp rMul (tVar 1) (tVar 5)) (tVar 7))) (tCons (tOp rAdd (tVar 6) (tOp rDiv (tOp rMul (tOp rAdd (tVar 1) (tC (.int 1))) (tVar 5)) (tVar 7))) tNil))))))))))
theorem der_Bars_sides_of {P : Program} {w : World} {K : PySem.W.Frag} {mg : Str → Option Value} {base : Heap} {c : Cs} {p_Look_band_of p_Chart_columns : Sp} (T : Txt K mg c)
    (c_Look_band_of : C8.Met P w K mg base 1 c.lk "band_of" p_Look_band_of [])
    (c_Chart_columns : C8.Met P w K mg base 1 c.ch "columns" p_Chart_columns [])
    {f : Addr} {cdv : Value} {A : Around} {outer : List Env} {s : Shared} {H : Hp} {E : XK}  (hr : Room 1 (A.deeper (envOfC "Bars.sides_of" (defScope s_Bars_sides_of) s.heap.objs.size f cdv))) :
    PSs (cxOf CX0 P w K mg base ["self", "row", "column", "band", "free", "inner", "left", "count"] "Bars.sides_of" (defScope s_Bars_sides_of) f cdv A outer s H E).nox (defBody s_Bars_sides_of) (t_Bars_sides_of K c p_Look_band_of p_Chart_columns) :=
    (pss_cons (ps_set (i := 3) sc_Bars_sides_of.nd rfl (Or.inl rfl) (C8.pe_mt c_Look_band_of hr (by decide) (pe_fld (pe_fld (pv 0) rfl) rfl) (pa_cons (pv 2) (pa_cons (C8.pe_mt0 c_Chart_columns hr (by decide) (pe_fld (pv 0) rfl)) pa_nil))))
      (pss_cons (ps_set (i := 4) sc_Bars_sides_of.nd rfl (Or.inl rfl) (pe_op op_fdivW (pe_op op_sub (pe_ix ix_tup (pv 3) pe_int (fun _ _ => rfl)) (pe_ix ix_tup (pv 3) pe_int (fun _ _ => rfl))) pe_int))
      (pss_cons (ps_set (i := 5) sc_Bars_sides_of.nd rfl (Or.inl rfl) (pe_op op_sub (pe_op op_sub (pe_ix ix_tup (pv 3) pe_int (fun _ _ => rfl)) (pe_ix ix_tup (pv 3) pe_int (fun _ _ => rfl))) (pv 4)))
      (pss_cons (ps_set (i := 6) sc_Bars_sides_of.nd rfl (Or.inl rfl) (pe_op op_add (pe_ix ix_tup (pv 3) pe_int (fun _ _ => rfl)) (pe_op op_fdivW (pv 4) pe_int)))
      (pss_cons (ps_if (pt_cmpR op_eq (pe_fld (pe_fld (pe_fld (pv 0) rfl) rfl) rfl) (C8.pe_gc (v := .int 1) (by rfl) T.gSTACKED) (nomark _)) (pss_one (ps_ret (pe_lst (pa_cons (pv 6) (pa_cons (pe_op op_add (pv 6) (pv 5)) pa_nil))))) pss_nil)
      (pss_cons (ps_set (i := 7) sc_Bars_sides_of.nd rfl (Or.inl rfl) (pe_callB call_len_seq (by rfl) T.n_len b_len (pa_cons (pe_fld (pe_fld (pv 0) rfl) rfl) pa_nil)))
      (pss_one (ps_ret (pe_lst (pa_cons (pe_op op_add (pv 6) (pe_op op_fdivW (pe_op op_mulW (pv 1) (pv 5)) (pv 7))) (pa_cons (pe_op op_add (pv 6) (pe_op op_fdivW (pe_op op_mulW (pe_op op_add (pv 1) pe_int) (pv 5)) (pv 7))) pa_nil)))))))))))
end DC
namespace DC
open PySem PySem.Spec PyProof.Rows L2 Evl
/-! Bars.ends_of: level 4 -/
abbrev s_Bars_ends_of : Stmt := inClass (top 20) 5
theorem sc_Bars_ends_of : FnScope ["self", "row", "column", "base", "high", "number"] ["self", "row", "column"] (defScope s_Bars_ends_of) := ⟨rfl, rfl, rfl, by decide +kernel, rfl, by decide +kernel, by decide +kernel⟩
def t_Bars_ends_of (K : PySem.W.Frag) (c : Cs) (p_Bars_base_of p_Chart_number_at p_Axis_dot_of : Sp) : TS :=
    (tSeq (tAsg (tMeth c.ba "base_of" p_Bars_base_of [] E0 (tVar 0) (tCons (tVar 1) (tCons (tVar 2) tNil))) (gName 3))
    (tSeq (tAsg (tFld K (tFld K (tFld K (tVar 0) "chart") "look") "high") (gName 4))
    (tSeq (tAsg (tMeth c.ch "number_at" p_Chart_number_at [] E0 (tFld K (tVar 0) "chart") (tCons (tVar 1) (tCons (tVar 2) tNil))) (gName 5))
    (tRet (tCB (rSortedI K) (tCons (tLst (tCons (tMeth c.ax "dot_of" p_Axis_dot_of [] E0 (tFld K (tVar 0) "upright") (tCons (tVar 3) (tCons (tVar 4) tNil))) (tCons (tMeth c.ax "dot_of" p_Axis_dot_of [] E0 (tFld K (tVar 0) "upright") (tCons (tOp rAdd (tVar 3) (tVar 5)) (tCons (tVar 4) tNil))) tNil))) tNil))))))
theorem der_Bars_ends_of {P : Program} {w : World} {K : PySem.W.Frag} {mg : Str → Option Value} {base : Heap} {c : Cs} {p_Bars_base_of p_Chart_number_at p_Axis_dot_of : Sp} (T : Txt K mg c)
    (c_Bars_base_of : C8.Met P w K mg base 3 c.ba "base_of" p_Bars_base_of [])
    (c_Chart_number_at : C8.Met P w K mg base 2 c.ch "number_at" p_Chart_number_at [])
    (c_Axis_dot_of : C8.Met P w K mg base 1 c.ax "dot_of" p_Axis_dot_of [])
    {f : Addr} {cdv : Value} {A : Around} {outer : List Env} {s : Shared} {H : Hp} {E : XK}  (hr : Room 3 (A.deeper (envOfC "Bars.ends_of" (defScope s_Bars_ends_of) s.heap.objs.size f cdv))) :
    PSs (cxOf CX0 P w K mg base ["self", "row", "column", "base", "high", "number"] "Bars.ends_of" (defScope s_Bars_ends_of) f cdv A outer s H E).nox (defBody s_Bars_ends_of) (t_Bars_ends_of K c p_Bars_base_of p_Chart_number_at p_Axis_dot_of) :=
    (pss_cons (ps_set (i := 3) sc_Bars_ends_of.nd rfl (Or.inl rfl) (C8.pe_mt c_Bars_base_of hr (by decide) (pv 0) (pa_cons (pv 1) (pa_cons (pv 2) pa_nil))))
      (pss_cons (ps_set (i := 4) sc_Bars_ends_of.nd rfl (Or.inl rfl) (pe_fld (pe_fld (pe_fld (pv 0) rfl) rfl) rfl))
      (pss_cons (ps_set (i := 5) sc_Bars_ends_of.nd rfl (Or.inl rfl) (C8.pe_mt c_Chart_number_at hr (by decide) (pe_fld (pv 0) rfl) (pa_cons (pv 1) (pa_cons (pv 2) pa_nil))))
      (pss_one (ps_ret (pe_callB cr_sortedI (by rfl) T.n_sorted b_sorted (pa_cons (pe_lst (pa_cons (C8.pe_mt c_Axis_dot_of hr (by decide) (pe_fld (pv 0) rfl) (pa_cons (pv 3) (pa_cons (pv 4) pa_nil))) (pa_cons (C8.pe_mt c_Axis_dot_of hr (by decide) (pe_fld (pv 0) rfl) (pa_cons (pe_op op_add (pv 3) (pv 5)) (pa_cons (pv 4) pa_nil))) pa_nil))) pa_nil)))))))
end DC
namespace DC
open PySem PySem.Spec PyProof.Rows L2 Evl
/-! Bars.base_of: level 3 -/
abbrev s_Bars_base_of : Stmt := inClass (top 20) 6
theorem sc_Bars_base_of : FnScope ["self", "row", "column", "below", "before", "numbers", "number"] ["self", "row", "column"] (defScope s_Bars_base_of) := ⟨rfl, rfl, rfl, by decide +kernel, rfl, by decide +kernel, by decide +kernel⟩
def t_Bars_base_of (K : PySem.W.Frag) (c : Cs) (p_Chart_number_at p_numbers_there : Sp) : TS :=
    (tSeq (tIfS (tTest (tOp rNe (tFld K (tFld K (tFld K (tVar 0) "chart") "look") "kind") (tC (.int 1)))) (tRet (tC (.int 0))) tNext)
    (tSeq (tAsg (tOp rLt (tMeth c.ch "number_at" p_Chart_number_at [] E0 (tFld K (tVar 0) "chart") (tCons (tVar 1) (tCons (tVar 2) tNil))) (tC (.int 0))) (gName 3))
    (tSeq (tAsg (tCall p_numbers_there [] E0 (tCons (tLc (iList K (tSl (rSlL K) (tFld K (tFld K (tVar 0) "chart") "rows") tNoPart (tPart (tVar 1)))) (gName 5) tYes (tOp (rIxL K) (tVar 5) (tVar 2)) [5]) tNil)) (gName 4))
    (tRet (tCB (rSum K) (tCons (tLc (iList K (tVar 4)) (gName 6) (tTest (tOp rEq (tOp rLt (tVar 6) (tC (.int 0))) (tVar 3))) (tVar 6) [6]) tNil))))))
theorem der_Bars_base_of {P : Program} {w : World} {K : PySem.W.Frag} {mg : Str → Option Value} {base : Heap} {c : Cs} {p_Chart_number_at p_numbers_there : Sp} (T : Txt K mg c)
    (c_Chart_number_at : C8.Met P w K mg base 2 c.ch "number_at" p_Chart_number_at [])
    (c_numbers_there : C8.Cal P w K mg base 1 "numbers_there" p_numbers_there [])
    {f : Addr} {cdv : Value} {A : Around} {outer : List Env} {s : Shared} {H : Hp} {E : XK}  (hr : Room 2 (A.deeper (envOfC "Bars.base_of" (defScope s_Bars_base_of) s.heap.objs.size f cdv))) :
    PSs (cxOf CX0 P w K mg base ["self", "row", "column", "below", "before", "numbers", "number"] "Bars.base_of" (defScope s_Bars_base_of) f cdv A outer s H E).nox (defBody s_Bars_base_of) (t_Bars_base_of K c p_Chart_number_at p_numbers_there) :=
    (pss_cons (ps_if (pt_cmpR op_ne (pe_fld (pe_fld (pe_fld (pv 0) rfl) rfl) rfl) (C8.pe_gc (v := .int 1) (by rfl) T.gSTACKED) (nomark _)) (pss_one (ps_ret pe_int)) pss_nil)
      (pss_cons (ps_set (i := 3) sc_Bars_base_of.nd rfl (Or.inr rfl) (pe_cmpR op_lt (C8.pe_mt c_Chart_number_at hr (by decide) (pe_fld (pv 0) rfl) (pa_cons (pv 1) (pa_cons (pv 2) pa_nil))) pe_int (nomark _)))
      (pss_cons (ps_set (i := 4) sc_Bars_base_of.nd rfl (Or.inl rfl) (C8.pe_c c_numbers_there hr (by decide) (by rfl) (pa_cons (pe_lc (own := [("numbers", 5)]) (g := gName 5) (tt := tYes) (by rfl) sc_Bars_base_of.nd (pi_list (pe_slice sl_list (pe_fld (pe_fld (pv 0) rfl) rfl) po_none (po_some (pv 1)))) (blkOk_by (own := [("numbers", 5)]) (N := ["self", "row", "column", "below", "before", "numbers", "number"]) (sc := defScope s_Bars_base_of) (by decide +kernel)) (fun _ _ _ _ _ => pg_name (i := 5) sc_Bars_base_of.nd rfl (Or.inl rfl)) (fun _ _ _ _ _ => pts_nil) (fun _ _ _ _ _ => (pe_ix ix_list (pv 5) (pv 2) (fun _ _ => rfl)))) pa_nil)))
      (pss_one (ps_ret (pe_callB (cr_sum rfl) (by rfl) T.n_sum b_sum (pa_cons (pe_lc (own := [("number", 6)]) (g := gName 6) (tt := (tTest (tOp rEq (tOp rLt (tVar 6) (tC (.int 0))) (tVar 3)))) (by rfl) sc_Bars_base_of.nd (pi_list (pv 4)) (blkOk_by (own := [("number", 6)]) (N := ["self", "row", "column", "below", "before", "numbers", "number"]) (sc := defScope s_Bars_base_of) (by decide +kernel)) (fun _ _ _ _ _ => pg_name (i := 6) sc_Bars_base_of.nd rfl (Or.inl rfl)) (fun _ _ _ _ _ => pts_one (pt_cmpR op_eq (pe_cmpR op_lt (pv 6) pe_int (nomark _)) (pv 3) (nomark _))) (fun _ _ _ _ _ => (pv 6))) pa_nil)))))))
end DC
namespace DC
open PySem PySem.Spec PyProof.Rows L2 Evl
section
variable {K : PySem.W.Frag} {mg : Str → Option Value} {c : Cs} {vs : List V} {H : Hp} {Q : VK} {E : XK}
theorem use_axis {al : Bool} {a : Addr} {s : St} {n : Nat} (h : ChAt c H a s) (o : RowsOk n s.series) (l : LookOk s.look) : SpN (sp_axis al c) [.ref a] H (fun p H' => AxAt c H' p (s.chart.axis al)) := fun _ e _ q _ => ⟨a, s, n, rfl, h.mono e, o, l, q⟩
theorem pure_Bars_init (T : Txt K mg c) (h : sp_Bars c vs H Q E) : t_Bars_init K c (sp_axis false c) { nx := fun _ H' => Q .non H', rt := Q } (start ["self", "chart"] vs) H := by
  obtain ⟨p, dx, a, s, rfl, hp, hc, o, lk, k⟩ := h
  refine q_fldV (ev_var rfl) (ev_var rfl) hp T.c_ba T.a_ba_chart (show 0 < 1000 by decide) fun H1 e1 _ => ?_
  rw [i_ba_chart]
  have x1 : But p H (upd H1 p (.ins c.ba dx [("chart", .ref a)])) := (But.ex e1).trans But.upd
  have hc1 := hc.but hp x1
  have hc2 := hc1
  obtain ⟨dc, pr, pl, h1, _⟩ := hc1
  refine s_fldN (en_meth (ev_var rfl) h1 m_ch_upright_axis ea_nil (use_axis hc2 o lk)) (ev_var rfl) upd_same T.c_ba T.a_ba_upright (show 1 < 1000 by decide) fun u H2 H3 hu e2 hA e3 ho => ?_
  rw [i_ba_upright]
  have nu : u ≠ p := fun z => by rw [z, upd_same] at hu; cases hu
  refine k _ _ upd_same ⟨u, rfl, ?_⟩ ((x1.trans (But.ex (e2.trans e3))).trans But.upd)
  obtain ⟨dy, hA⟩ := hA
  exact ⟨dy, by rw [upd_ne nu]; exact e3 _ _ hA⟩
/-- the chart's parts, over a bars' instance -/
theorem BaAt.open {b : Addr} {s : St} (h : BaAt c H b s) : ∃ dx a u dc pr pl dl du, H b = some (.ins c.ba dx (f_ba (.ref a) (.ref u))) ∧ H a = some (.ins c.ch dc (f_ch (.ref pr) (.ref pl))) ∧ RowsAt H pr s.series ∧ ChAt c H a s ∧ LkAt c H pl s.look ∧
    H pl = some (.ins c.lk dl (f_lk (.int (s.look.kind : Int)) (.int (s.look.width : Int)) (.int (s.look.height : Int)) (.int (s.look.most : Int)))) ∧ AxAt c H u (s.chart.axis false) ∧ H u = some (.ins c.ax du (f_ax (.int (s.chart.axis false).start) (.int (s.chart.axis false).step) (.int ((s.chart.axis false).count : Int)))) := by
  obtain ⟨dx, a, u, h1, h2, h3⟩ := h
  have h2' := h2
  have h3' := h3
  obtain ⟨dc, pr, pl, g1, g2, g3⟩ := h2
  have g3' := g3
  obtain ⟨dl, g3⟩ := g3
  obtain ⟨du, h3⟩ := h3
  exact ⟨dx, a, u, dc, pr, pl, dl, du, h1, g1, g2, h2', g3', g3, h3', h3⟩
theorem colN_take (rs : List Series) (i j : Nat) : (colN (rs.take i) j).length ≤ rs.length := Nat.le_trans (colN_len _ _) (by rw [List.length_take]; omega)
theorem base_filter {v : Int} (l : List Int) : l.filter (fun z => decide (V.bl (decide (z < 0)) = V.bl (decide (v < 0)))) = l.filter (upF (decide (0 ≤ v))) := List.filter_congr fun z _ => by
  unfold upF
  rw [decide_eq_decide]
  by_cases a : z < 0 <;> by_cases b : v < 0
  · have : ¬ 0 ≤ z := by omega
    have : ¬ 0 ≤ v := by omega
    simp [*]
  · have : ¬ 0 ≤ z := by omega
    have : 0 ≤ v := by omega
    simp [*]
  · have : 0 ≤ z := by omega
    have : ¬ 0 ≤ v := by omega
    simp [*]
  · have : 0 ≤ z := by omega
    have : 0 ≤ v := by omega
    simp [*]
theorem pure_Bars_base_of (T : Txt K mg c) (h : sp_base c vs H Q E) : t_Bars_base_of K c (sp_number_at c) sp_there { nx := fun _ H' => Q .non H', rt := Q } (start ["self", "row", "column", "below", "before", "numbers", "number"] vs) H := by
  obtain ⟨b, s, i, j, v, rfl, hb, ok, hv, k⟩ := h
  obtain ⟨dx, a, u, dc, pr, pl, dl, du, h1, h2, hR, hC, hL, h4, hA, h6⟩ := hb.open
  obtain ⟨li, lj⟩ := at_lt ok.rows hv
  have kd := ok.kind
  refine q_when (et_test (ev_neI (ev_fld (ev_fld (ev_fld (ev_var rfl) h1 T.c_ba T.a_ba_chart l_ba_chart) h2 T.c_ch T.a_ch_look l_ch_look) h4 T.c_lk T.a_lk_kind l_lk_kind) ev_c)) (fun hb H1 e => ?_) fun hb H1 e1 => ?_
  · have z : s.look.kind = 0 := by
      simp only [Bool.not_eq_true', decide_eq_false_iff_not] at hb
      omega
    have q : baseM s.chart i j v = 0 := if_pos z
    rw [q] at k
    exact ret_v ev_c (RetV.up k e)
  have z : s.look.kind = 1 := by
    simp only [Bool.not_eq_false', decide_eq_true_eq] at hb
    omega
  have q : baseM s.chart i j v = s.chart.before i j (decide (0 ≤ v)) := if_neg fun y => by
    have y : s.look.kind = 0 := y
    omega
  rw [q, before_is (C := s.chart) (Nat.le_of_lt li)] at k
  refine q_asg (ev_lt (ev_is (ev_meth (ev_fld (ev_var rfl) (e1 _ _ h1) T.c_ba T.a_ba_chart l_ba_chart) (e1 _ _ h2) m_ch_number_at (ea_cons (ev_var rfl) (ea_cons (ev_var rfl) ea_nil)) (use_number_at (hC.mono e1) ok.rows)) (by rw [hv] <;> rfl)) ev_c) fun H2 e2 => ?_
  have e12 := e1.trans e2
  obtain ⟨ps, hp, hr⟩ := hR.mono e12
  have hl : s.series.length ≤ 16 := ok.rows.k2
  refine q_asgL (xs := nV (colN (s.series.take i) j)) (el_calL (xs := ((s.series.take i).map fun r => (r[j]?).bind id).map oV) (el_is (el_lcRowsN (fun r => oV ((r[j]?).bind id)) (el_is (el_sl (ev_fld (ev_fld (ev_var rfl) (e12 _ _ h1) T.c_ba T.a_ba_chart l_ba_chart) (e12 _ _ h2) T.c_ch T.a_ch_rows l_ch_rows) eo_none (eo_some (ev_var rfl)) (sq_of hp)) (by rw [cutV_to, List.map_take])) (hr.take i) (by rw [List.length_take]; omega) (fun x => rfl) fun q r H3 hr3 e3 hq => ?_) (by rw [List.map_map] <;> rfl)) ea_nil fun w H3 hw e3 => ?_) fun m H3 hm e3 h3 => ?_
  · have lr := ok.rows.len r (List.mem_of_mem_take hr3)
    obtain ⟨y, hy⟩ : ∃ y, r[j]? = some y := ⟨_, List.getElem?_eq_getElem (by rw [lr]; exact lj)⟩
    refine ev_is (ev_ixL (ev_var rfl) (ev_var rfl) (sq_of hq) (atI_nat (oV_get hy))) ?_
    rw [hy] <;> rfl
  · have := use_there (H := H3) hw (by rw [List.length_map, List.length_take]; omega)
    rw [colN_map] at this
    exact this
  refine ret_v (ev_is (ev_sumF (colN (s.series.take i) j) (fun z => decide (V.bl (decide (z < 0)) = V.bl (decide (v < 0)))) (ev_var rfl) h3 (by have := colN_take s.series i j; omega) (fun x => rfl) (fun x H4 _ _ => et_test (ev_op (ev_lt (ev_var rfl) ev_c) (ev_var rfl) (rv_eq rfl))) fun x H4 _ _ _ => ev_var rfl) (by rw [base_filter] <;> rfl)) (RetV.up k (e12.trans e3))
theorem use_base {b : Addr} {s : St} {i j : Nat} {v : Int} (h : BaAt c H b s) (ok : BarsOk s) (hv : s.chart.at_ i j = some v) : SpV (sp_base c) [.ref b, .int (i : Int), .int (j : Int)] H (.int (baseM s.chart i j v)) := fun _ e _ q _ => ⟨b, s, i, j, v, rfl, h.mono e, ok, hv, q⟩
theorem bar_y {C : Chart} {i j : Nat} {v : Int} {r : Bar} (hv : C.at_ i j = some v) (h : C.bar i j = some r) : r.y0 = min (C.up (baseM C i j v)) (C.up (baseM C i j v + v)) ∧ r.y1 = max (C.up (baseM C i j v)) (C.up (baseM C i j v + v)) := by
  unfold Si28.Chart.bar at h
  rw [hv] at h
  have h := (Option.some.inj h).symm
  constructor <;> rw [h] <;> rfl
theorem bar_at {C : Chart} {i j : Nat} {r : Bar} (h : C.bar i j = some r) : ∃ v, C.at_ i j = some v := by
  unfold Si28.Chart.bar at h
  cases e : C.at_ i j with
  | none => rw [e] at h; cases h
  | some v => exact ⟨v, rfl⟩
theorem base_small {s : St} {i j : Nat} {v : Int} (ok : BarsOk s) (hv : s.chart.at_ i j = some v) : (-(16 * 10 ^ 36) ≤ baseM s.chart i j v ∧ baseM s.chart i j v ≤ 16 * 10 ^ 36) ∧ (-(10 ^ 36) < v ∧ v < 10 ^ 36) := by
  refine ⟨?_, at_small ok.rows hv⟩
  unfold baseM
  split
  · decide
  · exact before_small ok.rows (Nat.le_of_lt (at_lt ok.rows hv).1)
theorem pure_Bars_ends_of (T : Txt K mg c) (h : sp_ends c vs H Q E) : t_Bars_ends_of K c (sp_base c) (sp_number_at c) (sp_dot_of c) { nx := fun _ H' => Q .non H', rt := Q } (start ["self", "row", "column", "base", "high", "number"] vs) H := by
  obtain ⟨b, s, i, j, r, rfl, hb, ok, hr, k⟩ := h
  obtain ⟨dx, a, u, dc, pr, pl, dl, du, h1, h2, hR, hC, hL, h4, hA, h6⟩ := hb.open
  obtain ⟨v, hv⟩ := bar_at hr
  obtain ⟨bs, vs⟩ := base_small ok hv
  have aok := up_ok (C := s.chart) ok.rows ok.look
  have hh := ok.look.h2
  refine q_asg (ev_meth (ev_var rfl) h1 m_ba_base_of (ea_cons (ev_var rfl) (ea_cons (ev_var rfl) ea_nil)) (use_base hb ok hv)) fun H1 e1 => ?_
  refine q_asg (ev_fld (ev_fld (ev_fld (ev_var rfl) (e1 _ _ h1) T.c_ba T.a_ba_chart l_ba_chart) (e1 _ _ h2) T.c_ch T.a_ch_look l_ch_look) (e1 _ _ h4) T.c_lk T.a_lk_high l_lk_high) fun H2 e2 => ?_
  have e12 := e1.trans e2
  refine q_asg (ev_is (ev_meth (ev_fld (ev_var rfl) (e12 _ _ h1) T.c_ba T.a_ba_chart l_ba_chart) (e12 _ _ h2) m_ch_number_at (ea_cons (ev_var rfl) (ea_cons (ev_var rfl) ea_nil)) (use_number_at (hC.mono e12) ok.rows)) (by rw [hv] <;> rfl)) fun H3 e3 => ?_
  have e13 := e12.trans e3
  refine ret_l (el_sort2 (p := s.chart.up (baseM s.chart i j v)) (q := s.chart.up (baseM s.chart i j v + v)) (el_lst (ea_cons (ev_meth (ev_fld (ev_var rfl) (e13 _ _ h1) T.c_ba T.a_ba_upright l_ba_upright) (e13 _ _ h6) m_ax_dot_of (ea_cons (ev_var rfl) (ea_cons (ev_var rfl) ea_nil)) (use_dot (hA.mono e13) aok (by omega) hh)) (ea_cons (ev_meth (ev_fld (ev_var rfl) (e13 _ _ h1) T.c_ba T.a_ba_upright l_ba_upright) (e13 _ _ h6) m_ax_dot_of (ea_cons (ev_add (ev_var rfl) (ev_var rfl)) (ea_cons (ev_var rfl) ea_nil)) (use_dot (hA.mono e13) aok (by omega) hh)) ea_nil)) (show 2 ≤ 100000 by decide))) ?_
  obtain ⟨y0, y1⟩ := bar_y hv hr
  rw [y0, y1] at k
  exact RetL.up k e13
theorem bar_x {C : Chart} {i j : Nat} {r : Bar} (h : C.bar i j = some r) : r.x0 = ((leftOf (C.band j).1 (C.band j).2 + (if C.look.kind = 0 then i else 0) * innerOf (C.band j).1 (C.band j).2 / (if C.look.kind = 0 then C.series.length else 1) : Nat) : Int) ∧
    r.x1 = ((leftOf (C.band j).1 (C.band j).2 + ((if C.look.kind = 0 then i else 0) + 1) * innerOf (C.band j).1 (C.band j).2 / (if C.look.kind = 0 then C.series.length else 1) : Nat) : Int) := by
  obtain ⟨v, hv⟩ := bar_at h
  unfold Si28.Chart.bar at h
  rw [hv] at h
  have h := (Option.some.inj h).symm
  constructor <;> rw [h] <;> rfl
theorem int_eq {i j : Int} (h : i = j) : V.int i = V.int j := congrArg V.int h
theorem pure_Bars_sides_of (T : Txt K mg c) (h : sp_sides c vs H Q E) : t_Bars_sides_of K c (sp_band c) (sp_columns c) { nx := fun _ H' => Q .non H', rt := Q } (start ["self", "row", "column", "band", "free", "inner", "left", "count"] vs) H := by
  obtain ⟨b, s, i, j, r, rfl, hb, ok, hr, k⟩ := h
  obtain ⟨dx, a, u, dc, pr, pl, dl, du, h1, h2, hR, hC, hL, h4, hA, h6⟩ := hb.open
  obtain ⟨v, hv⟩ := bar_at hr
  obtain ⟨li, lj⟩ := at_lt ok.rows hv
  have n1 := ok.rows.n1
  have n2 := ok.rows.n2
  have w2 := ok.look.w2
  have l16 : s.series.length ≤ 16 := ok.rows.k2
  have li' : i < s.series.length := li
  have le := band_le (C := s.chart) j
  have hi : (s.chart.band j).2 ≤ 4096 := by
    have : (s.chart.band j).2 = (j + 1) * s.look.width / s.chart.n := rfl
    rw [this]
    exact Nat.le_trans (Nat.div_le_of_le_mul (Nat.mul_le_mul_right _ lj)) w2
  obtain ⟨x0, x1⟩ := bar_x hr
  refine q_asgN (P := fun p H' => H' p = some (.tup [.int ((s.chart.band j).1 : Int), .int ((s.chart.band j).2 : Int)])) (en_meth (ev_fld (ev_fld (ev_var rfl) h1 T.c_ba T.a_ba_chart l_ba_chart) h2 T.c_ch T.a_ch_look l_ch_look) h4 m_lk_band_of (ea_cons (ev_var rfl) (ea_cons (ev_meth (ev_fld (ev_var rfl) h1 T.c_ba T.a_ba_chart l_ba_chart) h2 m_ch_columns ea_nil (use_columns hC ok.rows)) ea_nil)) (use_band hL ok.look (by omega) n1 (by omega))) fun p H1 hp e1 ht => ?_
  generalize (s.chart.band j).1 = b0 at le hi x0 x1 ht
  generalize (s.chart.band j).2 = b1 at le hi x0 x1 ht
  have g0 : atI [V.int (b0 : Int), V.int (b1 : Int)] 0 = some (V.int (b0 : Int)) := atI_nat (j := 0) rfl
  have g1 : atI [V.int (b0 : Int), V.int (b1 : Int)] 1 = some (V.int (b1 : Int)) := atI_nat (j := 1) rfl
  refine q_asg (v := .int (((b1 - b0) / 4 : Nat) : Int)) (ev_is (ev_div (ev_sub (ev_ixT (ev_var rfl) ev_c (st_of ht) g1) (ev_ixT (ev_var rfl) ev_c (st_of ht) g0)) ev_c (wide_div (b := 3) (by decide) (by decide) (by decide) (by decide))) (int_eq (by omega))) fun H2 e2 => ?_
  have ht2 := e2 _ _ ht
  refine q_asg (v := .int ((innerOf b0 b1 : Nat) : Int)) (ev_is (ev_sub (ev_sub (ev_ixT (ev_var rfl) ev_c (st_of ht2) g1) (ev_ixT (ev_var rfl) ev_c (st_of ht2) g0)) (ev_var rfl)) (int_eq (by unfold innerOf; omega))) fun H3 e3 => ?_
  have ht3 := e3 _ _ ht2
  refine q_asg (v := .int ((leftOf b0 b1 : Nat) : Int)) (ev_is (ev_add (ev_ixT (ev_var rfl) ev_c (st_of ht3) g0) (ev_div (ev_var rfl) ev_c (wide_div (b := 2) (by decide) (by decide) (by decide) (by decide)))) (int_eq (by unfold leftOf; omega))) fun H4 e4 => ?_
  have e14 := ((e1.trans e2).trans e3).trans e4
  refine q_when (et_test (ev_eqI (ev_fld (ev_fld (ev_fld (ev_var rfl) (e14 _ _ h1) T.c_ba T.a_ba_chart l_ba_chart) (e14 _ _ h2) T.c_ch T.a_ch_look l_ch_look) (e14 _ _ h4) T.c_lk T.a_lk_kind l_lk_kind) ev_c)) (fun hb H5 e => ?_) fun hb H5 e5 => ?_
  · have z : ¬ s.chart.look.kind = 0 := fun y => by
      have y : s.look.kind = 0 := y
      have := of_decide_eq_true hb
      omega
    rw [if_neg z, if_neg z] at x0 x1
    rw [x0, x1] at k
    refine ret_l (el_is (el_lst (ea_cons (ev_var rfl) (ea_cons (ev_add (ev_var rfl) (ev_var rfl)) ea_nil)) (show 2 ≤ 100000 by decide)) ?_) (RetL.up k (e14.trans e))
    rw [show leftOf b0 b1 + 0 * innerOf b0 b1 / 1 = leftOf b0 b1 by omega, show leftOf b0 b1 + (0 + 1) * innerOf b0 b1 / 1 = leftOf b0 b1 + innerOf b0 b1 by omega, Int.natCast_add]
  · have z : s.chart.look.kind = 0 := by
      have := of_decide_eq_false hb
      have := ok.kind
      show s.look.kind = 0
      omega
    rw [if_pos z, if_pos z] at x0 x1
    rw [x0, x1] at k
    have e15 := e14.trans e5
    obtain ⟨ps, hps, hr2⟩ := hR
    have l1 : ((i : Int)).natAbs < 2 ^ 8 := by omega
    have l2 : ((i : Int) + 1).natAbs < 2 ^ 8 := by omega
    have l3 : ((innerOf b0 b1 : Nat) : Int).natAbs < 2 ^ 16 := by unfold innerOf; omega
    have l4 : ((s.series.length : Nat) : Int).natAbs < 2 ^ 8 := by omega
    refine q_asg (v := .int ((s.series.length : Nat) : Int)) (ev_is (ev_len (ev_fld (ev_fld (ev_var rfl) (e15 _ _ h1) T.c_ba T.a_ba_chart l_ba_chart) (e15 _ _ h2) T.c_ch T.a_ch_rows l_ch_rows) (sq_of (e15 _ _ hps))) (by rw [List.length_map, hr2.1])) fun H6 e6 => ?_
    refine ret_l (el_is (el_lst (ea_cons (ev_add (ev_var rfl) (ev_div (ev_mul (ev_var rfl) (ev_var rfl) (wide_mul l1 l3 (by decide) (by decide) (by decide))) (ev_var rfl) (wide_div (by omega) l4 (by decide) (by decide)))) (ea_cons (ev_add (ev_var rfl) (ev_div (ev_mul (ev_add (ev_var rfl) ev_c) (ev_var rfl) (wide_mul l2 l3 (by decide) (by decide) (by decide))) (ev_var rfl) (wide_div (by omega) l4 (by decide) (by decide)))) ea_nil)) (show 2 ≤ 100000 by decide)) ?_) (RetL.up k (e15.trans e6))
    rw [Int.natCast_add, Int.natCast_add, Int.natCast_ediv, Int.natCast_ediv, Int.natCast_mul, Int.natCast_mul, Int.natCast_add] <;> rfl
theorem use_sides {b : Addr} {s : St} {i j : Nat} {r : Bar} (h : BaAt c H b s) (ok : BarsOk s) (hv : s.chart.bar i j = some r) : SpL (sp_sides c) [.ref b, .int (i : Int), .int (j : Int)] H [.int r.x0, .int r.x1] := fun _ e _ q _ => ⟨b, s, i, j, r, rfl, h.mono e, ok, hv, q⟩
theorem use_ends {b : Addr} {s : St} {i j : Nat} {r : Bar} (h : BaAt c H b s) (ok : BarsOk s) (hv : s.chart.bar i j = some r) : SpL (sp_ends c) [.ref b, .int (i : Int), .int (j : Int)] H [.int r.y0, .int r.y1] := fun _ e _ q _ => ⟨b, s, i, j, r, rfl, h.mono e, ok, hv, q⟩
theorem pure_Bars_place_of (T : Txt K mg c) (h : sp_bar_place c vs H Q E) : t_Bars_place_of K c (sp_number_at c) (sp_sides c) (sp_ends c) { nx := fun _ H' => Q .non H', rt := Q } (start ["self", "row", "column"] vs) H := by
  obtain ⟨b, s, i, j, rfl, hb, ok, k⟩ := h
  obtain ⟨dx, a, u, dc, pr, pl, dl, du, h1, h2, hR, hC, hL, h4, hA, h6⟩ := hb.open
  refine q_when (et_test (ev_isN (ev_meth (ev_fld (ev_var rfl) h1 T.c_ba T.a_ba_chart l_ba_chart) h2 m_ch_number_at (ea_cons (ev_var rfl) (ea_cons (ev_var rfl) ea_nil)) (use_number_at hC ok.rows)))) (fun hb' H1 e => ?_) fun hb' H1 e1 => ?_
  · rw [oV_non, Option.isNone_iff_eq_none] at hb'
    have z : barL (s.chart.bar i j) = none := by
      unfold Si28.Chart.bar
      rw [hb'] <;> rfl
    exact ret_v ev_c (RetV.up (k.non z) e)
  · rw [oV_non] at hb'
    obtain ⟨r, hr⟩ : ∃ r, s.chart.bar i j = some r := by
      cases q : s.chart.at_ i j with
      | none => rw [q] at hb'; cases hb'
      | some v =>
        unfold Si28.Chart.bar
        rw [q]
        exact ⟨_, rfl⟩
    have z : barL (s.chart.bar i j) = some [r.x0, r.x1, r.y0, r.y1] := by rw [hr] <;> rfl
    exact ret_l (el_cat (el_meth (ev_var rfl) (e1 _ _ h1) m_ba_sides_of (ea_cons (ev_var rfl) (ea_cons (ev_var rfl) ea_nil)) (use_sides (hb.mono e1) ok hr)) (el_meth (ev_var rfl) (e1 _ _ h1) m_ba_ends_of (ea_cons (ev_var rfl) (ea_cons (ev_var rfl) ea_nil)) (use_ends (hb.mono e1) ok hr)) (show 4 ≤ 16777216 by decide)) (RetL.up (k.lst z) e1)
theorem use_bar_place {b : Addr} {s : St} {i j : Nat} (h : BaAt c H b s) (ok : BarsOk s) : SpO (sp_bar_place c) [.ref b, .int (i : Int), .int (j : Int)] H (barL (s.chart.bar i j)) := fun _ e _ q _ => ⟨b, s, i, j, rfl, h.mono e, ok, q⟩
theorem pure_Bars_one_within (T : Txt K mg c) (h : sp_bar_within c vs H Q E) : t_Bars_one_within K c (sp_bar_place c) { nx := fun _ H' => Q .non H', rt := Q } (start ["self", "column", "x", "y", "row", "found"] vs) H := by
  obtain ⟨b, s, j, x, y, rfl, hb, ok, k⟩ := h
  obtain ⟨dx, a, u, dc, pr, pl, dl, du, h1, h2, ⟨ps, hps, hr2⟩, hC, hL, h4, hA, h6⟩ := hb.open
  have l16 : s.series.length ≤ 16 := ok.rows.k2
  refine q_forR1 (n := ((s.series.length : Nat) : Int)) (ea_cons (ev_is (ev_len (ev_fld (ev_fld (ev_var rfl) h1 T.c_ba T.a_ba_chart l_ba_chart) h2 T.c_ch T.a_ch_rows l_ch_rows) (sq_of hps)) (by rw [List.length_map, hr2.1])) ea_nil) (by omega)
    (fun i σ H' => (∃ v4 v5, σ = [some (.ref b), some (.int (j : Int)), some (.int x), some (.int y), v4, v5]) ∧ Ex H H' ∧ ∀ m, m < i → barHas s.chart x y m j = false) (fun H1 e => ⟨⟨_, _, rfl⟩, e, fun m hm => absurd hm (Nat.not_lt_zero _)⟩) ?_ ?_
  · rintro i σ' H' hi ⟨⟨v4, v5, rfl⟩, x1, x2⟩
    refine q_asgQ (eq_meth (ev_var rfl) (x1 _ _ h1) m_ba_place_of (ea_cons (ev_var rfl) (ea_cons (ev_var rfl) ea_nil)) (use_bar_place (hb.mono x1) ok)) (fun e0 H1 e1 => ?_) fun l e0 p H1 hp e1 hl => ?_
    · have z : barHas s.chart x y i j = false := by
        unfold barHas
        cases q : s.chart.bar i j with
        | none => rfl
        | some r => rw [q] at e0; cases e0
      refine s_when (b := false) (et_is (et_and (b := true) (et_test (ev_notN (ev_var rfl))) fun h => absurd h (by decide)) (by decide)) (fun h => by cases h) fun _ H2 e2 => ⟨⟨_, _, rfl⟩, (x1.trans e1).trans e2, fun m hm => ?_⟩
      by_cases q : m = i
      · rw [q]; exact z
      · exact x2 m (by omega)
    · obtain ⟨r, hr⟩ : ∃ r, s.chart.bar i j = some r := by
        cases q : s.chart.bar i j with
        | none => rw [q] at e0; cases e0
        | some r => exact ⟨r, rfl⟩
      have el : l = [r.x0, r.x1, r.y0, r.y1] := by
        rw [hr] at e0
        exact (Option.some.inj e0).symm
      subst el
      have hs := sq_of (K := K) hl
      refine s_when (b := barHas s.chart x y i j) (et_is (et_and (et_test (ev_notN (ev_var rfl))) fun _ => et_and (et_test (ev_leL (ev_ixL (ev_var rfl) ev_c hs (atI_nat (j := 0) rfl)) (ev_var rfl) (ev_ixL (ev_var rfl) ev_c hs (atI_nat (j := 1) rfl)))) fun _ => et_test (ev_leL (ev_ixL (ev_var rfl) ev_c hs (atI_nat (j := 2) rfl)) (ev_var rfl) (ev_ixL (ev_var rfl) ev_c hs (atI_nat (j := 3) rfl)))) ?_) (fun hh H2 e2 => ?_) fun hh H2 e2 => ⟨⟨_, _, rfl⟩, (x1.trans e1).trans e2, fun m hm => ?_⟩
      · unfold barHas
        rw [hr]
        show _ = (decide (r.x0 ≤ x) && (decide (x < r.x1) && (decide (r.y0 ≤ y) && decide (y < r.y1))))
        rw [decide_eq_false (fun e : V.ref p = V.non => by cases e), Bool.and_assoc] <;> rfl
      · have z : ((List.range s.series.length).find? fun i => barHas s.chart x y i j).map (fun (i : Nat) => [(i : Int), (j : Int)]) = some [(i : Int), (j : Int)] := by
          rw [find_at (by omega) x2 hh] <;> rfl
        exact ret_l (el_lst (ea_cons (ev_var rfl) (ea_cons (ev_var rfl) ea_nil)) (show 2 ≤ 100000 by decide)) (RetL.up (k.lst z) ((x1.trans e1).trans e2))
      · by_cases q : m = i
        · rw [q]; exact hh
        · exact x2 m (by omega)
  · rintro σ' H' ⟨_, x1, x2⟩
    have z : ((List.range s.series.length).find? fun i => barHas s.chart x y i j).map (fun (i : Nat) => [(i : Int), (j : Int)]) = none := by
      rw [find_no fun m hm => x2 m (by omega)] <;> rfl
    exact ret_v ev_c (RetV.up (k.non z) x1)
theorem use_within {b : Addr} {s : St} {j : Nat} {x y : Int} (h : BaAt c H b s) (ok : BarsOk s) : SpO (sp_bar_within c) [.ref b, .int (j : Int), .int x, .int y] H (((List.range s.series.length).find? fun i => barHas s.chart x y i j).map fun (i : Nat) => [(i : Int), (j : Int)]) := fun _ e _ q _ => ⟨b, s, j, x, y, rfl, h.mono e, ok, q⟩
theorem pure_Bars_one_at (T : Txt K mg c) (h : sp_bar_at c vs H Q E) : t_Bars_one_at K c (sp_columns c) (sp_band c) (sp_bar_within c) { nx := fun _ H' => Q .non H', rt := Q } (start ["self", "x", "y", "column", "band"] vs) H := by
  obtain ⟨b, s, x, y, rfl, hb, ok, k⟩ := h
  obtain ⟨dx, a, u, dc, pr, pl, dl, du, h1, h2, ⟨ps, hps, hr2⟩, hC, hL, h4, hA, h6⟩ := hb.open
  have n1 := ok.rows.n1
  have n2 := ok.rows.n2
  refine q_forR1 (n := ((s.chart.n : Nat) : Int)) (ea_cons (ev_meth (ev_fld (ev_var rfl) h1 T.c_ba T.a_ba_chart l_ba_chart) h2 m_ch_columns ea_nil (use_columns hC ok.rows)) ea_nil) (by omega)
    (fun j σ H' => (∃ v3 v4, σ = [some (.ref b), some (.int x), some (.int y), v3, v4]) ∧ Ex H H' ∧ ∀ m, m < j → ¬ (((s.chart.band m).1 : Int) ≤ x ∧ x < ((s.chart.band m).2 : Int))) (fun H1 e => ⟨⟨_, _, rfl⟩, e, fun m hm => absurd hm (Nat.not_lt_zero _)⟩) ?_ ?_
  · rintro j σ' H' hj ⟨⟨v3, v4, rfl⟩, x1, x2⟩
    refine q_asgN (P := fun p H' => H' p = some (.tup [.int ((s.chart.band j).1 : Int), .int ((s.chart.band j).2 : Int)])) (en_meth (ev_fld (ev_fld (ev_var rfl) (x1 _ _ h1) T.c_ba T.a_ba_chart l_ba_chart) (x1 _ _ h2) T.c_ch T.a_ch_look l_ch_look) (x1 _ _ h4) m_lk_band_of (ea_cons (ev_var rfl) (ea_cons (ev_meth (ev_fld (ev_var rfl) (x1 _ _ h1) T.c_ba T.a_ba_chart l_ba_chart) (x1 _ _ h2) m_ch_columns ea_nil (use_columns (hC.mono x1) ok.rows)) ea_nil)) (use_band (hL.mono x1) ok.look (by omega) n1 (by omega))) fun p H1 hp e1 ht => ?_
    refine s_when (et_test (ev_leL (ev_ixT (ev_var rfl) ev_c (st_of ht) (atI_nat (j := 0) rfl)) (ev_var rfl) (ev_ixT (ev_var rfl) ev_c (st_of ht) (atI_nat (j := 1) rfl)))) (fun hh H2 e2 => ?_) fun hh H2 e2 => ⟨⟨_, _, rfl⟩, (x1.trans e1).trans e2, fun m hm => ?_⟩
    · rw [Bool.and_eq_true, decide_eq_true_eq, decide_eq_true_eq] at hh
      have e := (x1.trans e1).trans e2
      have z := click_at (C := s.chart) ok.kind (y := y) (show j < s.chart.n by omega) hh
      rw [z] at k
      refine s_retQ (eq_meth (ev_var rfl) (e _ _ h1) m_ba_one_within (ea_cons (ev_var rfl) (ea_cons (ev_var rfl) (ea_cons (ev_var rfl) ea_nil))) (use_within (hb.mono e) ok)) ?_
      refine RetO.up ?_ e
      have : (((List.range s.series.length).find? fun i => barHas s.chart x y i j).map fun (i : Nat) => [(i : Int), (j : Int)]) = pairL (((List.range s.chart.series.length).find? fun i => barHas s.chart x y i j).map fun i => (i, j)) := by
        unfold pairL
        rw [Option.map_map] <;> rfl
      rw [this]
      exact k
    · by_cases q : m = j
      · rw [q]
        rw [Bool.and_eq_false_iff, decide_eq_false_iff_not, decide_eq_false_iff_not] at hh
        omega
      · exact x2 m (by omega)
  · rintro σ' H' ⟨_, x1, x2⟩
    have z := click_none (C := s.chart) ok.kind (x := x) (y := y) fun j hj => x2 j (by omega)
    rw [z] at k
    exact ret_v ev_c (RetV.up k x1)
end
end DC
namespace DC
open PySem PySem.Spec PyProof.Rows L2 Evl
/-! Points.__init__: level 6 -/
abbrev s_Points_init : Stmt := inClass (top 23) 0
theorem sc_Points_init : FnScope ["self", "chart"] ["self", "chart"] (defScope s_Points_init) := ⟨rfl, rfl, rfl, by decide +kernel, rfl, by decide +kernel, by decide +kernel⟩
def t_Points_init (K : PySem.W.Frag) (c : Cs) (p_Chart_upright_axis p_column_dots : Sp) : TS :=
    (tSeq (sFld K (tVar 0) (tVar 1) "chart")
    (tSeq (sFld K (tVar 0) (tMeth c.ch "upright_axis" p_Chart_upright_axis [] E0 (tVar 1) tNil) "upright")
    (tSeq (sFld K (tVar 0) (tIf (tTest (tOp rEq (tFld K (tFld K (tVar 1) "look") "kind") (tC (.int 3)))) (tC (.int 1)) (tC (.int 0))) "first")
    (sFld K (tVar 0) (tCall p_column_dots [] E0 (tCons (tVar 1) tNil)) "alongs"))))
theorem der_Points_init {P : Program} {w : World} {K : PySem.W.Frag} {mg : Str → Option Value} {base : Heap} {c : Cs} {p_Chart_upright_axis p_column_dots : Sp} (T : Txt K mg c)
    (c_Chart_upright_axis : C8.Met P w K mg base 4 c.ch "upright_axis" p_Chart_upright_axis [])
    (c_column_dots : C8.Cal P w K mg base 5 "column_dots" p_column_dots [])
    {f : Addr} {cdv : Value} {A : Around} {outer : List Env} {s : Shared} {H : Hp} {E : XK}  (hr : Room 5 (A.deeper (envOfC "Points.__init__" (defScope s_Points_init) s.heap.objs.size f cdv))) :
    PSs (cxOf CX0 P w K mg base ["self", "chart"] "Points.__init__" (defScope s_Points_init) f cdv A outer s H E).nox (defBody s_Points_init) (t_Points_init K c p_Chart_upright_axis p_column_dots) :=
    (pss_cons (ps_fld (pv 0) (pv 1) rfl)
      (pss_cons (ps_fld (pv 0) (C8.pe_mt0 c_Chart_upright_axis hr (by decide) (pv 1)) rfl)
      (pss_cons (ps_fld (pv 0) (pe_ifExp (pt_cmpR op_eq (pe_fld (pe_fld (pv 1) rfl) rfl) (C8.pe_gc (v := .int 3) (by rfl) T.gPOINTS) (nomark _)) pe_int pe_int) rfl)
      (pss_one (ps_fld (pv 0) (C8.pe_c c_column_dots hr (by decide) (by rfl) (pa_cons (pv 1) pa_nil)) rfl)))))
end DC
namespace DC
open PySem PySem.Spec PyProof.Rows L2 Evl
/-! Points.place_of: level 3 -/
abbrev s_Points_place_of : Stmt := inClass (top 23) 1
theorem sc_Points_place_of : FnScope ["self", "row", "column", "number"] ["self", "row", "column"] (defScope s_Points_place_of) := ⟨rfl, rfl, rfl, by decide +kernel, rfl, by decide +kernel, by decide +kernel⟩
def t_Points_place_of (K : PySem.W.Frag) (c : Cs) (p_Chart_number_at p_Axis_dot_of : Sp) : TS :=
    (tSeq (tAsg (tMeth c.ch "number_at" p_Chart_number_at [] E0 (tFld K (tVar 0) "chart") (tCons (tVar 1) (tCons (tVar 2) tNil))) (gName 3))
    (tSeq (tIfS (tOr (tTest (tOp rIsN (tVar 3) (tC .non))) (tOr (tTest (tOp rLt (tVar 1) (tFld K (tVar 0) "first"))) (tTest (tOp rIsN (tOp (rIxL K) (tFld K (tVar 0) "alongs") (tVar 2)) (tC .non))))) (tRet (tC .non)) tNext)
    (tRet (tLst (tCons (tOp (rIxL K) (tFld K (tVar 0) "alongs") (tVar 2)) (tCons (tMeth c.ax "dot_of" p_Axis_dot_of [] E0 (tFld K (tVar 0) "upright") (tCons (tVar 3) (tCons (tFld K (tFld K (tFld K (tVar 0) "chart") "look") "high") tNil))) tNil))))))
theorem der_Points_place_of {P : Program} {w : World} {K : PySem.W.Frag} {mg : Str → Option Value} {base : Heap} {c : Cs} {p_Chart_number_at p_Axis_dot_of : Sp} (T : Txt K mg c)
    (c_Chart_number_at : C8.Met P w K mg base 2 c.ch "number_at" p_Chart_number_at [])
    (c_Axis_dot_of : C8.Met P w K mg base 1 c.ax "dot_of" p_Axis_dot_of [])
    {f : Addr} {cdv : Value} {A : Around} {outer : List Env} {s : Shared} {H : Hp} {E : XK}  (hr : Room 2 (A.deeper (envOfC "Points.place_of" (defScope s_Points_place_of) s.heap.objs.size f cdv))) :
    PSs (cxOf CX0 P w K mg base ["self", "row", "column", "number"] "Points.place_of" (defScope s_Points_place_of) f cdv A outer s H E).nox (defBody s_Points_place_of) (t_Points_place_of K c p_Chart_number_at p_Axis_dot_of) :=
    (pss_cons (ps_set (i := 3) sc_Points_place_of.nd rfl (Or.inl rfl) (C8.pe_mt c_Chart_number_at hr (by decide) (pe_fld (pv 0) rfl) (pa_cons (pv 1) (pa_cons (pv 2) pa_nil))))
      (pss_cons (ps_if (PW.pt (pw_or (pt_cmpR op_isN (pv 3) pe_non (nomark _)) (pw_or (pt_cmpR op_lt (pv 1) (pe_fld (pv 0) rfl) (nomark _)) (pw_or1 (pt_cmpR op_isN (pe_ix ix_list (pe_fld (pv 0) rfl) (pv 2) (fun _ _ => rfl)) pe_non (nomark _)))))) (pss_one (ps_ret pe_non)) pss_nil)
      (pss_one (ps_ret (pe_lst (pa_cons (pe_ix ix_list (pe_fld (pv 0) rfl) (pv 2) (fun _ _ => rfl)) (pa_cons (C8.pe_mt c_Axis_dot_of hr (by decide) (pe_fld (pv 0) rfl) (pa_cons (pv 3) (pa_cons (pe_fld (pe_fld (pe_fld (pv 0) rfl) rfl) rfl) pa_nil))) pa_nil)))))))
end DC
namespace DC
open PySem PySem.Spec PyProof.Rows L2 Evl
/-! Points.one_at: level 4 -/
abbrev s_Points_one_at : Stmt := inClass (top 23) 2
theorem sc_Points_one_at : FnScope ["self", "x", "y", "nearest", "least", "row", "column", "found", "away"] ["self", "x", "y"] (defScope s_Points_one_at) := ⟨rfl, rfl, rfl, by decide +kernel, rfl, by decide +kernel, by decide +kernel⟩
def t_Points_one_at (K : PySem.W.Frag) (c : Cs) (p_Chart_columns p_Points_place_of : Sp) : TS :=
    (tSeq (tAsg (tC .non) (gName 3))
    (tSeq (tAsg (tOp rAdd (tC (.int 64)) (tC (.int 1))) (gName 4))
    (tSeq (tFor (iRng2 (tCons (tFld K (tVar 0) "first") (tCons (tCB (rLenS K) (tCons (tFld K (tFld K (tVar 0) "chart") "rows") tNil)) tNil))) (gName 5) (tFor (iRng1 (tCons (tMeth c.ch "columns" p_Chart_columns [] E0 (tFld K (tVar 0) "chart") tNil) tNil)) (gName 6) (tSeq (tAsg (tMeth c.po "place_of" p_Points_place_of [] E0 (tVar 0) (tCons (tVar 5) (tCons (tVar 6) tNil))) (gName 7))
    (tIfS (tTest (tOp rNotN (tVar 7) (tC .non))) (tSeq (tAsg (tOp rAdd (tOp rPow (tOp rSub (tOp (rIxL K) (tVar 7) (tC (.int 0))) (tVar 1)) (tC (.int 2))) (tOp rPow (tOp rSub (tOp (rIxL K) (tVar 7) (tC (.int 1))) (tVar 2)) (tC (.int 2)))) (gName 8))
    (tIfS (tTest (tOp rLt (tVar 8) (tVar 4))) (tSeq (tAsg (tLst (tCons (tVar 5) (tCons (tVar 6) tNil))) (gName 3))
    (tAsg (tVar 8) (gName 4))) tNext)) tNext))))
    (tRet (tVar 3)))))
theorem der_Points_one_at {P : Program} {w : World} {K : PySem.W.Frag} {mg : Str → Option Value} {base : Heap} {c : Cs} {p_Chart_columns p_Points_place_of : Sp} (T : Txt K mg c)
    (c_Chart_columns : C8.Met P w K mg base 1 c.ch "columns" p_Chart_columns [])
    (c_Points_place_of : C8.Met P w K mg base 3 c.po "place_of" p_Points_place_of [])
    {f : Addr} {cdv : Value} {A : Around} {outer : List Env} {s : Shared} {H : Hp} {E : XK}  (hr : Room 3 (A.deeper (envOfC "Points.one_at" (defScope s_Points_one_at) s.heap.objs.size f cdv))) :
    PSs (cxOf CX0 P w K mg base ["self", "x", "y", "nearest", "least", "row", "column", "found", "away"] "Points.one_at" (defScope s_Points_one_at) f cdv A outer s H E).nox (defBody s_Points_one_at) (t_Points_one_at K c p_Chart_columns p_Points_place_of) :=
    (pss_cons (ps_set (i := 3) sc_Points_one_at.nd rfl (Or.inl rfl) pe_non)
      (pss_cons (ps_set (i := 4) sc_Points_one_at.nd rfl (Or.inl rfl) (pe_op op_add (C8.pe_gc (v := .int 64) (by rfl) T.gFARTHEST) pe_int))
      (pss_cons (ps_for PassesOwn.never rfl (pi_range2 (by rfl) T.n_range (pa_cons (pe_fld (pv 0) rfl) (pa_cons (pe_callB call_len_seq (by rfl) T.n_len b_len (pa_cons (pe_fld (pe_fld (pv 0) rfl) rfl) pa_nil)) pa_nil))) (pg_name (i := 5) sc_Points_one_at.nd rfl (Or.inl rfl)) (pss_one (ps_for PassesOwn.never rfl (pi_range1 (by rfl) T.n_range (pa_cons (C8.pe_mt0 c_Chart_columns hr (by decide) (pe_fld (pv 0) rfl)) pa_nil)) (pg_name (i := 6) sc_Points_one_at.nd rfl (Or.inl rfl)) (pss_cons (ps_set (i := 7) sc_Points_one_at.nd rfl (Or.inl rfl) (C8.pe_mt c_Points_place_of hr (by decide) (pv 0) (pa_cons (pv 5) (pa_cons (pv 6) pa_nil))))
      (pss_one (ps_if (pt_cmpR op_notN (pv 7) pe_non (nomark _)) (pss_cons (ps_set (i := 8) sc_Points_one_at.nd rfl (Or.inl rfl) (pe_op op_add (pe_op op_pow (pe_op op_sub (pe_ix ix_list (pv 7) pe_int (fun _ _ => rfl)) (pv 1)) pe_int) (pe_op op_pow (pe_op op_sub (pe_ix ix_list (pv 7) pe_int (fun _ _ => rfl)) (pv 2)) pe_int)))
      (pss_one (ps_if (pt_cmpR op_lt (pv 8) (pv 4) (nomark _)) (pss_cons (ps_set (i := 3) sc_Points_one_at.nd rfl (Or.inl rfl) (pe_lst (pa_cons (pv 5) (pa_cons (pv 6) pa_nil))))
      (pss_one (ps_set (i := 4) sc_Points_one_at.nd rfl (Or.inl rfl) (pv 8)))) pss_nil))) pss_nil))))))
      (pss_one (ps_ret (pv 3))))))
end DC
namespace DC
open PySem PySem.Spec PyProof.Rows L2 Evl
/-! column_dots: level 5 -/
abbrev s_column_dots : Stmt := top 24
theorem sc_column_dots : FnScope ["chart", "look", "shown", "column", "number"] ["chart"] (defScope s_column_dots) := ⟨rfl, rfl, rfl, by decide +kernel, rfl, by decide +kernel, by decide +kernel⟩
def t_column_dots (K : PySem.W.Frag) (c : Cs) (p_Chart_along_axis p_Axis_dot_of p_Chart_columns p_Look_band_of : Sp) : TS :=
    (tSeq (tAsg (tFld K (tVar 0) "look") (gName 1))
    (tSeq (tIfS (tTest (tOp rEq (tFld K (tVar 1) "kind") (tC (.int 3)))) (tSeq (tAsg (tMeth c.ch "along_axis" p_Chart_along_axis [] E0 (tVar 0) tNil) (gName 2))
    (tRet (tLc (iList K (tOp (rIxL K) (tFld K (tVar 0) "rows") (tC (.int 0)))) (gName 4) tYes (tIf (tTest (tOp rIsN (tVar 4) (tC .non))) (tC .non) (tMeth c.ax "dot_of" p_Axis_dot_of [] E0 (tVar 2) (tCons (tVar 4) (tCons (tFld K (tVar 1) "wide") tNil)))) [4]))) tNext)
    (tRet (tLc (iRng1 (tCons (tMeth c.ch "columns" p_Chart_columns [] E0 (tVar 0) tNil) tNil)) (gName 3) tYes (tOp rDiv (tCB (rSumT K) (tCons (tMeth c.lk "band_of" p_Look_band_of [] E0 (tVar 1) (tCons (tVar 3) (tCons (tMeth c.ch "columns" p_Chart_columns [] E0 (tVar 0) tNil) tNil))) tNil)) (tC (.int 2))) [3]))))
theorem der_column_dots {P : Program} {w : World} {K : PySem.W.Frag} {mg : Str → Option Value} {base : Heap} {c : Cs} {p_Chart_along_axis p_Axis_dot_of p_Chart_columns p_Look_band_of : Sp} (T : Txt K mg c)
    (c_Chart_along_axis : C8.Met P w K mg base 4 c.ch "along_axis" p_Chart_along_axis [])
    (c_Axis_dot_of : C8.Met P w K mg base 1 c.ax "dot_of" p_Axis_dot_of [])
    (c_Chart_columns : C8.Met P w K mg base 1 c.ch "columns" p_Chart_columns [])
    (c_Look_band_of : C8.Met P w K mg base 1 c.lk "band_of" p_Look_band_of [])
    {f : Addr} {cdv : Value} {A : Around} {outer : List Env} {s : Shared} {H : Hp} {E : XK}  (hr : Room 4 (A.deeper (envOfC "column_dots" (defScope s_column_dots) s.heap.objs.size f cdv))) :
    PSs (cxOf CX0 P w K mg base ["chart", "look", "shown", "column", "number"] "column_dots" (defScope s_column_dots) f cdv A outer s H E).nox (defBody s_column_dots) (t_column_dots K c p_Chart_along_axis p_Axis_dot_of p_Chart_columns p_Look_band_of) :=
    (pss_cons (ps_set (i := 1) sc_column_dots.nd rfl (Or.inr rfl) (pe_fld (pv 0) rfl))
      (pss_cons (ps_if (pt_cmpR op_eq (pe_fld (pv 1) rfl) (C8.pe_gc (v := .int 3) (by rfl) T.gPOINTS) (nomark _)) (pss_cons (ps_set (i := 2) sc_column_dots.nd rfl (Or.inr rfl) (C8.pe_mt0 c_Chart_along_axis hr (by decide) (pv 0)))
      (pss_one (ps_ret (pe_lc (own := [("number", 4)]) (g := gName 4) (tt := tYes) (by rfl) sc_column_dots.nd (pi_list (pe_ix ix_list (pe_fld (pv 0) rfl) pe_int (fun _ _ => rfl))) (blkOk_by (own := [("number", 4)]) (N := ["chart", "look", "shown", "column", "number"]) (sc := defScope s_column_dots) (by decide +kernel)) (fun _ _ _ _ _ => pg_name (i := 4) sc_column_dots.nd rfl (Or.inl rfl)) (fun _ _ _ _ _ => pts_nil) (fun _ _ _ _ _ => (pe_ifExp (pt_cmpR op_isN (pv 4) pe_non (nomark _)) pe_non (C8.pe_mt c_Axis_dot_of hr (by decide) (pv 2) (pa_cons (pv 4) (pa_cons (pe_fld (pv 1) rfl) pa_nil))))))))) pss_nil)
      (pss_one (ps_ret (pe_lc (own := [("column", 3)]) (g := gName 3) (tt := tYes) (by rfl) sc_column_dots.nd (pi_range1 (by rfl) T.n_range (pa_cons (C8.pe_mt0 c_Chart_columns hr (by decide) (pv 0)) pa_nil)) (blkOk_by (own := [("column", 3)]) (N := ["chart", "look", "shown", "column", "number"]) (sc := defScope s_column_dots) (by decide +kernel)) (fun _ _ _ _ _ => pg_name (i := 3) sc_column_dots.nd rfl (Or.inl rfl)) (fun _ _ _ _ _ => pts_nil) (fun _ _ _ _ _ => (pe_op op_fdivW (pe_callB (cr_sumT rfl) (by rfl) T.n_sum b_sum (pa_cons (C8.pe_mt c_Look_band_of hr (by decide) (pv 1) (pa_cons (pv 3) (pa_cons (C8.pe_mt0 c_Chart_columns hr (by decide) (pv 0)) pa_nil))) pa_nil)) pe_int)))))))
end DC
namespace DC
open PySem PySem.Spec PyProof.Rows L2 Evl
section
variable {K : PySem.W.Frag} {mg : Str → Option Value} {c : Cs} {vs : List V} {H : Hp} {Q : VK} {E : XK}
theorem alongs_get {C : Chart} {j : Nat} (h : j < C.n) : (alongs C)[j]? = some (alongM C j) := by
  unfold alongs
  rw [List.getElem?_map, List.getElem?_range h] <;> rfl
theorem alongs_3 {C : Chart} {r : Series} (k : C.look.kind = 3) (hr : C.series[0]? = some r) (hl : r.length = C.n) : alongs C = r.map fun o => o.map fun x => (C.axis true).dot C.look.width x := by
  unfold alongs
  rw [← hl]
  apply List.ext_getElem?
  intro i
  rw [List.getElem?_map, List.getElem?_map]
  by_cases h : i < r.length
  · rw [List.getElem?_range h, List.getElem?_eq_getElem h]
    show some (alongM C i) = some _
    unfold alongM
    rw [if_pos k, at_of hr (List.getElem?_eq_getElem h)]
  · rw [List.getElem?_eq_none (by rw [List.length_range]; omega), List.getElem?_eq_none (by omega)] <;> rfl
theorem oV_map {o : Option Int} {f : Int → Int} : oV (o.map f) = match o with | none => V.non | some z => V.int (f z) := by
  cases o <;> rfl
theorem pure_column_dots (T : Txt K mg c) (h : sp_column_dots c vs H Q E) : t_column_dots K c (sp_axis true c) (sp_dot_of c) (sp_columns c) (sp_band c) { nx := fun _ H' => Q .non H', rt := Q } (start ["chart", "look", "shown", "column", "number"] vs) H := by
  obtain ⟨a, s, rfl, hc, ok, k⟩ := h
  have hc' := hc
  obtain ⟨dx, pr, pl, h1, ⟨ps, h2, h3⟩, hL⟩ := hc
  have hL' := hL
  obtain ⟨dl, h4⟩ := hL
  have n1 := ok.rows.n1
  have n2 := ok.rows.n2
  have w2 := ok.look.w2
  refine q_asg (ev_fld (ev_var rfl) h1 T.c_ch T.a_ch_look l_ch_look) fun H1 e1 => ?_
  refine q_when (et_test (ev_eqI (ev_fld (ev_var rfl) (e1 _ _ h4) T.c_lk T.a_lk_kind l_lk_kind) ev_c)) (fun hb H2 e2 => ?_) fun hb H2 e2 => ?_
  · have e12 := e1.trans e2
    have k3 : s.chart.look.kind = 3 := by
      have := of_decide_eq_true hb
      show s.look.kind = 3
      omega
    refine q_asgN (en_meth (ev_var rfl) (e12 _ _ h1) m_ch_along_axis ea_nil (use_axis (hc'.mono e12) ok.rows ok.look)) fun u H3 hu e3 hA => ?_
    have e13 := e12.trans e3
    obtain ⟨q, r, hr, hl, h5, he⟩ := row0 T (σ := [some (V.ref a), some (V.ref pl), some (V.ref u), none, none]) (ev_var (i := 0) rfl) (hc'.mono e13) ok.rows
    have hA' := hA
    obtain ⟨du, hu2⟩ := hA
    have aok := along_ok (C := s.chart) ok.rows ok.look
    rw [alongs_3 k3 hr hl] at k
    refine ret_l (el_is (el_lcF oV r (fun _ => true) (fun o => oV (o.map fun x => (s.chart.axis true).dot s.chart.look.width x)) he h5 (by omega) (fun x => rfl) (fun x H4 _ _ => et_yes) fun x H4 hx e4 _ => ?_) (by rw [List.filter_eq_self.mpr fun _ _ => rfl, List.map_map] <;> rfl)) (RetL.up k e13)
    refine ev_if (et_test (ev_isN (ev_var rfl))) (fun hn => ?_) fun hn => ?_
    · rw [oV_non, Option.isNone_iff_eq_none] at hn
      rw [hn]
      exact ev_c
    · cases x with
      | none => cases hn
      | some z =>
        have zs := ok.rows.small r (List.mem_of_getElem? hr) z hx
        exact ev_meth (ev_var rfl) (e4 _ _ hu2) m_ax_dot_of (ea_cons (ev_var rfl) (ea_cons (ev_fld (ev_var rfl) (e4 _ _ (e3 _ _ (e12 _ _ h4))) T.c_lk T.a_lk_wide l_lk_wide) ea_nil)) (use_dot (hA'.mono e4) aok (by omega) w2)
  · have e12 := e1.trans e2
    have k3 : ¬ s.chart.look.kind = 3 := fun z => by
      have z : s.look.kind = 3 := z
      have := of_decide_eq_false hb
      omega
    have ea : (alongs s.chart).map oV = (List.range s.chart.n).map fun j => V.int ((((s.chart.band j).1 + (s.chart.band j).2 : Nat) : Int) / 2) := by
      unfold alongs
      rw [List.map_map]
      congr 1
      funext j
      show oV (alongM s.chart j) = _
      unfold alongM
      rw [if_neg k3] <;> rfl
    rw [ea] at k
    refine ret_l (el_lcR s.chart.n _ (ea_cons (ev_meth (ev_var rfl) (e12 _ _ h1) m_ch_columns ea_nil (use_columns (hc'.mono e12) ok.rows)) ea_nil) (by omega) (fun x => rfl) fun j H3 e3 hj => ?_) (RetL.up k e12)
    have e13 := e12.trans e3
    refine ev_is (ev_div (ev_sumT (ns := [((s.chart.band j).1 : Int), ((s.chart.band j).2 : Int)]) (en_meth (ev_var rfl) (e13 _ _ h4) m_lk_band_of (ea_cons (ev_var rfl) (ea_cons (ev_meth (ev_var rfl) (e13 _ _ h1) m_ch_columns ea_nil (use_columns (hc'.mono e13) ok.rows)) ea_nil)) (use_band (hL'.mono e13) ok.look (by omega) n1 (by omega)))) ev_c (wide_div (b := 2) (by decide) (by decide) (by decide) (by decide))) (int_eq ?_)
    simp
theorem use_column_dots {a : Addr} {s : St} (h : ChAt c H a s) (ok : PointsOk s) : SpL (sp_column_dots c) [.ref a] H ((alongs s.chart).map oV) := fun _ e _ q _ => ⟨a, s, rfl, h.mono e, ok, q⟩
theorem pure_Points_init (T : Txt K mg c) (h : sp_Points c vs H Q E) : t_Points_init K c (sp_axis false c) (sp_column_dots c) { nx := fun _ H' => Q .non H', rt := Q } (start ["self", "chart"] vs) H := by
  obtain ⟨p, dx, a, s, rfl, hp, hc, ok, k⟩ := h
  refine q_fldV (ev_var rfl) (ev_var rfl) hp T.c_po T.a_po_chart (show 0 < 1000 by decide) fun H1 e1 _ => ?_
  rw [i_po_chart]
  have x1 : But p H (upd H1 p (.ins c.po dx [("chart", .ref a)])) := (But.ex e1).trans But.upd
  have hc1 := hc.but hp x1
  have hc2 := hc1
  obtain ⟨dc, pr, pl, h1, _⟩ := hc1
  refine q_fldN (en_meth (ev_var rfl) h1 m_ch_upright_axis ea_nil (use_axis hc2 ok.rows ok.look)) (ev_var rfl) upd_same T.c_po T.a_po_upright (show 1 < 1000 by decide) fun u H2 H3 hu e2 hA e3 ho => ?_
  rw [i_po_upright]
  have nu : u ≠ p := fun z => by rw [z, upd_same] at hu; cases hu
  have x3 : But p H (upd H3 p (.ins c.po dx [("chart", .ref a), ("upright", .ref u)])) := (x1.trans (But.ex (e2.trans e3))).trans But.upd
  obtain ⟨du, hA⟩ := hA
  have a3 : (upd H3 p (.ins c.po dx [("chart", .ref a), ("upright", .ref u)])) u = some (.ins c.ax du (f_ax (.int (s.chart.axis false).start) (.int (s.chart.axis false).step) (.int ((s.chart.axis false).count : Int)))) := by
    rw [upd_ne nu]
    exact e3 _ _ hA
  have hc3 := hc.but hp x3
  have hc4 := hc3
  obtain ⟨dc3, pr3, pl3, h3, _, dl3, h5⟩ := hc3
  refine q_fldV (v := .int (if s.look.kind = 3 then 1 else 0)) (ev_if (et_test (ev_eqI (ev_fld (ev_fld (ev_var rfl) h3 T.c_ch T.a_ch_look l_ch_look) h5 T.c_lk T.a_lk_kind l_lk_kind) ev_c)) (fun hb => ev_is ev_c (int_eq (if_pos (by have := of_decide_eq_true hb; omega)).symm)) fun hb => ev_is ev_c (int_eq (if_neg (by have := of_decide_eq_false hb; omega)).symm)) (ev_var rfl) upd_same T.c_po T.a_po_first (show 2 < 1000 by decide) fun H5 e5 _ => ?_
  rw [i_po_first]
  have x5 := (x3.trans (But.ex e5)).trans (But.upd (o := .ins c.po dx [("chart", .ref a), ("upright", .ref u), ("first", .int (if s.look.kind = 3 then 1 else 0))]))
  have hc5 := hc.but hp x5
  refine s_fldN (en_l (el_cal (ea_cons (ev_var rfl) ea_nil) (use_column_dots hc5 ok))) (ev_var rfl) upd_same T.c_po T.a_po_alongs (show 3 < 1000 by decide) fun l H6 H7 hl e6 h6 e7 ho7 => ?_
  rw [i_po_alongs]
  have nl : l ≠ p := fun z => by rw [z, upd_same] at hl; cases hl
  refine k _ _ upd_same ⟨u, l, rfl, ⟨du, ?_⟩, ?_⟩ ((x5.trans (But.ex (e6.trans e7))).trans But.upd)
  · rw [upd_ne nu]
    refine e7 _ _ (e6 _ _ ?_)
    rw [upd_ne nu]
    exact e5 _ _ a3
  · rw [upd_ne nl]
    exact e7 _ _ h6
theorem PoAt.open {b : Addr} {s : St} (h : PoAt c H b s) : ∃ dx a u l dc pr pl dl du, H b = some (.ins c.po dx (f_po (.ref a) (.ref u) (.int (if s.look.kind = 3 then 1 else 0)) (.ref l))) ∧ H a = some (.ins c.ch dc (f_ch (.ref pr) (.ref pl))) ∧ RowsAt H pr s.series ∧ ChAt c H a s ∧ LkAt c H pl s.look ∧
    H pl = some (.ins c.lk dl (f_lk (.int (s.look.kind : Int)) (.int (s.look.width : Int)) (.int (s.look.height : Int)) (.int (s.look.most : Int)))) ∧ AxAt c H u (s.chart.axis false) ∧ H u = some (.ins c.ax du (f_ax (.int (s.chart.axis false).start) (.int (s.chart.axis false).step) (.int ((s.chart.axis false).count : Int)))) ∧ H l = some (.lst ((alongs s.chart).map oV)) := by
  obtain ⟨dx, a, u, l, h1, h2, h3, h4⟩ := h
  have h2' := h2
  have h3' := h3
  obtain ⟨dc, pr, pl, g1, g2, g3⟩ := h2
  have g3' := g3
  obtain ⟨dl, g3⟩ := g3
  obtain ⟨du, h3⟩ := h3
  exact ⟨dx, a, u, l, dc, pr, pl, dl, du, h1, g1, g2, h2', g3', g3, h3', h3, h4⟩
theorem pure_Points_place_of (T : Txt K mg c) (h : sp_point_place c vs H Q E) : t_Points_place_of K c (sp_number_at c) (sp_dot_of c) { nx := fun _ H' => Q .non H', rt := Q } (start ["self", "row", "column", "number"] vs) H := by
  obtain ⟨b, s, i, j, rfl, hb, ok, k⟩ := h
  obtain ⟨dx, a, u, l, dc, pr, pl, dl, du, h1, h2, hR, hC, hL, h4, hA, h6, h7⟩ := hb.open
  have aok := up_ok (C := s.chart) ok.rows ok.look
  have hh := ok.look.h2
  refine q_asg (ev_meth (ev_fld (ev_var rfl) h1 T.c_po T.a_po_chart l_po_chart) h2 m_ch_number_at (ea_cons (ev_var rfl) (ea_cons (ev_var rfl) ea_nil)) (use_number_at hC ok.rows)) fun H1 e1 => ?_
  have al : ∀ H2, Ex H H2 → s.chart.at_ i j ≠ none → Ev (tOp (rIxL K) (tFld K (tVar 0) "alongs") (tVar 2)) [some (V.ref b), some (V.int (i : Int)), some (V.int (j : Int)), some (oV (s.chart.at_ i j))] H2 (oV (alongM s.chart j)) := fun H2 e2 hn => by
    obtain ⟨v, hv⟩ := Option.ne_none_iff_exists'.mp hn
    exact ev_ixL (ev_fld (ev_var rfl) (e2 _ _ h1) T.c_po T.a_po_alongs l_po_alongs) (ev_var rfl) (sq_of (e2 _ _ h7)) (atI_nat (oV_get (alongs_get (at_lt ok.rows hv).2)))
  refine q_when (et_or (et_test (ev_isN (ev_var rfl))) fun hn => et_or (et_test (ev_lt (ev_var rfl) (ev_fld (ev_var rfl) (e1 _ _ h1) T.c_po T.a_po_first l_po_first))) fun _ => et_test (ev_isN (al H1 e1 (by rw [oV_non] at hn; intro z; rw [z] at hn; cases hn)))) (fun hb' H2 e2 => ?_) fun hb' H2 e2 => ?_
  · have z : pointL (s.chart.point i j) = none := by
      rw [oV_non, oV_non] at hb'
      cases hv : s.chart.at_ i j with
      | none => rw [point_none hv] <;> rfl
      | some v =>
        rw [hv] at hb'
        by_cases q : (i : Int) < (if s.look.kind = 3 then 1 else 0)
        · by_cases k3 : s.look.kind = 3
          · rw [if_pos k3] at q
            have i0 : i = 0 := by omega
            rw [i0, point_0 (C := s.chart) k3] <;> rfl
          · rw [if_neg k3] at q
            omega
        · rw [decide_eq_false q] at hb'
          have hb' : (alongM s.chart j).isNone = true := hb'
          rw [Option.isNone_iff_eq_none] at hb'
          rw [point_some hv, hb']
          · rfl
          · by_cases k3 : s.look.kind = 3
            · rw [if_pos k3] at q
              exact Or.inr ⟨k3, by omega⟩
            · exact Or.inl (ok.kind.resolve_right k3)
    exact ret_v ev_c (RetV.up (k.non z) (e1.trans e2))
  · rw [oV_non, oV_non, Bool.or_eq_false_iff, Bool.or_eq_false_iff, decide_eq_false_iff_not] at hb'
    obtain ⟨n1, n2, n3⟩ := hb'
    have e12 := e1.trans e2
    cases hv : s.chart.at_ i j with
    | none => rw [hv] at n1; cases n1
    | some v =>
      cases hx : alongM s.chart j with
      | none => rw [hx] at n3; cases n3
      | some x =>
        have q : s.chart.look.kind = 2 ∨ (s.chart.look.kind = 3 ∧ i ≠ 0) := by
          by_cases k3 : s.look.kind = 3
          · rw [if_pos k3] at n2
            exact Or.inr ⟨k3, by omega⟩
          · exact Or.inl (ok.kind.resolve_right k3)
        have z : pointL (s.chart.point i j) = some [x, s.chart.up v] := by rw [point_some hv q, hx] <;> rfl
        have vs := at_small ok.rows hv
        have a2 := al H2 e12 (by rw [hv]; intro z; cases z)
        rw [hv, hx] at a2
        exact ret_l (el_lst (ea_cons a2 (ea_cons (ev_meth (ev_fld (ev_var rfl) (e12 _ _ h1) T.c_po T.a_po_upright l_po_upright) (e12 _ _ h6) m_ax_dot_of (ea_cons (ev_var rfl) (ea_cons (ev_fld (ev_fld (ev_fld (ev_var rfl) (e12 _ _ h1) T.c_po T.a_po_chart l_po_chart) (e12 _ _ h2) T.c_ch T.a_ch_look l_ch_look) (e12 _ _ h4) T.c_lk T.a_lk_high l_lk_high) ea_nil)) (use_dot (hA.mono e12) aok (by omega) hh)) ea_nil)) (show 2 ≤ 100000 by decide)) (RetL.up (k.lst z) e12)
theorem use_point_place {b : Addr} {s : St} {i j : Nat} (h : PoAt c H b s) (ok : PointsOk s) : SpO (sp_point_place c) [.ref b, .int (i : Int), .int (j : Int)] H (pointL (s.chart.point i j)) := fun _ e _ q _ => ⟨b, s, i, j, rfl, h.mono e, ok, q⟩
/-- the slot of the nearest -/
def NearV (H H' : Hp) (n : V) : Best → Prop
  | none => n = .non
  | some q => ∃ p, n = .ref p ∧ H p = none ∧ H' p = some (.lst (nV [(q.1.1 : Int), (q.1.2 : Int)]))
theorem NearV.mono {H0 H1 H2 : Hp} {n : V} {bst : Best} (h : NearV H0 H1 n bst) (e : Ex H1 H2) : NearV H0 H2 n bst := by
  cases bst with
  | none => exact h
  | some q =>
    obtain ⟨p, h1, h2, h3⟩ := h
    exact ⟨p, h1, h2, e _ _ h3⟩
def PtW (H : Hp) (b : Addr) (x y : Int) (bst : Best) (v5 : Option V) (σ : L2.St) (H' : Hp) : Prop := ∃ n v6 v7 v8, σ = [some (.ref b), some (.int x), some (.int y), some n, some (.int (bestD bst)), v5, v6, v7, v8] ∧ Ex H H' ∧ NearV H H' n bst
theorem sq_is (i : Int) : i ^ (2 : Int).toNat = i * i := by
  show i ^ 2 = i * i
  rw [Int.pow_succ, Int.pow_succ, Int.pow_zero, Int.one_mul]
theorem pure_Points_one_at (T : Txt K mg c) (h : sp_point_at c vs H Q E) : t_Points_one_at K c (sp_columns c) (sp_point_place c) { nx := fun _ H' => Q .non H', rt := Q } (start ["self", "x", "y", "nearest", "least", "row", "column", "found", "away"] vs) H := by
  obtain ⟨b, s, x, y, rfl, hb, ok, hx, hy, k⟩ := h
  obtain ⟨dx, a, u, l, dc, pr, pl, dl, du, h1, h2, ⟨ps, hps, hr2⟩, hC, hL, h4, hA, h6, h7⟩ := hb.open
  have n2 := ok.rows.n2
  have l16 : s.series.length ≤ 16 := ok.rows.k2
  have l1 : 1 ≤ s.series.length := List.length_pos_iff.mpr ok.rows.k1
  rw [click_best (C := s.chart) ok.kind] at k
  refine q_asg ev_c fun H1 e1 => ?_
  refine q_asg (v := .int 65) (ev_add ev_c ev_c) fun H2 e2 => ?_
  have e12 := e1.trans e2
  have bs : bestTo s.chart x y (if s.look.kind = 3 then 1 else 0) 0 = none := bestTo_start (C := s.chart) x y
  have f0 : (0 : Int) ≤ (if s.look.kind = 3 then 1 else 0) ∧ (if s.look.kind = 3 then (1 : Int) else 0) ≤ 1 := by split <;> decide
  have fn : (((if s.look.kind = 3 then 1 else 0 : Nat)) : Int) = (if s.look.kind = 3 then (1 : Int) else 0) := by split <;> rfl
  refine q_forR2 (lo := if s.look.kind = 3 then 1 else 0) (n := ((s.series.length : Nat) : Int)) (ea_cons (ev_fld (ev_var rfl) (e12 _ _ h1) T.c_po T.a_po_first l_po_first) (ea_cons (ev_is (ev_len (ev_fld (ev_fld (ev_var rfl) (e12 _ _ h1) T.c_po T.a_po_chart l_po_chart) (e12 _ _ h2) T.c_ch T.a_ch_rows l_ch_rows) (sq_of (e12 _ _ hps))) (by rw [List.length_map, hr2.1])) ea_nil)) (by omega)
    (fun i σ H' => ∃ v5, PtW H b x y (bestTo s.chart x y ((if s.look.kind = 3 then 1 else 0) + i) 0) v5 σ H') (fun H3 e3 => ⟨none, .non, none, none, none, ?_, e12.trans e3, ?_⟩) ?_ ?_
  · rw [Nat.add_zero, bs] <;> rfl
  · rw [Nat.add_zero, bs]
    exact rfl
  · rintro i σ' H' hi ⟨v5, n, v6, v7, v8, rfl, x1, x2⟩
    generalize hI : (if s.look.kind = 3 then 1 else 0) + i = I at x2 ⊢
    have hI2 : (if s.look.kind = 3 then (1 : Int) else 0) + (i : Int) = (I : Int) := by rw [← hI, Int.natCast_add, fn]
    rw [hI2] at hi ⊢
    refine s_forR1 (n := ((s.chart.n : Nat) : Int)) (ea_cons (ev_meth (ev_fld (ev_var rfl) (x1 _ _ h1) T.c_po T.a_po_chart l_po_chart) (x1 _ _ h2) m_ch_columns ea_nil (use_columns (hC.mono x1) ok.rows)) ea_nil) (by omega)
      (fun j σ H' => PtW H b x y (bestTo s.chart x y I j) (some (.int (I : Int))) σ H') (fun H3 e3 => ⟨n, v6, v7, v8, rfl, x1.trans e3, x2.mono e3⟩) ?_ ?_
    · rintro j σ' H' hj ⟨n, v6, v7, v8, rfl, x1, x2⟩
      have bok := bestTo_ok s.chart x y I j
      refine q_asgQ (eq_meth (ev_var rfl) (x1 _ _ h1) m_po_place_of (ea_cons (ev_var rfl) (ea_cons (ev_var rfl) ea_nil)) (use_point_place (hb.mono x1) ok)) (fun e0 H3 e3 => ?_) fun l0 e0 p H3 hp e3 hl => ?_
      · have z : s.chart.point I j = none := by
          cases q : s.chart.point I j with
          | none => rfl
          | some r => rw [q] at e0; cases e0
        have z2 : bestTo s.chart x y I (j + 1) = bestTo s.chart x y I j := by
          rw [bestTo_more]
          unfold nearS
          rw [z]
        refine s_when (b := false) (et_is (et_test (ev_notN (ev_var rfl))) (by decide)) (fun h => by cases h) fun _ H4 e4 => ?_
        show PtW H b x y (bestTo s.chart x y I (j + 1)) _ _ _
        rw [z2]
        exact ⟨n, _, _, _, rfl, (x1.trans e3).trans e4, (x2.mono e3).mono e4⟩
      · obtain ⟨r, hr⟩ : ∃ r, s.chart.point I j = some r := by
          cases q : s.chart.point I j with
          | none => rw [q] at e0; cases e0
          | some r => exact ⟨r, rfl⟩
        have el : l0 = [r.1, r.2] := by
          rw [hr] at e0
          exact (Option.some.inj e0).symm
        subst el
        obtain ⟨r1, r2⟩ := point_in (C := s.chart) ok.rows ok.look rfl ok.kind hr
        have hs := sq_of (K := K) hl
        have z2 : bestTo s.chart x y I (j + 1) = Si28.nearer x y (bestTo s.chart x y I j) ((I, j), r) := by
          rw [bestTo_more]
          unfold nearS
          rw [hr]
        have e13 := x1.trans e3
        refine s_when (b := true) (et_is (et_test (ev_notN (ev_var rfl))) (by rw [decide_eq_false (fun e : V.ref p = V.non => by cases e)]; rfl)) (fun _ H4 e4 => ?_) fun h => by cases h
        have hs4 := sq_of (K := K) (e4 _ _ hl)
        refine q_asg (v := .int (Si28.far r x y)) (ev_is (ev_add (ev_pow (ev_sub (ev_ixL (ev_var rfl) ev_c hs4 (atI_nat (j := 0) rfl)) (ev_var rfl)) ev_c ⟨by decide, by decide, by omega⟩) (ev_pow (ev_sub (ev_ixL (ev_var rfl) ev_c hs4 (atI_nat (j := 1) rfl)) (ev_var rfl)) ev_c ⟨by decide, by decide, by omega⟩)) (int_eq (by rw [sq_is, sq_is] <;> rfl))) fun H5 e5 => ?_
        refine s_when (et_test (ev_lt (ev_var rfl) (ev_var rfl))) (fun hb' H6 e6 => ?_) fun hb' H6 e6 => ?_
        · have hlt := of_decide_eq_true hb'
          have e36 := (e4.trans e5).trans e6
          refine q_asgL (el_lst (ea_cons (ev_var rfl) (ea_cons (ev_var rfl) ea_nil)) (show 2 ≤ 100000 by decide)) fun w H7 hw e7 h7' => ?_
          refine s_asg (ev_var rfl) fun H8 e8 => ?_
          show PtW H b x y (bestTo s.chart x y I (j + 1)) _ _ _
          rw [z2, nearer_yes bok hlt]
          exact ⟨.ref w, _, _, _, rfl, ((e13.trans e36).trans e7).trans e8, w, rfl, fresh_back (e13.trans e36) hw, e8 _ _ h7'⟩
        · have hlt := of_decide_eq_false hb'
          have e36 := (e4.trans e5).trans e6
          show PtW H b x y (bestTo s.chart x y I (j + 1)) _ _ _
          rw [z2, nearer_no hlt]
          exact ⟨n, _, _, _, rfl, e13.trans e36, (x2.mono e3).mono e36⟩
    · intro σ' H' hw
      rw [show ((s.chart.n : Nat) : Int).toNat = s.chart.n by omega, bestTo_row] at hw
      show ∃ v5, PtW H b x y (bestTo s.chart x y ((if s.look.kind = 3 then 1 else 0) + (i + 1)) 0) v5 σ' H'
      rw [← Nat.add_assoc, hI]
      exact ⟨_, hw⟩
  · rintro σ' H' ⟨v5, n, v6, v7, v8, rfl, x1, x2⟩
    have z : (if s.look.kind = 3 then 1 else 0) + (((s.series.length : Nat) : Int) - (if s.look.kind = 3 then 1 else 0)).toNat = s.series.length := by
      by_cases k3 : s.look.kind = 3
      · rw [if_pos k3, if_pos k3]; omega
      · rw [if_neg k3, if_neg k3]; omega
    rw [z] at x2
    have k : RetO (pairL ((bestTo s.chart x y s.series.length 0).map fun b => b.1)) H Q := k
    cases hbst : bestTo s.chart x y s.series.length 0 with
    | none =>
      rw [hbst] at x2 k
      have x2 : n = .non := x2
      subst x2
      exact ret_v (ev_var rfl) (RetV.up (k.non rfl) x1)
    | some q =>
      rw [hbst] at x2 k
      obtain ⟨p, rfl, hp, hl⟩ := x2
      exact ret_ref (ev_var rfl) hp x1 hl (k.lst rfl)
end
end DC
namespace DC
open PySem PySem.Spec PyProof.Rows L2 Evl
/-! Ring.__init__: level 1 -/
abbrev s_Ring_init : Stmt := inClass (top 29) 0
theorem sc_Ring_init : FnScope ["self", "parts", "look", "part"] ["self", "parts", "look"] (defScope s_Ring_init) := ⟨rfl, rfl, rfl, by decide +kernel, rfl, by decide +kernel, by decide +kernel⟩
def t_Ring_init (K : PySem.W.Frag) (c : Cs) : TS :=
    (tSeq (sFld K (tVar 0) (tVar 2) "look")
    (tSeq (sFld K (tVar 0) (tLst (tCons (tC (.int 0)) tNil)) "bounds")
    (tFor (iList K (tVar 1)) (gName 3) (tDrop (tBM K "list" rAppend (tFld K (tVar 0) "bounds") (tCons (tOp rAdd (tOp (rIxL K) (tFld K (tVar 0) "bounds") (tUn rNeg (tC (.int 1)))) (tVar 3)) tNil))))))
theorem der_Ring_init {P : Program} {w : World} {K : PySem.W.Frag} {mg : Str → Option Value} {base : Heap} {c : Cs} (T : Txt K mg c)
    {f : Addr} {cdv : Value} {A : Around} {outer : List Env} {s : Shared} {H : Hp} {E : XK}  (hr : Room 0 (A.deeper (envOfC "Ring.__init__" (defScope s_Ring_init) s.heap.objs.size f cdv))) :
    PSs (cxOf CX0 P w K mg base ["self", "parts", "look", "part"] "Ring.__init__" (defScope s_Ring_init) f cdv A outer s H E).nox (defBody s_Ring_init) (t_Ring_init K c) :=
    (pss_cons (ps_fld (pv 0) (pv 2) rfl)
      (pss_cons (ps_fld (pv 0) (pe_lst (pa_cons pe_int pa_nil)) rfl)
      (pss_one (ps_for PassesOwn.never rfl (pi_list (pv 1)) (pg_name (i := 3) sc_Ring_init.nd rfl (Or.inl rfl)) (pss_one (ps_expr (pe_bm PySem.F.plainAttrs_list PySem.F.slot_list_append PySem.F.type_list_append mt_append (pe_fld (pv 0) rfl) (pa_cons (pe_op op_add (pe_ix ix_list (pe_fld (pv 0) rfl) (pe_un un_neg pe_int) (fun _ _ => rfl)) (pv 3)) pa_nil))))))))
end DC
namespace DC
open PySem PySem.Spec PyProof.Rows L2 Evl
/-! Ring.place_of: level 1 -/
abbrev s_Ring_place_of : Stmt := inClass (top 29) 1
theorem sc_Ring_place_of : FnScope ["self", "row", "column"] ["self", "row", "column"] (defScope s_Ring_place_of) := ⟨rfl, rfl, rfl, by decide +kernel, rfl, by decide +kernel, by decide +kernel⟩
def t_Ring_place_of (K : PySem.W.Frag) (c : Cs) : TS :=
    (tSeq (tIfS (tOr (tTest (tOp rNe (tVar 1) (tC (.int 0)))) (tTest (tOp rGe (tVar 2) (tOp rSub (tCB (rLenS K) (tCons (tFld K (tVar 0) "bounds") tNil)) (tC (.int 1)))))) (tRet (tC .non)) tNext)
    (tRet (tLst (tCons (tOp (rIxL K) (tFld K (tVar 0) "bounds") (tVar 2)) (tCons (tOp (rIxL K) (tFld K (tVar 0) "bounds") (tOp rAdd (tVar 2) (tC (.int 1)))) (tCons (tOp (rIxL K) (tFld K (tVar 0) "bounds") (tUn rNeg (tC (.int 1)))) tNil))))))
theorem der_Ring_place_of {P : Program} {w : World} {K : PySem.W.Frag} {mg : Str → Option Value} {base : Heap} {c : Cs} (T : Txt K mg c)
    {f : Addr} {cdv : Value} {A : Around} {outer : List Env} {s : Shared} {H : Hp} {E : XK}  (hr : Room 0 (A.deeper (envOfC "Ring.place_of" (defScope s_Ring_place_of) s.heap.objs.size f cdv))) :
    PSs (cxOf CX0 P w K mg base ["self", "row", "column"] "Ring.place_of" (defScope s_Ring_place_of) f cdv A outer s H E).nox (defBody s_Ring_place_of) (t_Ring_place_of K c) :=
    (pss_cons (ps_if (PW.pt (pw_or (pt_cmpR op_ne (pv 1) pe_int (nomark _)) (pw_or1 (pt_cmpR op_ge (pv 2) (pe_op op_sub (pe_callB call_len_seq (by rfl) T.n_len b_len (pa_cons (pe_fld (pv 0) rfl) pa_nil)) pe_int) (nomark _))))) (pss_one (ps_ret pe_non)) pss_nil)
      (pss_one (ps_ret (pe_lst (pa_cons (pe_ix ix_list (pe_fld (pv 0) rfl) (pv 2) (fun _ _ => rfl)) (pa_cons (pe_ix ix_list (pe_fld (pv 0) rfl) (pe_op op_add (pv 2) pe_int) (fun _ _ => rfl)) (pa_cons (pe_ix ix_list (pe_fld (pv 0) rfl) (pe_un un_neg pe_int) (fun _ _ => rfl)) pa_nil)))))))
end DC
namespace DC
open PySem PySem.Spec PyProof.Rows L2 Evl
/-! Ring.one_at: level 2 -/
abbrev s_Ring_one_at : Stmt := inClass (top 29) 2
theorem sc_Ring_one_at : FnScope ["self", "x", "y", "u", "v", "r", "side", "reached", "column"] ["self", "x", "y"] (defScope s_Ring_one_at) := ⟨rfl, rfl, rfl, by decide +kernel, rfl, by decide +kernel, by decide +kernel⟩
def t_Ring_one_at (K : PySem.W.Frag) (c : Cs) (p_far_round : Sp) : TS :=
    (tSeq (tAsg (tOp rSub (tOp rMul (tC (.int 2)) (tVar 1)) (tOp rSub (tFld K (tFld K (tVar 0) "look") "wide") (tC (.int 1)))) (gName 3))
    (tSeq (tAsg (tOp rSub (tOp rMul (tC (.int 2)) (tVar 2)) (tOp rSub (tFld K (tFld K (tVar 0) "look") "high") (tC (.int 1)))) (gName 4))
    (tSeq (tAsg (tCB (rMax2) (tCons (tCB (rAbs) (tCons (tVar 3) tNil)) (tCons (tCB (rAbs) (tCons (tVar 4) tNil)) tNil))) (gName 5))
    (tSeq (tAsg (tCB (rMin2) (tCons (tFld K (tFld K (tVar 0) "look") "wide") (tCons (tFld K (tFld K (tVar 0) "look") "high") tNil))) (gName 6))
    (tSeq (tIfS (tNot (tTest (tChain rLt rLe (tVar 5) (tVar 6) (tOp rMul (tC (.int 2)) (tVar 5))))) (tRet (tC .non)) tNext)
    (tSeq (tAsg (tOp rMul (tCall p_far_round [] E0 (tCons (tVar 3) (tCons (tVar 4) (tCons (tVar 5) tNil)))) (tOp (rIxL K) (tFld K (tVar 0) "bounds") (tUn rNeg (tC (.int 1))))) (gName 7))
    (tSeq (tFor (iRng1 (tCons (tOp rSub (tCB (rLenS K) (tCons (tFld K (tVar 0) "bounds") tNil)) (tC (.int 1))) tNil)) (gName 8) (tIfS (tTest (tChain rLe rLt (tOp rMul (tOp rMul (tOp (rIxL K) (tFld K (tVar 0) "bounds") (tVar 8)) (tC (.int 8))) (tVar 5)) (tVar 7) (tOp rMul (tOp rMul (tOp (rIxL K) (tFld K (tVar 0) "bounds") (tOp rAdd (tVar 8) (tC (.int 1)))) (tC (.int 8))) (tVar 5)))) (tRet (tLst (tCons (tC (.int 0)) (tCons (tVar 8) tNil)))) tNext))
    (tRet (tC .non)))))))))
theorem der_Ring_one_at {P : Program} {w : World} {K : PySem.W.Frag} {mg : Str → Option Value} {base : Heap} {c : Cs} {p_far_round : Sp} (T : Txt K mg c)
    (c_far_round : C8.Cal P w K mg base 1 "far_round" p_far_round [])
    {f : Addr} {cdv : Value} {A : Around} {outer : List Env} {s : Shared} {H : Hp} {E : XK}  (hr : Room 1 (A.deeper (envOfC "Ring.one_at" (defScope s_Ring_one_at) s.heap.objs.size f cdv))) :
    PSs (cxOf CX0 P w K mg base ["self", "x", "y", "u", "v", "r", "side", "reached", "column"] "Ring.one_at" (defScope s_Ring_one_at) f cdv A outer s H E).nox (defBody s_Ring_one_at) (t_Ring_one_at K c p_far_round) :=
    (pss_cons (ps_set (i := 3) sc_Ring_one_at.nd rfl (Or.inl rfl) (pe_op op_sub (pe_op op_mulW pe_int (pv 1)) (pe_op op_sub (pe_fld (pe_fld (pv 0) rfl) rfl) pe_int)))
      (pss_cons (ps_set (i := 4) sc_Ring_one_at.nd rfl (Or.inl rfl) (pe_op op_sub (pe_op op_mulW pe_int (pv 2)) (pe_op op_sub (pe_fld (pe_fld (pv 0) rfl) rfl) pe_int)))
      (pss_cons (ps_set (i := 5) sc_Ring_one_at.nd rfl (Or.inl rfl) (pe_callB (call_max2 rfl) (by rfl) T.n_max b_max (pa_cons (pe_callB call_abs (by rfl) T.n_abs b_abs (pa_cons (pv 3) pa_nil)) (pa_cons (pe_callB call_abs (by rfl) T.n_abs b_abs (pa_cons (pv 4) pa_nil)) pa_nil))))
      (pss_cons (ps_set (i := 6) sc_Ring_one_at.nd rfl (Or.inl rfl) (pe_callB (call_min2 rfl) (by rfl) T.n_min b_min (pa_cons (pe_fld (pe_fld (pv 0) rfl) rfl) (pa_cons (pe_fld (pe_fld (pv 0) rfl) rfl) pa_nil))))
      (pss_cons (ps_if (pt_not (pt_chain op_lt op_le (pv 5) (pv 6) (pe_op op_mulW pe_int (pv 5)))) (pss_one (ps_ret pe_non)) pss_nil)
      (pss_cons (ps_set (i := 7) sc_Ring_one_at.nd rfl (Or.inl rfl) (pe_op op_mulW (C8.pe_c c_far_round hr (by decide) (by rfl) (pa_cons (pv 3) (pa_cons (pv 4) (pa_cons (pv 5) pa_nil)))) (pe_ix ix_list (pe_fld (pv 0) rfl) (pe_un un_neg pe_int) (fun _ _ => rfl))))
      (pss_cons (ps_for PassesOwn.never rfl (pi_range1 (by rfl) T.n_range (pa_cons (pe_op op_sub (pe_callB call_len_seq (by rfl) T.n_len b_len (pa_cons (pe_fld (pv 0) rfl) pa_nil)) pe_int) pa_nil)) (pg_name (i := 8) sc_Ring_one_at.nd rfl (Or.inl rfl)) (pss_one (ps_if (pt_chain op_le op_lt (pe_op op_mulW (pe_op op_mulW (pe_ix ix_list (pe_fld (pv 0) rfl) (pv 8) (fun _ _ => rfl)) pe_int) (pv 5)) (pv 7) (pe_op op_mulW (pe_op op_mulW (pe_ix ix_list (pe_fld (pv 0) rfl) (pe_op op_add (pv 8) pe_int) (fun _ _ => rfl)) pe_int) (pv 5))) (pss_one (ps_ret (pe_lst (pa_cons pe_int (pa_cons (pv 8) pa_nil))))) pss_nil)))
      (pss_one (ps_ret pe_non)))))))))
end DC
namespace DC
open PySem PySem.Spec PyProof.Rows L2 Evl
/-! far_round: level 1 -/
abbrev s_far_round : Stmt := top 30
theorem sc_far_round : FnScope ["u", "v", "r"] ["u", "v", "r"] (defScope s_far_round) := ⟨rfl, rfl, rfl, by decide +kernel, rfl, by decide +kernel, by decide +kernel⟩
def t_far_round (K : PySem.W.Frag) (c : Cs) : TS :=
    (tSeq (tIfS (tAnd (tTest (tOp rEq (tVar 1) (tVar 2))) (tTest (tOp rGe (tVar 0) (tC (.int 0))))) (tRet (tVar 0)) tNext)
    (tSeq (tIfS (tTest (tOp rEq (tVar 0) (tVar 2))) (tRet (tOp rSub (tOp rMul (tC (.int 2)) (tVar 2)) (tVar 1))) tNext)
    (tSeq (tIfS (tTest (tOp rEq (tVar 1) (tUn rNeg (tVar 2)))) (tRet (tOp rSub (tOp rMul (tC (.int 4)) (tVar 2)) (tVar 0))) tNext)
    (tSeq (tIfS (tTest (tOp rEq (tVar 0) (tUn rNeg (tVar 2)))) (tRet (tOp rAdd (tOp rMul (tC (.int 6)) (tVar 2)) (tVar 1))) tNext)
    (tRet (tOp rAdd (tOp rMul (tC (.int 8)) (tVar 2)) (tVar 0)))))))
theorem der_far_round {P : Program} {w : World} {K : PySem.W.Frag} {mg : Str → Option Value} {base : Heap} {c : Cs} (T : Txt K mg c)
    {f : Addr} {cdv : Value} {A : Around} {outer : List Env} {s : Shared} {H : Hp} {E : XK}  (hr : Room 0 (A.deeper (envOfC "far_round" (defScope s_far_round) s.heap.objs.size f cdv))) :
    PSs (cxOf CX0 P w K mg base ["u", "v", "r"] "far_round" (defScope s_far_round) f cdv A outer s H E).nox (defBody s_far_round) (t_far_round K c) :=
    (pss_cons (ps_if (PW.pt (pw_and (pt_cmpR op_eq (pv 1) (pv 2) (nomark _)) (pw_and1 (pt_cmpR op_ge (pv 0) pe_int (nomark _))))) (pss_one (ps_ret (pv 0))) pss_nil)
      (pss_cons (ps_if (pt_cmpR op_eq (pv 0) (pv 2) (nomark _)) (pss_one (ps_ret (pe_op op_sub (pe_op op_mulW pe_int (pv 2)) (pv 1)))) pss_nil)
      (pss_cons (ps_if (pt_cmpR op_eq (pv 1) (pe_un un_neg (pv 2)) (nomark _)) (pss_one (ps_ret (pe_op op_sub (pe_op op_mulW pe_int (pv 2)) (pv 0)))) pss_nil)
      (pss_cons (ps_if (pt_cmpR op_eq (pv 0) (pe_un un_neg (pv 2)) (nomark _)) (pss_one (ps_ret (pe_op op_add (pe_op op_mulW pe_int (pv 2)) (pv 1)))) pss_nil)
      (pss_one (ps_ret (pe_op op_add (pe_op op_mulW pe_int (pv 2)) (pv 0))))))))
end DC
namespace DC
open PySem PySem.Spec PyProof.Rows L2 Evl
/-! ring_parts: level 1 -/
abbrev s_ring_parts : Stmt := top 31
theorem sc_ring_parts : FnScope ["row", "number"] ["row"] (defScope s_ring_parts) := ⟨rfl, rfl, rfl, by decide +kernel, rfl, by decide +kernel, by decide +kernel⟩
def t_ring_parts (K : PySem.W.Frag) (c : Cs) : TS :=
    (tRet (tLc (iList K (tVar 0)) (gName 1) tYes (tIf (tOr (tTest (tOp rIsN (tVar 1) (tC .non))) (tTest (tOp rLt (tVar 1) (tC (.int 0))))) (tC (.int 0)) (tVar 1)) [1]))
theorem der_ring_parts {P : Program} {w : World} {K : PySem.W.Frag} {mg : Str → Option Value} {base : Heap} {c : Cs} (T : Txt K mg c)
    {f : Addr} {cdv : Value} {A : Around} {outer : List Env} {s : Shared} {H : Hp} {E : XK}  (hr : Room 0 (A.deeper (envOfC "ring_parts" (defScope s_ring_parts) s.heap.objs.size f cdv))) :
    PSs (cxOf CX0 P w K mg base ["row", "number"] "ring_parts" (defScope s_ring_parts) f cdv A outer s H E).nox (defBody s_ring_parts) (t_ring_parts K c) :=
    (pss_one (ps_ret (pe_lc (own := [("number", 1)]) (g := gName 1) (tt := tYes) (by rfl) sc_ring_parts.nd (pi_list (pv 0)) (blkOk_by (own := [("number", 1)]) (N := ["row", "number"]) (sc := defScope s_ring_parts) (by decide +kernel)) (fun _ _ _ _ _ => pg_name (i := 1) sc_ring_parts.nd rfl (Or.inl rfl)) (fun _ _ _ _ _ => pts_nil) (fun _ _ _ _ _ => (pe_ifExp (PW.pt (pw_or (pt_cmpR op_isN (pv 1) pe_non (nomark _)) (pw_or1 (pt_cmpR op_lt (pv 1) pe_int (nomark _))))) pe_int (pv 1))))))
end DC
namespace DC
open PySem PySem.Spec PyProof.Rows L2 Evl
section
variable {K : PySem.W.Frag} {mg : Str → Option Value} {c : Cs} {vs : List V} {H : Hp} {Q : VK} {E : XK}
theorem But.mut {p q : Addr} {H' : Hp} {o : HO} (x : But p H H') (h : H q = none) : But p H (L2.upd H' q o) := fun b u hb n => by
  rw [upd_ne (ne_of_none hb h)]
  exact x b u hb n
theorem get_nV {l : List Int} {i : Nat} {x : V} (h : (nV l)[i]? = some x) : ∃ z, l[i]? = some z ∧ x = .int z := by
  unfold nV at h
  rw [List.getElem?_map] at h
  cases e : l[i]? with
  | none => rw [e] at h; cases h
  | some z => rw [e] at h; exact ⟨z, rfl, (Option.some.inj h).symm⟩
theorem nV_last (l : List Int) (z : Int) : atI (nV (l ++ [z])) (-1) = some (.int z) := by
  unfold nV
  rw [List.map_append]
  exact atI_last _ _
theorem abs_max (u v : Int) : (if (if v < 0 then -v else v) > (if u < 0 then -u else u) then (if v < 0 then -v else v) else (if u < 0 then -u else u)) = ((max u.natAbs v.natAbs : Nat) : Int) := by
  by_cases a : u < 0 <;> by_cases b : v < 0
  · rw [if_pos a, if_pos b]; split <;> omega
  · rw [if_pos a, if_neg b]; split <;> omega
  · rw [if_neg a, if_pos b]; split <;> omega
  · rw [if_neg a, if_neg b]; split <;> omega
theorem pure_Ring_init (T : Txt K mg c) (h : sp_Ring c vs H Q E) : t_Ring_init K c { nx := fun _ H' => Q .non H', rt := Q } (start ["self", "parts", "look", "part"] vs) H := by
  obtain ⟨p, dx, a, l, ps, rfl, hp, ha, ok, k⟩ := h
  have n512 := ok.n
  refine q_fldV (ev_var rfl) (ev_var rfl) hp T.c_ri T.a_ri_look (show 0 < 1000 by decide) fun H1 e1 _ => ?_
  rw [i_ri_look]
  have x1 : But p H (upd H1 p (.ins c.ri dx [("look", .ref l)])) := (But.ex e1).trans But.upd
  refine q_fldN (en_l (el_lst (ea_cons ev_c ea_nil) (by decide))) (ev_var rfl) upd_same T.c_ri T.a_ri_bounds (show 1 < 1000 by decide) fun q H2 H3 hq e2 hl e3 ho => ?_
  rw [i_ri_bounds]
  have nq : q ≠ p := fun z => by rw [z, upd_same] at hq; cases hq
  have hq0 : H q = none := by
    cases e : H q with
    | none => rfl
    | some o =>
      rw [x1 q o e nq] at hq
      cases hq
  have x3 : But p H (upd H3 p (.ins c.ri dx (f_ri (.ref l) (.ref q)))) := (x1.trans (But.ex (e2.trans e3))).trans But.upd
  refine s_forLn (j := 3) (ev_var rfl) (sq_of (but_raw hp x3 ha raw_l)) (fun i σ H' => (∃ v, σ = [some (.ref p), some (.ref a), some (.ref l), v]) ∧ But p H H' ∧ H' p = some (.ins c.ri dx (f_ri (.ref l) (.ref q))) ∧ H' q = some (.lst (nV (boundsTo ps i))))
    (fun H4 e4 => ⟨⟨_, rfl⟩, x3.trans (But.ex e4), e4 _ _ upd_same, e4 _ _ (by rw [upd_ne nq]; exact e3 _ _ hl)⟩) (fun i σ' H' _ ⟨_, x, _⟩ => sq_of (but_raw hp x ha raw_l)) ?_ ?_
  · rintro i x σ' H' hx ⟨⟨v, rfl⟩, y1, y2, y3⟩
    obtain ⟨z, hz, rfl⟩ := get_nV hx
    obtain ⟨l0, hl0⟩ := boundsTo_last ps i
    have hi := (List.getElem?_eq_some_iff.mp hz).1
    refine s_appB (v := .int ((ps.take i).sum + z)) y3 (ev_fld (ev_var rfl) y2 T.c_ri T.a_ri_bounds l_ri_bounds) (ev_add (ev_ixL (ev_fld (ev_var rfl) y2 T.c_ri T.a_ri_bounds l_ri_bounds) (ev_neg ev_c) (sq_of y3) (by rw [hl0]; exact nV_last _ _)) (ev_var rfl)) (sz16l ?_) fun H4 e4 => ⟨⟨_, rfl⟩, (y1.trans (But.ex e4)).mut hq0, ?_, ?_⟩
    · rw [nV_len]
      unfold boundsTo
      rw [List.length_map, List.length_range]
      omega
    · rw [upd_ne (fun z => nq z.symm)]
      exact e4 _ _ y2
    · rw [upd_same, boundsTo_more hz]
      exact congrArg (fun l => some (HO.lst l)) (nV_app _ [(ps.take i).sum + z])
  · rintro σ' H' ⟨_, y1, y2, y3⟩
    rw [nV_len] at y3
    exact k _ _ y2 ⟨q, rfl, y3⟩ y1
theorem pure_Ring_place_of (T : Txt K mg c) (h : sp_ring_place c vs H Q E) : t_Ring_place_of K c { nx := fun _ H' => Q .non H', rt := Q } (start ["self", "row", "column"] vs) H := by
  obtain ⟨b, ps, lk, i, j, rfl, ⟨dx, l, q, h1, h2, h3⟩, ok, k⟩ := h
  refine q_when (et_or (et_test (ev_neI (ev_var rfl) ev_c)) fun _ => et_test (ev_ge (ev_var rfl) (ev_sub (ev_len (ev_fld (ev_var rfl) h1 T.c_ri T.a_ri_bounds l_ri_bounds) (sq_of h3)) ev_c))) (fun hb H1 e => ?_) fun hb H1 e1 => ?_
  · rw [nV_len, bounds_len] at hb
    have z : ringL ps i j = none := by
      unfold ringL
      refine if_neg fun y => ?_
      rw [Bool.or_eq_true, decide_eq_true_eq, Bool.not_eq_true', decide_eq_false_iff_not] at hb
      omega
    exact ret_v ev_c (RetV.up (k.non z) e)
  · rw [nV_len, bounds_len, Bool.or_eq_false_iff, decide_eq_false_iff_not, Bool.not_eq_false', decide_eq_true_eq] at hb
    have z : ringL ps i j = some [(ps.take j).sum, (ps.take (j + 1)).sum, ps.sum] := if_pos ⟨by omega, by omega⟩
    have f1 := e1 _ _ h1
    have hs := sq_of (K := K) (e1 _ _ h3)
    obtain ⟨l0, hl0⟩ := boundsTo_last ps ps.length
    have el : bounds ps = l0 ++ [ps.sum] := by
      rw [List.take_length] at hl0
      exact hl0
    exact ret_l (el_lst (ea_cons (ev_ixL (ev_fld (ev_var rfl) f1 T.c_ri T.a_ri_bounds l_ri_bounds) (ev_var rfl) hs (atI_nat (nV_get (bounds_get (by omega))))) (ea_cons (ev_ixL (ev_fld (ev_var rfl) f1 T.c_ri T.a_ri_bounds l_ri_bounds) (ev_add (ev_var rfl) ev_c) hs (atI_nat (j := j + 1) (nV_get (bounds_get (by omega)))))
      (ea_cons (ev_ixL (ev_fld (ev_var rfl) f1 T.c_ri T.a_ri_bounds l_ri_bounds) (ev_neg ev_c) hs (by rw [el]; exact nV_last _ _)) ea_nil))) (show 3 ≤ 100000 by decide)) (RetL.up (k.lst z) e1)
theorem pure_far_round (h : sp_far vs H Q E) : t_far_round K c { nx := fun _ H' => Q .non H', rt := Q } (start ["u", "v", "r"] vs) H := by
  obtain ⟨u, v, r, rfl, hu, hv, hr, k⟩ := h
  have br : r.natAbs < 2 ^ 42 := by omega
  have m : ∀ z : Int, z.natAbs < 2 ^ 4 → CMulW z r := fun z hz => wide_mul hz br (by decide) (by decide) (by decide)
  refine q_when (et_and (et_test (ev_eqI (ev_var rfl) (ev_var rfl))) fun _ => et_test (ev_ge (ev_var rfl) ev_c)) (fun hb H1 e => ?_) fun hb0 H1 e1 => ?_
  · rw [Bool.and_eq_true, decide_eq_true_eq, decide_eq_true_eq] at hb
    have z : farM u v r = u := if_pos hb
    rw [z] at k
    exact ret_v (ev_var rfl) (RetV.up k e)
  have z0 : ¬ (v = r ∧ 0 ≤ u) := by
    rw [Bool.and_eq_false_iff, decide_eq_false_iff_not, decide_eq_false_iff_not] at hb0
    omega
  refine q_when (et_test (ev_eqI (ev_var rfl) (ev_var rfl))) (fun hb H2 e => ?_) fun hb1 H2 e2 => ?_
  · have z : farM u v r = 2 * r - v := (if_neg z0).trans (if_pos (of_decide_eq_true hb))
    rw [z] at k
    exact ret_v (ev_sub (ev_mul ev_c (ev_var rfl) (m 2 (by decide))) (ev_var rfl)) (RetV.up k (e1.trans e))
  have z1 := of_decide_eq_false hb1
  refine q_when (et_test (ev_eqI (ev_var rfl) (ev_neg (ev_var rfl)))) (fun hb H3 e => ?_) fun hb2 H3 e3 => ?_
  · have z : farM u v r = 4 * r - u := (if_neg z0).trans ((if_neg z1).trans (if_pos (of_decide_eq_true hb)))
    rw [z] at k
    exact ret_v (ev_sub (ev_mul ev_c (ev_var rfl) (m 4 (by decide))) (ev_var rfl)) (RetV.up k ((e1.trans e2).trans e))
  have z2 := of_decide_eq_false hb2
  refine q_when (et_test (ev_eqI (ev_var rfl) (ev_neg (ev_var rfl)))) (fun hb H4 e => ?_) fun hb3 H4 e4 => ?_
  · have z : farM u v r = 6 * r + v := (if_neg z0).trans ((if_neg z1).trans ((if_neg z2).trans (if_pos (of_decide_eq_true hb))))
    rw [z] at k
    exact ret_v (ev_add (ev_mul ev_c (ev_var rfl) (m 6 (by decide))) (ev_var rfl)) (RetV.up k (((e1.trans e2).trans e3).trans e))
  · have z : farM u v r = 8 * r + u := (if_neg z0).trans ((if_neg z1).trans ((if_neg z2).trans (if_neg (of_decide_eq_false hb3))))
    rw [z] at k
    exact ret_v (ev_add (ev_mul ev_c (ev_var rfl) (m 8 (by decide))) (ev_var rfl)) (RetV.up k (((e1.trans e2).trans e3).trans e4))
theorem use_far {u v r : Int} (hu : -(2 ^ 40) ≤ u ∧ u ≤ 2 ^ 40) (hv : -(2 ^ 40) ≤ v ∧ v ≤ 2 ^ 40) (hr : -(2 ^ 40) ≤ r ∧ r ≤ 2 ^ 40) : SpV sp_far [.int u, .int v, .int r] H (.int (farM u v r)) := fun _ _ _ q _ => ⟨u, v, r, rfl, hu, hv, hr, q⟩
theorem far_small {u v r : Int} (hu : -(2 ^ 34) ≤ u ∧ u ≤ 2 ^ 34) (hv : -(2 ^ 34) ≤ v ∧ v ≤ 2 ^ 34) (hr : -(2 ^ 34) ≤ r ∧ r ≤ 2 ^ 34) : (farM u v r).natAbs < 2 ^ 40 := by
  unfold farM
  split
  · omega
  split
  · omega
  split
  · omega
  split <;> omega
theorem pure_ring_parts (h : sp_ring_parts vs H Q E) : t_ring_parts K c { nx := fun _ H' => Q .non H', rt := Q } (start ["row", "number"] vs) H := by
  obtain ⟨p, r, rfl, hp, hl, k⟩ := h
  refine ret_l (el_is (el_lcF oV r (fun _ => true) (fun v => V.int (match v with | some z => max z 0 | none => 0)) (ev_var rfl) hp (by omega) (fun x => rfl) (fun x H1 hx e => et_yes) fun x H1 hx e _ => ?_) (by rw [List.filter_eq_self.mpr fun _ _ => rfl]; unfold nV partsOf; rw [List.map_map] <;> rfl)) k
  cases x with
  | none => exact ev_if (b := true) (et_is (et_or (b := true) (et_test (ev_isN (ev_var rfl))) fun h => by cases h) (by decide)) (fun _ => ev_c) fun h => by cases h
  | some z =>
    refine ev_if (et_or (et_test (ev_isN (ev_var rfl))) fun _ => et_test (ev_lt (ev_var rfl) ev_c)) (fun hb => ?_) fun hb => ?_
    · have z0 : z < 0 := by
        have q : decide (oV (some z) = V.non) = false := oV_non
        rw [q] at hb
        exact of_decide_eq_true hb
      exact ev_is ev_c (int_eq (show (0 : Int) = max z 0 by omega))
    · have z0 : ¬ z < 0 := by
        have q : decide (oV (some z) = V.non) = false := oV_non
        rw [q] at hb
        exact of_decide_eq_false hb
      exact ev_is (ev_var rfl) (int_eq (show z = max z 0 by omega))
theorem ev_mx2 {ta tb : TE} {σ : L2.St} {i j : Int} (ha : Ev ta σ H (.int i)) (hb : Ev tb σ H (.int j)) : Ev (tCB rMax2 (tCons ta (tCons tb tNil))) σ H (.int (if j > i then j else i)) := ev_cb (ea_cons ha (ea_cons hb ea_nil)) fun H1 _ _ q => ⟨i, j, rfl, q H1 (Ex.refl H1)⟩
theorem ev_mn2 {ta tb : TE} {σ : L2.St} {i j : Int} (ha : Ev ta σ H (.int i)) (hb : Ev tb σ H (.int j)) : Ev (tCB rMin2 (tCons ta (tCons tb tNil))) σ H (.int (if j < i then j else i)) := ev_cb (ea_cons ha (ea_cons hb ea_nil)) fun H1 _ _ q => ⟨i, j, rfl, q H1 (Ex.refl H1)⟩
theorem PartsOk.sum {ps : List Int} (ok : PartsOk ps) : ∀ j, 0 ≤ (ps.take j).sum ∧ (ps.take j).sum ≤ 512 * 10 ^ 36 := fun j => by
  have a := take_sum_le (fun x hx => (ok.nn x hx).1) j
  have b := sum_small (B := 10 ^ 36) (by decide) ps fun x hx => by have := ok.nn x hx; omega
  have c := ok.n
  omega
theorem pure_Ring_one_at (T : Txt K mg c) (h : sp_ring_at c vs H Q E) : t_Ring_one_at K c sp_far { nx := fun _ H' => Q .non H', rt := Q } (start ["self", "x", "y", "u", "v", "r", "side", "reached", "column"] vs) H := by
  obtain ⟨b, s, x, y, rfl, ⟨dx, l, q, h1, ⟨dl, h2⟩, h3⟩, ok, lk, k4, hn, hx, hy, k⟩ := h
  have w1 := lk.w1
  have w2 := lk.w2
  have g1 := lk.h1
  have g2 := lk.h2
  have n512 := ok.n
  obtain ⟨u, hu⟩ : ∃ u : Int, u = 2 * x - ((s.look.width : Int) - 1) := ⟨_, rfl⟩
  obtain ⟨v, hv⟩ : ∃ v : Int, v = 2 * y - ((s.look.height : Int) - 1) := ⟨_, rfl⟩
  obtain ⟨r, hr⟩ : ∃ r : Nat, r = max u.natAbs v.natAbs := ⟨_, rfl⟩
  have bx : x.natAbs < 2 ^ 32 := by omega
  have by_ : y.natAbs < 2 ^ 32 := by omega
  have bu : -(2 ^ 34) ≤ u ∧ u ≤ 2 ^ 34 := by omega
  have bv : -(2 ^ 34) ≤ v ∧ v ≤ 2 ^ 34 := by omega
  have b2 : (2 : Int).natAbs < 2 ^ 2 := by decide
  have k4' : s.chart.look.kind = 4 := k4
  rw [click_ring k4'] at k
  refine q_asg (v := .int u) (ev_is (ev_sub (ev_mul ev_c (ev_var rfl) (wide_mul b2 bx (by decide) (by decide) (by decide))) (ev_sub (ev_fld (ev_fld (ev_var rfl) h1 T.c_ri T.a_ri_look l_ri_look) h2 T.c_lk T.a_lk_wide l_lk_wide) ev_c)) (int_eq hu.symm)) fun H1 e1 => ?_
  refine q_asg (v := .int v) (ev_is (ev_sub (ev_mul ev_c (ev_var rfl) (wide_mul b2 by_ (by decide) (by decide) (by decide))) (ev_sub (ev_fld (ev_fld (ev_var rfl) (e1 _ _ h1) T.c_ri T.a_ri_look l_ri_look) (e1 _ _ h2) T.c_lk T.a_lk_high l_lk_high) ev_c)) (int_eq hv.symm)) fun H2 e2 => ?_
  refine q_asg (v := .int (r : Int)) (ev_is (ev_mx2 (ev_abs (ev_var rfl)) (ev_abs (ev_var rfl))) (int_eq (by rw [hr]; exact abs_max u v))) fun H3 e3 => ?_
  have e13 := (e1.trans e2).trans e3
  refine q_asg (v := .int ((min s.look.width s.look.height : Nat) : Int)) (ev_is (ev_mn2 (ev_fld (ev_fld (ev_var rfl) (e13 _ _ h1) T.c_ri T.a_ri_look l_ri_look) (e13 _ _ h2) T.c_lk T.a_lk_wide l_lk_wide) (ev_fld (ev_fld (ev_var rfl) (e13 _ _ h1) T.c_ri T.a_ri_look l_ri_look) (e13 _ _ h2) T.c_lk T.a_lk_high l_lk_high)) (int_eq (by split <;> omega))) fun H4 e4 => ?_
  have e14 := e13.trans e4
  have br : ((r : Nat) : Int).natAbs < 2 ^ 36 := by omega
  refine q_when (et_not (et_test (ev_ltLe (ev_var rfl) (ev_var rfl) (ev_mul ev_c (ev_var rfl) (wide_mul b2 br (by decide) (by decide) (by decide)))))) (fun hb H5 e => ?_) fun hb H5 e5 => ?_
  · have z : s.chart.slice x y = none := by
      refine slice_out ?_
      show min s.look.width s.look.height ≤ max (2 * x - ((s.look.width : Int) - 1)).natAbs (2 * y - ((s.look.height : Int) - 1)).natAbs ∨ 2 * max (2 * x - ((s.look.width : Int) - 1)).natAbs (2 * y - ((s.look.height : Int) - 1)).natAbs < min s.look.width s.look.height
      rw [← hu, ← hv, ← hr]
      rw [Bool.not_eq_true', Bool.and_eq_false_iff, decide_eq_false_iff_not, decide_eq_false_iff_not] at hb
      omega
    rw [z] at k
    exact ret_v ev_c (RetV.up (k.non rfl) (e14.trans e))
  have z : s.chart.slice x y = (List.range s.chart.n).find? (hit s.chart.parts (farM u v (r : Int)) (r : Int)) := by
    have := slice_in (C := s.chart) (x := x) (y := y) (fun q => ?_) fun z hz => (ok.nn z hz).1
    · rw [this]
      show List.find? (hit s.chart.parts (farM (2 * x - ((s.look.width : Int) - 1)) (2 * y - ((s.look.height : Int) - 1)) ((max (2 * x - ((s.look.width : Int) - 1)).natAbs (2 * y - ((s.look.height : Int) - 1)).natAbs : Nat) : Int)) ((max (2 * x - ((s.look.width : Int) - 1)).natAbs (2 * y - ((s.look.height : Int) - 1)).natAbs : Nat) : Int)) _ = _
      rw [← hu, ← hv, ← hr]
    · have q : min s.look.width s.look.height ≤ max (2 * x - ((s.look.width : Int) - 1)).natAbs (2 * y - ((s.look.height : Int) - 1)).natAbs ∨ 2 * max (2 * x - ((s.look.width : Int) - 1)).natAbs (2 * y - ((s.look.height : Int) - 1)).natAbs < min s.look.width s.look.height := q
      rw [← hu, ← hv, ← hr] at q
      rw [Bool.not_eq_false', Bool.and_eq_true, decide_eq_true_eq, decide_eq_true_eq] at hb
      omega
  rw [z] at k
  have e15 := e14.trans e5
  have bf := far_small bu bv (r := (r : Int)) (by omega)
  have bs : ∀ j, (s.chart.parts.take j).sum.natAbs < 2 ^ 140 := fun j => by have := ok.sum j; omega
  have bt : s.chart.parts.sum.natAbs < 2 ^ 140 := by
    have := bs s.chart.parts.length
    rw [List.take_length] at this
    exact this
  obtain ⟨l0, hl0⟩ := boundsTo_last s.chart.parts s.chart.parts.length
  have el : bounds s.chart.parts = l0 ++ [s.chart.parts.sum] := by
    rw [List.take_length] at hl0
    exact hl0
  refine q_asg (v := .int (farM u v (r : Int) * s.chart.parts.sum)) (ev_mul (ev_cal (ea_cons (ev_var rfl) (ea_cons (ev_var rfl) (ea_cons (ev_var rfl) ea_nil))) (use_far (by omega) (by omega) (by omega))) (ev_ixL (ev_fld (ev_var rfl) (e15 _ _ h1) T.c_ri T.a_ri_bounds l_ri_bounds) (ev_neg ev_c) (sq_of (e15 _ _ h3)) (by rw [el]; exact nV_last _ _)) (wide_mul bf bt (by decide) (by decide) (by decide))) fun H6 e6 => ?_
  have e16 := e15.trans e6
  refine q_forR1 (n := ((s.chart.parts.length : Nat) : Int)) (ea_cons (ev_is (ev_sub (ev_len (ev_fld (ev_var rfl) (e16 _ _ h1) T.c_ri T.a_ri_bounds l_ri_bounds) (sq_of (e16 _ _ h3))) ev_c) (int_eq (by rw [nV_len, bounds_len]; omega))) ea_nil) (by omega)
    (fun j σ H' => (∃ v8, σ = [some (.ref b), some (.int x), some (.int y), some (.int u), some (.int v), some (.int (r : Int)), some (.int ((min s.look.width s.look.height : Nat) : Int)), some (.int (farM u v (r : Int) * s.chart.parts.sum)), v8]) ∧ Ex H H' ∧ ∀ m, m < j → hit s.chart.parts (farM u v (r : Int)) (r : Int) m = false) (fun H7 e7 => ⟨⟨_, rfl⟩, e16.trans e7, fun m hm => absurd hm (Nat.not_lt_zero _)⟩) ?_ ?_
  · rintro j σ' H' hj ⟨⟨v8, rfl⟩, x1, x2⟩
    have b8 : (8 : Int).natAbs < 2 ^ 4 := by decide
    have hs := sq_of (K := K) (x1 _ _ h3)
    refine s_when (b := hit s.chart.parts (farM u v (r : Int)) (r : Int) j) (et_is (et_test (ev_leL (ev_mul (ev_mul (ev_ixL (ev_fld (ev_var rfl) (x1 _ _ h1) T.c_ri T.a_ri_bounds l_ri_bounds) (ev_var rfl) hs (atI_nat (nV_get (bounds_get (show j ≤ s.chart.parts.length by omega))))) ev_c (wide_mul (bs j) b8 (by decide) (by decide) (by decide))) (ev_var rfl) (wide_mul (wide_lt (bs j) b8) br (by decide) (by decide) (by decide))) (ev_var rfl)
      (ev_mul (ev_mul (ev_ixL (ev_fld (ev_var rfl) (x1 _ _ h1) T.c_ri T.a_ri_bounds l_ri_bounds) (ev_add (ev_var rfl) ev_c) hs (atI_nat (j := j + 1) (nV_get (bounds_get (show j + 1 ≤ s.chart.parts.length by omega))))) ev_c (wide_mul (bs (j + 1)) b8 (by decide) (by decide) (by decide))) (ev_var rfl) (wide_mul (wide_lt (bs (j + 1)) b8) br (by decide) (by decide) (by decide))))) ?_) (fun hh H7 e7 => ?_) fun hh H7 e7 => ⟨⟨_, rfl⟩, x1.trans e7, fun m hm => ?_⟩
    · unfold hit
      rw [Int.mul_assoc, Int.mul_assoc]
    · have z : pairL (((List.range s.chart.n).find? (hit s.chart.parts (farM u v (r : Int)) (r : Int))).map fun j => (0, j)) = some [0, (j : Int)] := by
        rw [find_at (by omega) x2 hh] <;> rfl
      exact ret_l (el_lst (ea_cons ev_c (ea_cons (ev_var rfl) ea_nil)) (show 2 ≤ 100000 by decide)) (RetL.up (k.lst z) (x1.trans e7))
    · by_cases q : m = j
      · rw [q]; exact hh
      · exact x2 m (by omega)
  · rintro σ' H' ⟨_, x1, x2⟩
    have z : pairL (((List.range s.chart.n).find? (hit s.chart.parts (farM u v (r : Int)) (r : Int))).map fun j => (0, j)) = none := by
      rw [find_no fun m hm => x2 m (by omega)] <;> rfl
    exact ret_v ev_c (RetV.up (k.non z) x1)
end
end DC
namespace DC
open PySem PySem.Spec PyProof.Rows L2 Evl
/-! Reader.__init__: level 1 -/
abbrev s_Reader_init : Stmt := inClass (top 26) 0
theorem sc_Reader_init : FnScope ["self", "told"] ["self", "told"] (defScope s_Reader_init) := ⟨rfl, rfl, rfl, by decide +kernel, rfl, by decide +kernel, by decide +kernel⟩
def t_Reader_init (K : PySem.W.Frag) (c : Cs) : TS :=
    (tSeq (sFld K (tVar 0) (tVar 1) "told")
    (sFld K (tVar 0) (tC (.int 0)) "at"))
theorem der_Reader_init {P : Program} {w : World} {K : PySem.W.Frag} {mg : Str → Option Value} {base : Heap} {c : Cs} (T : Txt K mg c)
    {f : Addr} {cdv : Value} {A : Around} {outer : List Env} {s : Shared} {H : Hp} {E : XK}  (hr : Room 0 (A.deeper (envOfC "Reader.__init__" (defScope s_Reader_init) s.heap.objs.size f cdv))) :
    PSs (cxOf CX0 P w K mg base ["self", "told"] "Reader.__init__" (defScope s_Reader_init) f cdv A outer s H E).nox (defBody s_Reader_init) (t_Reader_init K c) :=
    (pss_cons (ps_fld (pv 0) (pv 1) rfl)
      (pss_one (ps_fld (pv 0) pe_int rfl)))
end DC
namespace DC
open PySem PySem.Spec PyProof.Rows L2 Evl
/-! Reader.at_end: level 1 -/
abbrev s_Reader_at_end : Stmt := inClass (top 26) 1
theorem sc_Reader_at_end : FnScope ["self"] ["self"] (defScope s_Reader_at_end) := ⟨rfl, rfl, rfl, by decide +kernel, rfl, by decide +kernel, by decide +kernel⟩
def t_Reader_at_end (K : PySem.W.Frag) (c : Cs) : TS :=
    (tRet (tOp rGe (tFld K (tVar 0) "at") (tCB (rLenS K) (tCons (tFld K (tVar 0) "told") tNil))))
theorem der_Reader_at_end {P : Program} {w : World} {K : PySem.W.Frag} {mg : Str → Option Value} {base : Heap} {c : Cs} (T : Txt K mg c)
    {f : Addr} {cdv : Value} {A : Around} {outer : List Env} {s : Shared} {H : Hp} {E : XK}  (hr : Room 0 (A.deeper (envOfC "Reader.at_end" (defScope s_Reader_at_end) s.heap.objs.size f cdv))) :
    PSs (cxOf CX0 P w K mg base ["self"] "Reader.at_end" (defScope s_Reader_at_end) f cdv A outer s H E).nox (defBody s_Reader_at_end) (t_Reader_at_end K c) :=
    (pss_one (ps_ret (pe_cmpR op_ge (pe_fld (pv 0) rfl) (pe_callB call_len_seq (by rfl) T.n_len b_len (pa_cons (pe_fld (pv 0) rfl) pa_nil)) (nomark _))))
end DC
namespace DC
open PySem PySem.Spec PyProof.Rows L2 Evl
/-! Reader.take: level 1 -/
abbrev s_Reader_take : Stmt := inClass (top 26) 2
theorem sc_Reader_take : FnScope ["self", "number"] ["self"] (defScope s_Reader_take) := ⟨rfl, rfl, rfl, by decide +kernel, rfl, by decide +kernel, by decide +kernel⟩
def t_Reader_take (K : PySem.W.Frag) (c : Cs) : TS :=
    (tSeq (tAsg (tOp (rIxL K) (tFld K (tVar 0) "told") (tFld K (tVar 0) "at")) (gName 1))
    (tSeq (sFld K (tVar 0) (tOp rAdd (tFld K (tVar 0) "at") (tC (.int 1))) "at")
    (tRet (tVar 1))))
theorem der_Reader_take {P : Program} {w : World} {K : PySem.W.Frag} {mg : Str → Option Value} {base : Heap} {c : Cs} (T : Txt K mg c)
    {f : Addr} {cdv : Value} {A : Around} {outer : List Env} {s : Shared} {H : Hp} {E : XK}  (hr : Room 0 (A.deeper (envOfC "Reader.take" (defScope s_Reader_take) s.heap.objs.size f cdv))) :
    PSs (cxOf CX0 P w K mg base ["self", "number"] "Reader.take" (defScope s_Reader_take) f cdv A outer s H E).nox (defBody s_Reader_take) (t_Reader_take K c) :=
    (pss_cons (ps_set (i := 1) sc_Reader_take.nd rfl (Or.inl rfl) (pe_ix ix_list (pe_fld (pv 0) rfl) (pe_fld (pv 0) rfl) (fun _ _ => rfl)))
      (pss_cons (ps_fld (pv 0) (pe_op op_add (pe_fld (pv 0) rfl) pe_int) rfl)
      (pss_one (ps_ret (pv 1)))))
end DC
namespace DC
open PySem PySem.Spec PyProof.Rows L2 Evl
/-! Reader.take_list: level 2 -/
abbrev s_Reader_take_list : Stmt := inClass (top 26) 3
theorem sc_Reader_take_list : FnScope ["self", "length", "begin"] ["self"] (defScope s_Reader_take_list) := ⟨rfl, rfl, rfl, by decide +kernel, rfl, by decide +kernel, by decide +kernel⟩
def t_Reader_take_list (K : PySem.W.Frag) (c : Cs) (p_Reader_take : Sp) : TS :=
    (tSeq (tAsg (tMeth c.re "take" p_Reader_take [] E0 (tVar 0) tNil) (gName 1))
    (tSeq (tAsg (tFld K (tVar 0) "at") (gName 2))
    (tSeq (sFld K (tVar 0) (tOp rAdd (tVar 2) (tVar 1)) "at")
    (tRet (tSl (rSlL K) (tFld K (tVar 0) "told") (tPart (tVar 2)) (tPart (tFld K (tVar 0) "at")))))))
theorem der_Reader_take_list {P : Program} {w : World} {K : PySem.W.Frag} {mg : Str → Option Value} {base : Heap} {c : Cs} {p_Reader_take : Sp} (T : Txt K mg c)
    (c_Reader_take : C8.Met P w K mg base 1 c.re "take" p_Reader_take [])
    {f : Addr} {cdv : Value} {A : Around} {outer : List Env} {s : Shared} {H : Hp} {E : XK}  (hr : Room 1 (A.deeper (envOfC "Reader.take_list" (defScope s_Reader_take_list) s.heap.objs.size f cdv))) :
    PSs (cxOf CX0 P w K mg base ["self", "length", "begin"] "Reader.take_list" (defScope s_Reader_take_list) f cdv A outer s H E).nox (defBody s_Reader_take_list) (t_Reader_take_list K c p_Reader_take) :=
    (pss_cons (ps_set (i := 1) sc_Reader_take_list.nd rfl (Or.inl rfl) (C8.pe_mt0 c_Reader_take hr (by decide) (pv 0)))
      (pss_cons (ps_set (i := 2) sc_Reader_take_list.nd rfl (Or.inl rfl) (pe_fld (pv 0) rfl))
      (pss_cons (ps_fld (pv 0) (pe_op op_add (pv 2) (pv 1)) rfl)
      (pss_one (ps_ret (pe_slice sl_list (pe_fld (pv 0) rfl) (po_some (pv 2)) (po_some (pe_fld (pv 0) rfl))))))))
end DC
namespace DC
open PySem PySem.Spec PyProof.Rows L2 Evl
/-! Reader.take_lists: level 3 -/
abbrev s_Reader_take_lists : Stmt := inClass (top 26) 4
theorem sc_Reader_take_lists : FnScope ["self", "lists", "turn"] ["self"] (defScope s_Reader_take_lists) := ⟨rfl, rfl, rfl, by decide +kernel, rfl, by decide +kernel, by decide +kernel⟩
def t_Reader_take_lists (K : PySem.W.Frag) (c : Cs) (p_Reader_take p_Reader_take_list : Sp) : TS :=
    (tSeq (tAsg (tLst tNil) (gName 1))
    (tSeq (tFor (iRng1 (tCons (tMeth c.re "take" p_Reader_take [] E0 (tVar 0) tNil) tNil)) (gName 2) (tDrop (tBM K "list" rAppend (tVar 1) (tCons (tMeth c.re "take_list" p_Reader_take_list [] E0 (tVar 0) tNil) tNil))))
    (tRet (tVar 1))))
theorem der_Reader_take_lists {P : Program} {w : World} {K : PySem.W.Frag} {mg : Str → Option Value} {base : Heap} {c : Cs} {p_Reader_take p_Reader_take_list : Sp} (T : Txt K mg c)
    (c_Reader_take : C8.Met P w K mg base 1 c.re "take" p_Reader_take [])
    (c_Reader_take_list : C8.Met P w K mg base 2 c.re "take_list" p_Reader_take_list [])
    {f : Addr} {cdv : Value} {A : Around} {outer : List Env} {s : Shared} {H : Hp} {E : XK}  (hr : Room 2 (A.deeper (envOfC "Reader.take_lists" (defScope s_Reader_take_lists) s.heap.objs.size f cdv))) :
    PSs (cxOf CX0 P w K mg base ["self", "lists", "turn"] "Reader.take_lists" (defScope s_Reader_take_lists) f cdv A outer s H E).nox (defBody s_Reader_take_lists) (t_Reader_take_lists K c p_Reader_take p_Reader_take_list) :=
    (pss_cons (ps_set (i := 1) sc_Reader_take_lists.nd rfl (Or.inl rfl) (pe_lst pa_nil))
      (pss_cons (ps_for PassesOwn.never rfl (pi_range1 (by rfl) T.n_range (pa_cons (C8.pe_mt0 c_Reader_take hr (by decide) (pv 0)) pa_nil)) (pg_name (i := 2) sc_Reader_take_lists.nd rfl (Or.inl rfl)) (pss_one (ps_expr (pe_bm PySem.F.plainAttrs_list PySem.F.slot_list_append PySem.F.type_list_append mt_append (pv 1) (pa_cons (C8.pe_mt0 c_Reader_take_list hr (by decide) (pv 0)) pa_nil)))))
      (pss_one (ps_ret (pv 1)))))
end DC
namespace DC
open PySem PySem.Spec PyProof.Rows L2 Evl
/-! row_numbers: level 3 -/
abbrev s_row_numbers : Stmt := top 27
theorem sc_row_numbers : FnScope ["told", "reader", "numbers", "there"] ["told"] (defScope s_row_numbers) := ⟨rfl, rfl, rfl, by decide +kernel, rfl, by decide +kernel, by decide +kernel⟩
def t_row_numbers (K : PySem.W.Frag) (c : Cs) (p_Reader p_Reader_at_end p_Reader_take : Sp) : TS :=
    (tSeq (tAsg (tMake c.re p_Reader [] E0 (tCons (tVar 0) tNil)) (gName 1))
    (tSeq (tAsg (tLst tNil) (gName 2))
    (tSeq (tWhile (tNot (tB (tMeth c.re "at_end" p_Reader_at_end [] E0 (tVar 1) tNil))) (tSeq (tAsg (tMeth c.re "take" p_Reader_take [] E0 (tVar 1) tNil) (gName 3))
    (tDrop (tBM K "list" rAppend (tVar 2) (tCons (tIf (tTest (tOp rEq (tVar 3) (tC (.int 1)))) (tMeth c.re "take" p_Reader_take [] E0 (tVar 1) tNil) (tC .non)) tNil)))))
    (tRet (tVar 2)))))
theorem der_row_numbers {P : Program} {w : World} {K : PySem.W.Frag} {mg : Str → Option Value} {base : Heap} {c : Cs} {p_Reader p_Reader_at_end p_Reader_take : Sp} (T : Txt K mg c)
    (c_Reader : C8.Mak P w K mg base 1 "Reader" c.re p_Reader [])
    (c_Reader_at_end : C8.Met P w K mg base 1 c.re "at_end" p_Reader_at_end [])
    (c_Reader_take : C8.Met P w K mg base 1 c.re "take" p_Reader_take [])
    {f : Addr} {cdv : Value} {A : Around} {outer : List Env} {s : Shared} {H : Hp} {E : XK}  (hr : Room 2 (A.deeper (envOfC "row_numbers" (defScope s_row_numbers) s.heap.objs.size f cdv))) :
    PSs (cxOf CX0 P w K mg base ["told", "reader", "numbers", "there"] "row_numbers" (defScope s_row_numbers) f cdv A outer s H E).nox (defBody s_row_numbers) (t_row_numbers K c p_Reader p_Reader_at_end p_Reader_take) :=
    (pss_cons (ps_set (i := 1) sc_row_numbers.nd rfl (Or.inl rfl) (C8.pe_mk c_Reader hr (by decide) (by rfl) (pa_cons (pv 0) pa_nil)))
      (pss_cons (ps_set (i := 2) sc_row_numbers.nd rfl (Or.inl rfl) (pe_lst pa_nil))
      (pss_cons (ps_while PassesOwn.never (pt_not (pt_val (C8.pe_mt0 c_Reader_at_end hr (by decide) (pv 1)))) (pss_cons (ps_set (i := 3) sc_row_numbers.nd rfl (Or.inl rfl) (C8.pe_mt0 c_Reader_take hr (by decide) (pv 1)))
      (pss_one (ps_expr (pe_bm PySem.F.plainAttrs_list PySem.F.slot_list_append PySem.F.type_list_append mt_append (pv 2) (pa_cons (pe_ifExp (pt_cmpR op_eq (pv 3) pe_int (nomark _)) (C8.pe_mt0 c_Reader_take hr (by decide) (pv 1)) pe_non) pa_nil))))))
      (pss_one (ps_ret (pv 2))))))
end DC
namespace DC
open PySem PySem.Spec PyProof.Rows L2 Evl
section
variable {K : PySem.W.Frag} {mg : Str → Option Value} {c : Cs} {vs : List V} {H : Hp} {Q : VK} {E : XK}
theorem pure_Reader_init (T : Txt K mg c) (h : sp_Reader c vs H Q E) : t_Reader_init K c { nx := fun _ H' => Q .non H', rt := Q } (start ["self", "told"] vs) H := by
  obtain ⟨p, dx, x0, rfl, hp, k⟩ := h
  refine q_fldV (ev_var rfl) (ev_var rfl) hp T.c_re T.a_re_told (show 0 < 1000 by decide) fun H1 e1 _ => ?_
  rw [i_re_told]
  refine s_fldV ev_c (ev_var rfl) upd_same T.c_re T.a_re_at (show 1 < 1000 by decide) fun H2 e2 _ => ?_
  rw [i_re_at]
  exact k _ upd_same (((But.ex e1).trans But.upd).trans ((But.ex e2).trans But.upd))
theorem use_Reader {x0 : V} : ∀ (H1 : Hp) (p dx : Addr), Ex H H1 → H p = none → H1 p = some (.ins c.re dx []) → ∀ Q : VK, Init c.re p dx (f_re x0 (.int 0)) H1 Q → ∀ E : XK, sp_Reader c (.ref p :: [x0]) H1 Q E := fun _ p dx _ _ h _ k _ => ⟨p, dx, x0, rfl, h, k⟩
theorem pure_Reader_at_end (T : Txt K mg c) (h : sp_at_end K c vs H Q E) : t_Reader_at_end K c { nx := fun _ H' => Q .non H', rt := Q } (start ["self"] vs) H := by
  obtain ⟨b, p, l, i, rfl, ⟨dx, ho⟩, hs, k⟩ := h
  refine ret_v (ev_is (ev_ge (ev_fld (ev_var rfl) ho T.c_re T.a_re_at l_re_at) (ev_len (ev_fld (ev_var rfl) ho T.c_re T.a_re_told l_re_told) hs)) (congrArg V.bl (decide_eq_decide.mpr (by rw [nV_len]; omega)))) k
theorem ReAt.mono {a p : Addr} {i : Nat} {H' : Hp} (h : ReAt c H a p i) (e : Ex H H') : ReAt c H' a p i := by
  obtain ⟨dx, h⟩ := h
  exact ⟨dx, e _ _ h⟩
theorem use_at_end {b p : Addr} {l : List Int} {i : Nat} (h : ReAt c H b p i) (hs : SqL K H p (nV l)) : SpV (sp_at_end K c) [.ref b] H (.bl (decide (l.length ≤ i))) := fun _ e _ q _ => ⟨b, p, l, i, rfl, h.mono e, ex_l e hs, q⟩
/-- a list stands while an instance changes -/
theorem sql_but {b p C dx : Addr} {fs : List (Str × V)} {xs : List V} {H' : Hp} (hb : H b = some (.ins C dx fs)) (x : But b H H') (h : SqL K H p xs) : SqL K H' p xs := by
  rcases h with h | h
  · rcases h with h | ⟨o, h⟩
    · exact Or.inl (Or.inl (x _ _ h (ne_of h hb (by intro z; cases z))))
    · exact Or.inl (Or.inr ⟨o, x _ _ h (ne_of h hb (by intro z; cases z))⟩)
  · exact Or.inr h
theorem ReAt.sql {b p : Addr} {i : Nat} {xs : List V} {H' : Hp} (hb : ReAt c H b p i) (x : But b H H') (h : SqL K H p xs) : SqL K H' p xs := by
  obtain ⟨dx, hb⟩ := hb
  exact sql_but hb x h
theorem pure_Reader_take (T : Txt K mg c) (h : sp_take K c vs H Q E) : t_Reader_take K c { nx := fun _ H' => Q .non H', rt := Q } (start ["self", "number"] vs) H := by
  obtain ⟨b, p, l, i, z, rfl, ⟨dx, ho⟩, hs, hz, k⟩ := h
  refine q_asg (ev_ixL (ev_fld (ev_var rfl) ho T.c_re T.a_re_told l_re_told) (ev_fld (ev_var rfl) ho T.c_re T.a_re_at l_re_at) hs (atI_nat (nV_get hz))) fun H1 e1 => ?_
  refine q_fldV (ev_add (ev_fld (ev_var rfl) (e1 _ _ ho) T.c_re T.a_re_at l_re_at) ev_c) (ev_var rfl) (e1 _ _ ho) T.c_re T.a_re_at (show 2 < 1000 by decide) fun H2 e2 _ => ?_
  rw [p_re_at]
  exact s_ret (ev_var rfl) fun H3 e3 => k H3 (((But.ex (e1.trans e2)).trans But.upd).trans (But.ex e3)) ⟨dx, e3 _ _ upd_same⟩
theorem q_take {D : Ends} {tz : TS} {σ : L2.St} {i j : Nat} {b p : Addr} {l : List Int} {n : Nat} {z : Int} (ha : σ[j]? = some (some (.ref b))) (h : ReAt c H b p n) (hs : SqL K H p (nV l)) (hz : l[n]? = some z) (k : ∀ H', But b H H' → ReAt c H' b p (n + 1) → tz D (σ.set i (some (.int z))) H') :
    tSeq (tAsg (tMeth c.re "take" (sp_take K c) [] E0 (tVar j) tNil) (gName i)) tz D σ H := by
  have h' := h
  obtain ⟨dx, ho⟩ := h
  exact ⟨_, ha, b, dx, _, rfl, ho, m_re_take, b, p, l, n, z, rfl, h', hs, hz, k⟩
theorem pure_Reader_take_list (T : Txt K mg c) (h : sp_take_list K c vs H Q E) : t_Reader_take_list K c (sp_take K c) { nx := fun _ H' => Q .non H', rt := Q } (start ["self", "length", "begin"] vs) H := by
  obtain ⟨b, p, l, i, n, rfl, hR, hs, hz, hn, k⟩ := h
  refine q_take (j := 0) rfl hR hs hz fun H1 x1 h1 => ?_
  have hs1 := hR.sql x1 hs
  obtain ⟨dx, ho⟩ := h1
  refine q_asg (ev_fld (ev_var rfl) ho T.c_re T.a_re_at l_re_at) fun H2 e2 => ?_
  refine q_fldV (v := .int ((i + 1 + n : Nat) : Int)) (ev_is (ev_add (ev_var rfl) (ev_var rfl)) (int_eq (by omega))) (ev_var rfl) (e2 _ _ ho) T.c_re T.a_re_at (show 2 < 1000 by decide) fun H3 e3 ho3 => ?_
  rw [p_re_at]
  have x3 : But b H (upd H3 b (.ins c.re dx (f_re (.ref p) (.int ((i + 1 + n : Nat) : Int))))) := (x1.trans (But.ex (e2.trans e3))).trans But.upd
  refine ret_l (el_is (el_sl (ev_fld (ev_var rfl) upd_same T.c_re T.a_re_told l_re_told) (eo_some (ev_var rfl)) (eo_some (ev_fld (ev_var rfl) upd_same T.c_re T.a_re_at l_re_at)) (hR.sql x3 hs)) (by rw [cutV_mid _ (i + 1) n (by rw [nV_len]; exact hn)])) fun q H4 hq e4 h4 => ?_
  have nq : q ≠ b := fun z => by rw [z, upd_same] at hq; cases hq
  refine k q H4 ?_ (x3.trans (But.ex e4)) ⟨dx, e4 _ _ upd_same⟩ ?_
  · cases e : H q with
    | none => rfl
    | some o =>
      rw [x3 q o e nq] at hq
      cases hq
  · rw [h4]
    unfold nV
    rw [List.map_take, List.map_drop]
theorem NumsL.snoc {ps : List Addr} {ls : List (List Int)} {q : Addr} {r : List Int} (h : NumsL H ps ls) (hq : H q = some (.lst (nV r))) : NumsL H (ps ++ [q]) (ls ++ [r]) := by
  refine ⟨by rw [List.length_append, List.length_append, h.1] <;> rfl, fun i a b h1 h2 => ?_⟩
  by_cases c : i < ps.length
  · rw [List.getElem?_append_left c] at h1
    rw [List.getElem?_append_left (by rw [← h.1]; exact c)] at h2
    exact h.2 i a b h1 h2
  · rw [List.getElem?_append_right (by omega)] at h1
    rw [List.getElem?_append_right (by rw [← h.1]; omega), ← h.1] at h2
    cases e : i - ps.length with
    | zero =>
      rw [e] at h1 h2
      cases h1
      cases h2
      exact hq
    | succ m => rw [e] at h1; cases h1
theorem rows_succ {k : Nat} {r : List Int} {ls : List (List Int)} {rest : List Int} (h : PyFlat.rows (k + 1) r = some (ls, rest)) : ∃ (n : Nat) (t : List Int) (ls' : List (List Int)), r = (n : Int) :: t ∧ n ≤ t.length ∧ ls = t.take n :: ls' ∧ PyFlat.rows k (t.drop n) = some (ls', rest) := by
  cases r with
  | nil => cases h
  | cons z t =>
    by_cases q : 0 ≤ z ∧ z.toNat ≤ t.length
    · have e : PyFlat.row (z :: t) = some (t.take z.toNat, t.drop z.toNat) := if_pos q
      unfold PyFlat.rows at h
      rw [e] at h
      dsimp only at h
      cases e2 : PyFlat.rows k (t.drop z.toNat) with
      | none => rw [e2] at h; cases h
      | some y =>
        obtain ⟨xs, u⟩ := y
        rw [e2] at h
        have h := Option.some.inj h
        obtain ⟨rfl, rfl⟩ := Prod.mk.inj h
        refine ⟨z.toNat, t, xs, ?_, q.2, rfl, e2⟩
        rw [Int.toNat_of_nonneg q.1]
    · have e : PyFlat.row (z :: t) = none := if_neg q
      unfold PyFlat.rows at h
      rw [e] at h
      cases h
theorem drop_cons {α : Type} {l : List α} {i : Nat} {x : α} {t : List α} (h : l.drop i = x :: t) : l[i]? = some x ∧ l.drop (i + 1) = t ∧ i + 1 + t.length = l.length := by
  have h1 : l[i]? = some x := by
    have := congrArg (fun z => z[0]?) h
    simp only [List.getElem?_drop, Nat.add_zero, List.getElem?_cons_zero] at this
    exact this
  refine ⟨h1, ?_, ?_⟩
  · have := congrArg List.tail h
    rw [List.tail_drop] at this
    exact this
  · have := congrArg List.length h
    rw [List.length_drop, List.length_cons] at this
    omega
def ListsW (c : Cs) (K : PySem.W.Frag) (H : Hp) (b p w : Addr) (l : List Int) (k : Nat) (ls : List (List Int)) (rest : List Int) (t : Nat) (σ : L2.St) (H' : Hp) : Prop := ∃ (v : Option V) (j : Nat) (ps : List Addr), σ = [some (.ref b), some (.ref w), v] ∧ But b H H' ∧ ReAt c H' b p j ∧ H' w = some (.lst (ps.map V.ref)) ∧ NumsL H' ps (ls.take t) ∧ (∀ q ∈ ps, q ≠ w) ∧ PyFlat.rows (k - t) (l.drop j) = some (ls.drop t, rest) ∧ j ≤ l.length ∧ t ≤ j
theorem pure_Reader_take_lists (T : Txt K mg c) (h : sp_take_lists K c vs H Q E) : t_Reader_take_lists K c (sp_take K c) (sp_take_list K c) { nx := fun _ H' => Q .non H', rt := Q } (start ["self", "lists", "turn"] vs) H := by
  obtain ⟨b, p, l, i, k, ls, rest, rfl, hR, hs, hz, hr, hl, kk⟩ := h
  refine q_asgL (el_lst ea_nil (by decide)) fun w H1 hw e1 h1 => ?_
  have hR1 := hR.mono e1
  have hR1' := hR1
  obtain ⟨dx, ho⟩ := hR
  obtain ⟨dx1, ho1⟩ := hR1
  have nw : w ≠ b := fun z => by rw [z, ho] at hw; cases hw
  have hi := (List.getElem?_eq_some_iff.mp hz).1
  have lk : k ≤ l.length := by
    have : ∀ (k : Nat) (r : List Int) (ls : List (List Int)), PyFlat.rows k r = some (ls, rest) → k ≤ r.length := fun k => by
      induction k with
      | zero => intro _ _ _; exact Nat.zero_le _
      | succ k ih =>
        intro r ls h
        obtain ⟨n, t, ls', rfl, h2, _, h4⟩ := rows_succ h
        have := ih _ _ h4
        rw [List.length_drop] at this
        rw [List.length_cons]
        omega
    have := this _ _ _ hr
    rw [List.length_drop] at this
    omega
  refine ⟨_, rfl, b, dx1, _, rfl, ho1, m_re_take, b, p, l, i, (k : Int), rfl, hR1', ex_l e1 hs, hz, fun H2 x2 hR2 => ⟨(k : Int), rfl, by omega, by omega, for_range (lo := 0) (n := (k : Int).toNat) (ListsW c K H b p w l k ls rest) ?_ ?_ ?_⟩⟩
  · refine ⟨_, i + 1, [], rfl, (But.ex e1).trans x2, hR2, x2 _ _ h1 nw, ⟨rfl, fun i q r h => (by cases h)⟩, fun q h => (by cases h), ?_, hi, Nat.zero_le _⟩
    exact hr
  · rintro t σ' H' ht ⟨v, j, ps, rfl, y1, y2, y3, y4, y5, y6, y7, y8⟩
    have ht : t < k := by omega
    have e0 : (0 : Int) + (t : Int) = (t : Int) := Int.zero_add _
    obtain ⟨n, tl, ls', d1, d2, d3, d4⟩ := rows_succ (k := k - (t + 1)) (by rw [show k - (t + 1) + 1 = k - t by omega]; exact y6)
    obtain ⟨g1, g2, g3⟩ := drop_cons d1
    have y2' := y2
    obtain ⟨dxj, hoj⟩ := y2
    have hsj : SqL K H' p (nV l) := sql_but ho y1 hs
    have hps : ps.length ≤ t := by
      rw [y4.1, List.length_take]
      omega
    refine ⟨_, rfl, Or.inl ⟨rfl, _, sq_of y3⟩, _, rfl, b, dxj, _, rfl, hoj, m_re_take_list, b, p, l, j, n, rfl, y2', hsj, g1, by omega, fun q H3 hq x3 h3 hq3 => ⟨w, ps.map V.ref, .ref q, rfl, rfl, x3 _ _ y3 nw, sz16l (by rw [List.length_map]; omega), ?_⟩⟩
    have nq : q ≠ w := fun z => by rw [z, y3] at hq; cases hq
    have nb : b ≠ w := fun z => nw z.symm
    obtain ⟨dx3, ho3⟩ := h3
    have g4 : ls[t]? = some (tl.take n) := by
      have := congrArg (fun z => z[0]?) d3
      simp only [List.getElem?_drop, Nat.add_zero, List.getElem?_cons_zero] at this
      exact this
    have g5 : ls.drop (t + 1) = ls' := (drop_cons d3).2.1
    refine ⟨_, j + 1 + n, ps ++ [q], rfl, (y1.trans x3).mut hw, ⟨dx3, by rw [upd_ne nb]; exact ho3⟩, by rw [upd_same, List.map_append] <;> rfl, ?_, ?_, ?_, by omega, by omega⟩
    · rw [take_more g4]
      refine NumsL.snoc ⟨y4.1, fun i a r h1 h2 => ?_⟩ ?_
      · have na : a ≠ w := y5 a (List.mem_of_getElem? h1)
        have ha := y4.2 i a r h1 h2
        rw [upd_ne na]
        exact x3 _ _ ha (ne_of ha hoj (by intro z; cases z))
      · rw [upd_ne nq, hq3, g2]
    · intro a ha
      rcases List.mem_append.mp ha with h | h
      · exact y5 a h
      · rw [List.mem_singleton.mp h]; exact nq
    · rw [g5, show l.drop (j + 1 + n) = tl.drop n by rw [← g2, List.drop_drop]]
      exact d4
  · rintro σ' H' ⟨v, j, ps, rfl, y1, y2, y3, y4, y5, y6, y7, y8⟩
    rw [show ((k : Int)).toNat = k by omega] at y4 y6
    rw [Nat.sub_self] at y6
    have y6 : some (([] : List (List Int)), l.drop j) = some (ls.drop k, rest) := y6
    obtain ⟨q1, q2⟩ := Prod.mk.inj (Option.some.inj y6)
    have lk2 : ls.length ≤ k := List.drop_eq_nil_iff.mp q1.symm
    rw [List.take_of_length_le lk2] at y4
    have ej : l.length - rest.length = j := by
      rw [← q2, List.length_drop]
      omega
    refine s_ret (ev_var rfl) fun H3 e3 => kk w ps H3 hw (y1.trans (But.ex e3)) ?_ (e3 _ _ y3) (y4.mono e3)
    rw [ej]
    exact y2.mono e3
def RowW (c : Cs) (K : PySem.W.Frag) (H : Hp) (p r w : Addr) (l : List Int) (s : Series) (m : Nat) (σ : L2.St) (H' : Hp) : Prop := ∃ (v : Option V) (i : Nat) (dn rs : Series), σ = [some (.ref p), some (.ref r), some (.ref w), v] ∧ Ex H H' ∧ ReAt c H' r p i ∧ H' w = some (.lst (dn.map oV)) ∧ Si28Neutral.values (l.drop i) = some rs ∧ s = dn ++ rs ∧ dn.length ≤ i ∧ i ≤ l.length ∧ m = l.length - i
theorem values_cons {z : Int} {t : List Int} {rs : Series} (h : Si28Neutral.values (z :: t) = some rs) : (z = 0 ∧ ∃ rs', rs = none :: rs' ∧ Si28Neutral.values t = some rs') ∨ (z = 1 ∧ ∃ y t' rs', t = y :: t' ∧ rs = some y :: rs' ∧ Si28Neutral.values t' = some rs') := by
  by_cases z0 : z = 0
  · subst z0
    left
    refine ⟨rfl, ?_⟩
    have h : (Si28Neutral.values t).map (fun r => none :: r) = some rs := h
    cases e : Si28Neutral.values t with
    | none => rw [e] at h; cases h
    | some r => rw [e] at h; exact ⟨r, (Option.some.inj h).symm, rfl⟩
  · by_cases z1 : z = 1
    · subst z1
      right
      refine ⟨rfl, ?_⟩
      cases t with
      | nil => cases h
      | cons y t' =>
        have h : (Si28Neutral.values t').map (fun r => some y :: r) = some rs := h
        cases e : Si28Neutral.values t' with
        | none => rw [e] at h; cases h
        | some r => rw [e] at h; exact ⟨y, t', r, rfl, (Option.some.inj h).symm, e⟩
    · exfalso
      unfold Si28Neutral.values at h
      split at h
      · rename_i e; cases e
      · rename_i e; injection e with e1 _; exact z0 e1
      · rename_i e; injection e with e1 _; exact z1 e1
      · cases h
theorem if_t {c : Bool} {A B : Prop} (hc : c = true) (h : A) : if c = true then A else B := by
  rw [if_pos hc]
  exact h
theorem if_f {c : Bool} {A B : Prop} (hc : c = false) (h : B) : if c = true then A else B := by
  rw [hc, if_neg Bool.false_ne_true]
  exact h
theorem pure_row_numbers (T : Txt K mg c) (h : sp_row_numbers vs H Q E) : t_row_numbers K c (sp_Reader c) (sp_at_end K c) (sp_take K c) { nx := fun _ H' => Q .non H', rt := Q } (start ["told", "reader", "numbers", "there"] vs) H := by
  obtain ⟨p, l, s, rfl, hp, hv, hl, k⟩ := h
  refine q_asgN (en_make (ea_cons (ev_var rfl) ea_nil) use_Reader) fun r H1 hr e1 ⟨dx, h1⟩ => ?_
  refine q_asgL (el_lst ea_nil (by decide)) fun w H2 hw e2 h2 => ?_
  have nrw : r ≠ w := fun z => by rw [← z, h1] at hw; cases hw
  have hw0 : H w = none := fresh_back e1 hw
  refine q_while (RowW c K H p r w l s) (l.length - 0) ⟨_, 0, [], s, rfl, e1.trans e2, ⟨dx, e2 _ _ h1⟩, h2, hv, rfl, Nat.le_refl _, Nat.zero_le _, rfl⟩ ?_
  rintro m σ' H' ⟨v, i, dn, rs, rfl, y1, y2, y3, y4, y5, y6, y7, rfl⟩
  have hs : SqL K H' p (nV l) := sq_of (y1 _ _ hp)
  have y2' := y2
  obtain ⟨dxi, hoi⟩ := y2
  refine ⟨_, et_not (et_B (ev_meth (ev_var rfl) hoi m_re_at_end ea_nil (use_at_end y2' hs))), fun hb H3 e3 => ?_, fun hb H3 e3 => ?_⟩
  · have hi : i < l.length := by
      rw [Bool.not_eq_true', decide_eq_false_iff_not] at hb
      omega
    refine ⟨fun σ2 H4 => ∃ m', m' < l.length - i ∧ RowW c K H p r w l s m' σ2 H4, fun σ2 H4 h => h, ?_⟩
    obtain ⟨z, t, ed⟩ : ∃ z t, l.drop i = z :: t := ⟨_, _, List.drop_eq_getElem_cons hi⟩
    obtain ⟨g1, g2, g3⟩ := drop_cons ed
    rw [ed] at y4
    refine q_take (j := 1) rfl (y2'.mono e3) (ex_l e3 hs) g1 fun H4 x4 h4 => ?_
    have x4' : Ex H H4 := ((But.ex (y1.trans e3)).trans x4).up hr
    have hw4 : H4 w = some (.lst (dn.map oV)) := x4 _ _ (e3 _ _ y3) (fun z => nrw z.symm)
    have hs4 : SqL K H4 p (nV l) := sq_of (x4' _ _ hp)
    have szd : (dn.map oV).length < sizeLine := sz16l (by rw [List.length_map]; omega)
    rcases values_cons y4 with ⟨rfl, rs', rfl, hv'⟩ | ⟨rfl, y, t', rs', rfl, rfl, hv'⟩
    · refine ⟨_, rfl, Or.inl ⟨rfl, _, sq_of hw4⟩, _, rfl, rfl, _, rfl, ?_⟩
      refine if_f (c := decide (V.int 0 = V.int 1)) (by decide) ?_
      refine ⟨w, _, .non, rfl, rfl, hw4, szd, l.length - (i + 1), by omega, _, i + 1, dn ++ [none], rs', rfl, Ex.mut x4' hw0, ?_, ?_, ?_, ?_, ?_, by omega, rfl⟩
      · obtain ⟨d4, h4⟩ := h4
        exact ⟨d4, by rw [upd_ne nrw]; exact h4⟩
      · rw [upd_same, List.map_append] <;> rfl
      · rw [g2]; exact hv'
      · rw [y5, List.append_assoc] <;> rfl
      · rw [List.length_append]; show dn.length + 1 ≤ i + 1; omega
    · have h4' := h4
      obtain ⟨d4, ho4⟩ := h4
      obtain ⟨g4, g5, g6⟩ := drop_cons g2
      refine ⟨_, rfl, Or.inl ⟨rfl, _, sq_of hw4⟩, _, rfl, rfl, _, rfl, ?_⟩
      refine if_t (c := decide (V.int 1 = V.int 1)) (by decide) ?_
      refine ⟨_, rfl, r, d4, _, rfl, ho4, m_re_take, r, p, l, i + 1, y, rfl, h4', hs4, g4, fun H5 x5 h5 => ?_⟩
      have x5' : Ex H H5 := ((But.ex x4').trans x5).up hr
      have hw5 : H5 w = some (.lst (dn.map oV)) := x5 _ _ hw4 (fun z => nrw z.symm)
      refine ⟨w, _, .int y, rfl, rfl, hw5, szd, l.length - (i + 1 + 1), by omega, _, i + 1 + 1, dn ++ [some y], rs', rfl, Ex.mut x5' hw0, ?_, ?_, ?_, ?_, ?_, by omega, rfl⟩
      · obtain ⟨d5, h5⟩ := h5
        exact ⟨d5, by rw [upd_ne nrw]; exact h5⟩
      · rw [upd_same, List.map_append] <;> rfl
      · rw [g5]; exact hv'
      · rw [y5, List.append_assoc] <;> rfl
      · rw [List.length_append]; show dn.length + 1 ≤ i + 1 + 1; omega
  · rw [Bool.not_eq_false', decide_eq_true_eq] at hb
    rw [List.drop_of_length_le hb] at y4
    have y4 : some ([] : Series) = some rs := y4
    have e0 := Option.some.inj y4
    rw [← e0, List.append_nil] at y5
    rw [← y5] at y3
    exact ret_ref (ev_var rfl) hw0 (y1.trans e3) (e3 _ _ y3) k
end
end DC
namespace DC
open PySem PySem.Spec PyProof.Rows L2 Evl
/-! begins: level 4 -/
abbrev s_begins : Stmt := top 36
theorem sc_begins : FnScope ["chart", "given", "lists"] ["chart", "given", "lists"] (defScope s_begins) := ⟨rfl, rfl, rfl, by decide +kernel, rfl, by decide +kernel, by decide +kernel⟩
def t_begins (K : PySem.W.Frag) (c : Cs) (p_Chart_begin_anew : Sp) : TS :=
    (tSeq (tDrop (tMeth c.ch "begin_anew" p_Chart_begin_anew [] E0 (tVar 0) tNil))
    (tRet (tLst (tCons (tC (.int 0)) tNil))))
theorem der_begins {P : Program} {w : World} {K : PySem.W.Frag} {mg : Str → Option Value} {base : Heap} {c : Cs} {p_Chart_begin_anew : Sp} (T : Txt K mg c)
    (c_Chart_begin_anew : C8.Met P w K mg base 3 c.ch "begin_anew" p_Chart_begin_anew [])
    {f : Addr} {cdv : Value} {A : Around} {outer : List Env} {s : Shared} {H : Hp} {E : XK}  (hr : Room 3 (A.deeper (envOfC "begins" (defScope s_begins) s.heap.objs.size f cdv))) :
    PSs (cxOf CX0 P w K mg base ["chart", "given", "lists"] "begins" (defScope s_begins) f cdv A outer s H E).nox (defBody s_begins) (t_begins K c p_Chart_begin_anew) :=
    (pss_cons (ps_expr (C8.pe_mt0 c_Chart_begin_anew hr (by decide) (pv 0)))
      (pss_one (ps_ret (pe_lst (pa_cons pe_int pa_nil)))))
end DC
namespace DC
open PySem PySem.Spec PyProof.Rows L2 Evl
/-! data: level 4 -/
abbrev s_data : Stmt := top 37
theorem sc_data : FnScope ["chart", "given", "lists", "rows", "told"] ["chart", "given", "lists"] (defScope s_data) := ⟨rfl, rfl, rfl, by decide +kernel, rfl, by decide +kernel, by decide +kernel⟩
def t_data (K : PySem.W.Frag) (c : Cs) (p_row_numbers p_are_rows : Sp) : TS :=
    (tSeq (tAsg (tLc (iList K (tVar 2)) (gName 4) tYes (tCall p_row_numbers [] E0 (tCons (tVar 4) tNil)) [4]) (gName 3))
    (tSeq (tIfS (tNot (tB (tCall p_are_rows [] E0 (tCons (tOp (rIxL K) (tVar 1) (tC (.int 0))) (tCons (tVar 3) tNil))))) (tRet (tLst (tCons (tUn rNeg (tC (.int 1))) tNil))) tNext)
    (tSeq (sFld K (tVar 0) (tVar 3) "rows")
    (tRet (tLst (tCons (tC (.int 0)) tNil))))))
theorem der_data {P : Program} {w : World} {K : PySem.W.Frag} {mg : Str → Option Value} {base : Heap} {c : Cs} {p_row_numbers p_are_rows : Sp} (T : Txt K mg c)
    (c_row_numbers : C8.Cal P w K mg base 3 "row_numbers" p_row_numbers [])
    (c_are_rows : C8.Cal P w K mg base 2 "are_rows" p_are_rows [])
    {f : Addr} {cdv : Value} {A : Around} {outer : List Env} {s : Shared} {H : Hp} {E : XK}  (hr : Room 3 (A.deeper (envOfC "data" (defScope s_data) s.heap.objs.size f cdv))) :
    PSs (cxOf CX0 P w K mg base ["chart", "given", "lists", "rows", "told"] "data" (defScope s_data) f cdv A outer s H E).nox (defBody s_data) (t_data K c p_row_numbers p_are_rows) :=
    (pss_cons (ps_setLc (i := 3) (own := [("told", 4)]) (g := gName 4) (tt := tYes) (by rfl) sc_data.nd rfl rfl (sw_true rfl rfl rfl (by decide +kernel)) (pi_list (pv 2)) (blkOk_by (own := [("told", 4)]) (N := ["chart", "given", "lists", "rows", "told"]) (sc := defScope s_data) (by decide +kernel)) (fun _ _ _ _ _ => pg_name (i := 4) sc_data.nd rfl (Or.inl rfl)) (fun _ _ _ _ _ => pts_nil) (fun _ _ _ _ _ => (C8.pe_c c_row_numbers hr (by decide) (by rfl) (pa_cons (pv 4) pa_nil))))
      (pss_cons (ps_if (pt_not (pt_val (C8.pe_c c_are_rows hr (by decide) (by rfl) (pa_cons (pe_ix ix_list (pv 1) pe_int (fun _ _ => rfl)) (pa_cons (pv 3) pa_nil))))) (pss_one (ps_ret (pe_lst (pa_cons (pe_un un_neg pe_int) pa_nil)))) pss_nil)
      (pss_cons (ps_fld (pv 0) (pv 3) rfl)
      (pss_one (ps_ret (pe_lst (pa_cons pe_int pa_nil)))))))
end DC
namespace DC
open PySem PySem.Spec PyProof.Rows L2 Evl
/-! look: level 3 -/
abbrev s_look : Stmt := top 38
theorem sc_look : FnScope ["chart", "given", "lists", "wanted"] ["chart", "given", "lists"] (defScope s_look) := ⟨rfl, rfl, rfl, by decide +kernel, rfl, by decide +kernel, by decide +kernel⟩
def t_look (K : PySem.W.Frag) (c : Cs) (p_Look p_Look_is_allowed : Sp) : TS :=
    (tSeq (tAsg (tMake c.lk p_Look [] E0 (tCons (tOp (rIxL K) (tVar 1) (tC (.int 0))) (tCons (tOp (rIxL K) (tVar 1) (tC (.int 1))) (tCons (tOp (rIxL K) (tVar 1) (tC (.int 2))) (tCons (tOp (rIxL K) (tVar 1) (tC (.int 3))) tNil))))) (gName 3))
    (tSeq (tIfS (tNot (tB (tMeth c.lk "is_allowed" p_Look_is_allowed [] E0 (tVar 3) tNil))) (tRet (tLst (tCons (tUn rNeg (tC (.int 1))) tNil))) tNext)
    (tSeq (sFld K (tVar 0) (tVar 3) "look")
    (tRet (tLst (tCons (tC (.int 0)) tNil))))))
theorem der_look {P : Program} {w : World} {K : PySem.W.Frag} {mg : Str → Option Value} {base : Heap} {c : Cs} {p_Look p_Look_is_allowed : Sp} (T : Txt K mg c)
    (c_Look : C8.Mak P w K mg base 1 "Look" c.lk p_Look [])
    (c_Look_is_allowed : C8.Met P w K mg base 1 c.lk "is_allowed" p_Look_is_allowed [])
    {f : Addr} {cdv : Value} {A : Around} {outer : List Env} {s : Shared} {H : Hp} {E : XK}  (hr : Room 2 (A.deeper (envOfC "look" (defScope s_look) s.heap.objs.size f cdv))) :
    PSs (cxOf CX0 P w K mg base ["chart", "given", "lists", "wanted"] "look" (defScope s_look) f cdv A outer s H E).nox (defBody s_look) (t_look K c p_Look p_Look_is_allowed) :=
    (pss_cons (ps_set (i := 3) sc_look.nd rfl (Or.inl rfl) (C8.pe_mk c_Look hr (by decide) (by rfl) (pa_cons (pe_ix ix_list (pv 1) pe_int (fun _ _ => rfl)) (pa_cons (pe_ix ix_list (pv 1) pe_int (fun _ _ => rfl)) (pa_cons (pe_ix ix_list (pv 1) pe_int (fun _ _ => rfl)) (pa_cons (pe_ix ix_list (pv 1) pe_int (fun _ _ => rfl)) pa_nil))))))
      (pss_cons (ps_if (pt_not (pt_val (C8.pe_mt0 c_Look_is_allowed hr (by decide) (pv 3)))) (pss_one (ps_ret (pe_lst (pa_cons (pe_un un_neg pe_int) pa_nil)))) pss_nil)
      (pss_cons (ps_fld (pv 0) (pv 3) rfl)
      (pss_one (ps_ret (pe_lst (pa_cons pe_int pa_nil)))))))
end DC
namespace DC
open PySem PySem.Spec PyProof.Rows L2 Evl
/-! axis: level 5 -/
abbrev s_axis : Stmt := top 39
theorem sc_axis : FnScope ["chart", "given", "lists", "which"] ["chart", "given", "lists"] (defScope s_axis) := ⟨rfl, rfl, rfl, by decide +kernel, rfl, by decide +kernel, by decide +kernel⟩
def t_axis (K : PySem.W.Frag) (c : Cs) (p_told_axis p_Chart_along_axis p_Chart_upright_axis : Sp) : TS :=
    (tSeq (tAsg (tOp (rIxL K) (tVar 1) (tC (.int 0))) (gName 3))
    (tSeq (tIfS (tTest (tOp (rIn K true) (tVar 3) (tTup (tCons (tC (.int 0)) (tCons (tC (.int 1)) tNil))))) (tRet (tLst (tCons (tUn rNeg (tC (.int 1))) tNil))) tNext)
    (tSeq (tIfS (tNot (tTru K (tFld K (tVar 0) "rows"))) (tRet (tLst (tCons (tUn rNeg (tC (.int 4))) tNil))) tNext)
    (tSeq (tIfS (tOr (tTest (tOp rEq (tFld K (tFld K (tVar 0) "look") "kind") (tC (.int 4)))) (tAnd (tTest (tOp rEq (tVar 3) (tC (.int 1)))) (tTest (tOp rNe (tFld K (tFld K (tVar 0) "look") "kind") (tC (.int 3)))))) (tRet (tLst (tCons (tUn rNeg (tC (.int 3))) tNil))) tNext)
    (tSeq (tIfS (tTest (tOp rEq (tVar 3) (tC (.int 1)))) (tRet (tCall p_told_axis [] E0 (tCons (tMeth c.ch "along_axis" p_Chart_along_axis [] E0 (tVar 0) tNil) (tCons (tFld K (tFld K (tVar 0) "look") "wide") tNil)))) tNext)
    (tRet (tCall p_told_axis [] E0 (tCons (tMeth c.ch "upright_axis" p_Chart_upright_axis [] E0 (tVar 0) tNil) (tCons (tFld K (tFld K (tVar 0) "look") "high") tNil)))))))))
theorem der_axis {P : Program} {w : World} {K : PySem.W.Frag} {mg : Str → Option Value} {base : Heap} {c : Cs} {p_told_axis p_Chart_along_axis p_Chart_upright_axis : Sp} (T : Txt K mg c)
    (c_told_axis : C8.Cal P w K mg base 3 "told_axis" p_told_axis [])
    (c_Chart_along_axis : C8.Met P w K mg base 4 c.ch "along_axis" p_Chart_along_axis [])
    (c_Chart_upright_axis : C8.Met P w K mg base 4 c.ch "upright_axis" p_Chart_upright_axis [])
    {f : Addr} {cdv : Value} {A : Around} {outer : List Env} {s : Shared} {H : Hp} {E : XK}  (hr : Room 4 (A.deeper (envOfC "axis" (defScope s_axis) s.heap.objs.size f cdv))) :
    PSs (cxOf CX0 P w K mg base ["chart", "given", "lists", "which"] "axis" (defScope s_axis) f cdv A outer s H E).nox (defBody s_axis) (t_axis K c p_told_axis p_Chart_along_axis p_Chart_upright_axis) :=
    (pss_cons (ps_set (i := 3) sc_axis.nd rfl (Or.inl rfl) (pe_ix ix_list (pv 1) pe_int (fun _ _ => rfl)))
      (pss_cons (ps_if (pt_cmpR op_notIn_seq (pv 3) (pe_tup (pa_cons (C8.pe_gc (v := .int 0) (by rfl) T.gUPRIGHT) (pa_cons (C8.pe_gc (v := .int 1) (by rfl) T.gALONG) pa_nil))) (by rfl)) (pss_one (ps_ret (pe_lst (pa_cons (pe_un un_neg pe_int) pa_nil)))) pss_nil)
      (pss_cons (ps_if (pt_not (pt_truth (pe_fld (pv 0) rfl) (by intro _; rfl))) (pss_one (ps_ret (pe_lst (pa_cons (pe_un un_neg pe_int) pa_nil)))) pss_nil)
      (pss_cons (ps_if (PW.pt (pw_or (pt_cmpR op_eq (pe_fld (pe_fld (pv 0) rfl) rfl) (C8.pe_gc (v := .int 4) (by rfl) T.gRING) (nomark _)) (pw_or1 (PW.pt (pw_and (pt_cmpR op_eq (pv 3) (C8.pe_gc (v := .int 1) (by rfl) T.gALONG) (nomark _)) (pw_and1 (pt_cmpR op_ne (pe_fld (pe_fld (pv 0) rfl) rfl) (C8.pe_gc (v := .int 3) (by rfl) T.gPOINTS) (nomark _)))))))) (pss_one (ps_ret (pe_lst (pa_cons (pe_un un_neg pe_int) pa_nil)))) pss_nil)
      (pss_cons (ps_if (pt_cmpR op_eq (pv 3) (C8.pe_gc (v := .int 1) (by rfl) T.gALONG) (nomark _)) (pss_one (ps_ret (C8.pe_c c_told_axis hr (by decide) (by rfl) (pa_cons (C8.pe_mt0 c_Chart_along_axis hr (by decide) (pv 0)) (pa_cons (pe_fld (pe_fld (pv 0) rfl) rfl) pa_nil))))) pss_nil)
      (pss_one (ps_ret (C8.pe_c c_told_axis hr (by decide) (by rfl) (pa_cons (C8.pe_mt0 c_Chart_upright_axis hr (by decide) (pv 0)) (pa_cons (pe_fld (pe_fld (pv 0) rfl) rfl) pa_nil))))))))))
end DC
namespace DC
open PySem PySem.Spec PyProof.Rows L2 Evl
/-! told_axis: level 3 -/
abbrev s_told_axis : Stmt := top 40
theorem sc_told_axis : FnScope ["shown", "dots"] ["shown", "dots"] (defScope s_told_axis) := ⟨rfl, rfl, rfl, by decide +kernel, rfl, by decide +kernel, by decide +kernel⟩
def t_told_axis (K : PySem.W.Frag) (c : Cs) (p_Axis_step_dots : Sp) : TS :=
    (tRet (tOp rCat (tLst (tCons (tFld K (tVar 0) "steps") (tCons (tFld K (tVar 0) "start") (tCons (tFld K (tVar 0) "step") tNil)))) (tMeth c.ax "step_dots" p_Axis_step_dots [] E0 (tVar 0) (tCons (tVar 1) tNil))))
theorem der_told_axis {P : Program} {w : World} {K : PySem.W.Frag} {mg : Str → Option Value} {base : Heap} {c : Cs} {p_Axis_step_dots : Sp} (T : Txt K mg c)
    (c_Axis_step_dots : C8.Met P w K mg base 2 c.ax "step_dots" p_Axis_step_dots [])
    {f : Addr} {cdv : Value} {A : Around} {outer : List Env} {s : Shared} {H : Hp} {E : XK}  (hr : Room 2 (A.deeper (envOfC "told_axis" (defScope s_told_axis) s.heap.objs.size f cdv))) :
    PSs (cxOf CX0 P w K mg base ["shown", "dots"] "told_axis" (defScope s_told_axis) f cdv A outer s H E).nox (defBody s_told_axis) (t_told_axis K c p_Axis_step_dots) :=
    (pss_one (ps_ret (pe_op op_cat (pe_lst (pa_cons (pe_fld (pv 0) rfl) (pa_cons (pe_fld (pv 0) rfl) (pa_cons (pe_fld (pv 0) rfl) pa_nil)))) (C8.pe_mt c_Axis_step_dots hr (by decide) (pv 0) (pa_cons (pv 1) pa_nil)))))
end DC
namespace DC
open PySem PySem.Spec PyProof.Rows L2 Evl
/-! place: level 9 -/
abbrev s_place : Stmt := top 41
theorem sc_place : FnScope ["chart", "given", "lists", "found"] ["chart", "given", "lists"] (defScope s_place) := ⟨rfl, rfl, rfl, by decide +kernel, rfl, by decide +kernel, by decide +kernel⟩
def t_place (K : PySem.W.Frag) (c : Cs) (p_drawn : Sp) (S : Addr → Option Sp) : TS :=
    (tSeq (tIfS (tNot (tTru K (tFld K (tVar 0) "rows"))) (tRet (tLst (tCons (tUn rNeg (tC (.int 4))) tNil))) tNext)
    (tSeq (tAsg (tMethA S "place_of" (tCall p_drawn [] E0 (tCons (tVar 0) tNil)) (tCons (tOp (rIxL K) (tVar 1) (tC (.int 0))) (tCons (tOp (rIxL K) (tVar 1) (tC (.int 1))) tNil))) (gName 3))
    (tSeq (tIfS (tTest (tOp rIsN (tVar 3) (tC .non))) (tRet (tLst (tCons (tUn rNeg (tC (.int 2))) tNil))) tNext)
    (tRet (tOp rCat (tLst (tCons (tC (.int 0)) tNil)) (tVar 3))))))
theorem der_place {P : Program} {w : World} {K : PySem.W.Frag} {mg : Str → Option Value} {base : Heap} {c : Cs} {p_drawn : Sp} (T : Txt K mg c)
    (c_drawn : C8.Cal P w K mg base 8 "drawn" p_drawn [])
    {f : Addr} {cdv : Value} {A : Around} {outer : List Env} {s : Shared} {H : Hp} {E : XK} 
    {S : Addr → Option Sp} (M : ∀ C sp, S C = some sp → C8.Met P w K mg base 5 C "place_of" sp []) (hr : Room 8 (A.deeper (envOfC "place" (defScope s_place) s.heap.objs.size f cdv))) :
    PSs (cxOf CX0 P w K mg base ["chart", "given", "lists", "found"] "place" (defScope s_place) f cdv A outer s H E).nox (defBody s_place) (t_place K c p_drawn S) :=
    (pss_cons (ps_if (pt_not (pt_truth (pe_fld (pv 0) rfl) (by intro _; rfl))) (pss_one (ps_ret (pe_lst (pa_cons (pe_un un_neg pe_int) pa_nil)))) pss_nil)
      (pss_cons (ps_set (i := 3) sc_place.nd rfl (Or.inl rfl) (pe_mtA M hr (by decide) (C8.pe_c c_drawn hr (by decide) (by rfl) (pa_cons (pv 0) pa_nil)) (pa_cons (pe_ix ix_list (pv 1) pe_int (fun _ _ => rfl)) (pa_cons (pe_ix ix_list (pv 1) pe_int (fun _ _ => rfl)) pa_nil))))
      (pss_cons (ps_if (pt_cmpR op_isN (pv 3) pe_non (nomark _)) (pss_one (ps_ret (pe_lst (pa_cons (pe_un un_neg pe_int) pa_nil)))) pss_nil)
      (pss_one (ps_ret (pe_op op_cat (pe_lst (pa_cons pe_int pa_nil)) (pv 3)))))))
end DC
namespace DC
open PySem PySem.Spec PyProof.Rows L2 Evl
/-! click: level 9 -/
abbrev s_click : Stmt := top 42
theorem sc_click : FnScope ["chart", "given", "lists", "found"] ["chart", "given", "lists"] (defScope s_click) := ⟨rfl, rfl, rfl, by decide +kernel, rfl, by decide +kernel, by decide +kernel⟩
def t_click (K : PySem.W.Frag) (c : Cs) (p_drawn : Sp) (S : Addr → Option Sp) : TS :=
    (tSeq (tIfS (tNot (tTru K (tFld K (tVar 0) "rows"))) (tRet (tLst (tCons (tUn rNeg (tC (.int 4))) tNil))) tNext)
    (tSeq (tAsg (tMethA S "one_at" (tCall p_drawn [] E0 (tCons (tVar 0) tNil)) (tCons (tOp (rIxL K) (tVar 1) (tC (.int 0))) (tCons (tOp (rIxL K) (tVar 1) (tC (.int 1))) tNil))) (gName 3))
    (tSeq (tIfS (tTest (tOp rIsN (tVar 3) (tC .non))) (tRet (tLst (tCons (tC (.int 0)) tNil))) tNext)
    (tRet (tOp rCat (tLst (tCons (tC (.int 1)) tNil)) (tVar 3))))))
theorem der_click {P : Program} {w : World} {K : PySem.W.Frag} {mg : Str → Option Value} {base : Heap} {c : Cs} {p_drawn : Sp} (T : Txt K mg c)
    (c_drawn : C8.Cal P w K mg base 8 "drawn" p_drawn [])
    {f : Addr} {cdv : Value} {A : Around} {outer : List Env} {s : Shared} {H : Hp} {E : XK} 
    {S : Addr → Option Sp} (M : ∀ C sp, S C = some sp → C8.Met P w K mg base 7 C "one_at" sp []) (hr : Room 8 (A.deeper (envOfC "click" (defScope s_click) s.heap.objs.size f cdv))) :
    PSs (cxOf CX0 P w K mg base ["chart", "given", "lists", "found"] "click" (defScope s_click) f cdv A outer s H E).nox (defBody s_click) (t_click K c p_drawn S) :=
    (pss_cons (ps_if (pt_not (pt_truth (pe_fld (pv 0) rfl) (by intro _; rfl))) (pss_one (ps_ret (pe_lst (pa_cons (pe_un un_neg pe_int) pa_nil)))) pss_nil)
      (pss_cons (ps_set (i := 3) sc_click.nd rfl (Or.inl rfl) (pe_mtA M hr (by decide) (C8.pe_c c_drawn hr (by decide) (by rfl) (pa_cons (pv 0) pa_nil)) (pa_cons (pe_ix ix_list (pv 1) pe_int (fun _ _ => rfl)) (pa_cons (pe_ix ix_list (pv 1) pe_int (fun _ _ => rfl)) pa_nil))))
      (pss_cons (ps_if (pt_cmpR op_isN (pv 3) pe_non (nomark _)) (pss_one (ps_ret (pe_lst (pa_cons pe_int pa_nil)))) pss_nil)
      (pss_one (ps_ret (pe_op op_cat (pe_lst (pa_cons pe_int pa_nil)) (pv 3)))))))
end DC
namespace DC
open PySem PySem.Spec PyProof.Rows L2 Evl
/-! drawn: level 8 -/
abbrev s_drawn : Stmt := top 43
theorem sc_drawn : FnScope ["chart"] ["chart"] (defScope s_drawn) := ⟨rfl, rfl, rfl, by decide +kernel, rfl, by decide +kernel, by decide +kernel⟩
def t_drawn (K : PySem.W.Frag) (c : Cs) (p_Points p_Ring p_ring_parts p_Bars : Sp) : TS :=
    (tSeq (tIfS (tTest (tOp (rIn K false) (tFld K (tFld K (tVar 0) "look") "kind") (tTup (tCons (tC (.int 2)) (tCons (tC (.int 3)) tNil))))) (tRet (tMake c.po p_Points [] E0 (tCons (tVar 0) tNil))) tNext)
    (tSeq (tIfS (tTest (tOp rEq (tFld K (tFld K (tVar 0) "look") "kind") (tC (.int 4)))) (tRet (tMake c.ri p_Ring [] E0 (tCons (tCall p_ring_parts [] E0 (tCons (tOp (rIxL K) (tFld K (tVar 0) "rows") (tC (.int 0))) tNil)) (tCons (tFld K (tVar 0) "look") tNil)))) tNext)
    (tRet (tMake c.ba p_Bars [] E0 (tCons (tVar 0) tNil)))))
theorem der_drawn {P : Program} {w : World} {K : PySem.W.Frag} {mg : Str → Option Value} {base : Heap} {c : Cs} {p_Points p_Ring p_ring_parts p_Bars : Sp} (T : Txt K mg c)
    (c_Points : C8.Mak P w K mg base 6 "Points" c.po p_Points [])
    (c_Ring : C8.Mak P w K mg base 1 "Ring" c.ri p_Ring [])
    (c_ring_parts : C8.Cal P w K mg base 1 "ring_parts" p_ring_parts [])
    (c_Bars : C8.Mak P w K mg base 5 "Bars" c.ba p_Bars [])
    {f : Addr} {cdv : Value} {A : Around} {outer : List Env} {s : Shared} {H : Hp} {E : XK}  (hr : Room 7 (A.deeper (envOfC "drawn" (defScope s_drawn) s.heap.objs.size f cdv))) :
    PSs (cxOf CX0 P w K mg base ["chart"] "drawn" (defScope s_drawn) f cdv A outer s H E).nox (defBody s_drawn) (t_drawn K c p_Points p_Ring p_ring_parts p_Bars) :=
    (pss_cons (ps_if (pt_cmpR op_in_seq (pe_fld (pe_fld (pv 0) rfl) rfl) (pe_tup (pa_cons (C8.pe_gc (v := .int 2) (by rfl) T.gLINES) (pa_cons (C8.pe_gc (v := .int 3) (by rfl) T.gPOINTS) pa_nil))) (by rfl)) (pss_one (ps_ret (C8.pe_mk c_Points hr (by decide) (by rfl) (pa_cons (pv 0) pa_nil)))) pss_nil)
      (pss_cons (ps_if (pt_cmpR op_eq (pe_fld (pe_fld (pv 0) rfl) rfl) (C8.pe_gc (v := .int 4) (by rfl) T.gRING) (nomark _)) (pss_one (ps_ret (C8.pe_mk c_Ring hr (by decide) (by rfl) (pa_cons (C8.pe_c c_ring_parts hr (by decide) (by rfl) (pa_cons (pe_ix ix_list (pe_fld (pv 0) rfl) pe_int (fun _ _ => rfl)) pa_nil)) (pa_cons (pe_fld (pv 0) rfl) pa_nil))))) pss_nil)
      (pss_one (ps_ret (C8.pe_mk c_Bars hr (by decide) (by rfl) (pa_cons (pv 0) pa_nil))))))
end DC
namespace DC
open PySem PySem.Spec PyProof.Rows L2 Evl
/-! shares: level 2 -/
abbrev s_shares : Stmt := top 44
theorem sc_shares : FnScope ["chart", "given", "lists", "whole", "parts"] ["chart", "given", "lists"] (defScope s_shares) := ⟨rfl, rfl, rfl, by decide +kernel, rfl, by decide +kernel, by decide +kernel⟩
def t_shares (K : PySem.W.Frag) (c : Cs) (p_ring_parts p_shares_of : Sp) : TS :=
    (tSeq (tAsg (tOp (rIxL K) (tVar 1) (tC (.int 0))) (gName 3))
    (tSeq (tIfS (tNot (tTest (tChain rLe rLe (tC (.int 1)) (tVar 3) (tC (.int 1000000))))) (tRet (tLst (tCons (tUn rNeg (tC (.int 1))) tNil))) tNext)
    (tSeq (tIfS (tNot (tTru K (tFld K (tVar 0) "rows"))) (tRet (tLst (tCons (tUn rNeg (tC (.int 4))) tNil))) tNext)
    (tSeq (tAsg (tCall p_ring_parts [] E0 (tCons (tOp (rIxL K) (tFld K (tVar 0) "rows") (tC (.int 0))) tNil)) (gName 4))
    (tSeq (tIfS (tTest (tOp rEq (tCB (rSum K) (tCons (tVar 4) tNil)) (tC (.int 0)))) (tRet (tLst (tCons (tUn rNeg (tC (.int 3))) tNil))) tNext)
    (tRet (tOp rCat (tLst (tCons (tC (.int 0)) tNil)) (tCall p_shares_of [] E0 (tCons (tVar 4) (tCons (tVar 3) tNil))))))))))
theorem der_shares {P : Program} {w : World} {K : PySem.W.Frag} {mg : Str → Option Value} {base : Heap} {c : Cs} {p_ring_parts p_shares_of : Sp} (T : Txt K mg c)
    (c_ring_parts : C8.Cal P w K mg base 1 "ring_parts" p_ring_parts [])
    (c_shares_of : C8.Cal P w K mg base 1 "shares_of" p_shares_of [])
    {f : Addr} {cdv : Value} {A : Around} {outer : List Env} {s : Shared} {H : Hp} {E : XK}  (hr : Room 1 (A.deeper (envOfC "shares" (defScope s_shares) s.heap.objs.size f cdv))) :
    PSs (cxOf CX0 P w K mg base ["chart", "given", "lists", "whole", "parts"] "shares" (defScope s_shares) f cdv A outer s H E).nox (defBody s_shares) (t_shares K c p_ring_parts p_shares_of) :=
    (pss_cons (ps_set (i := 3) sc_shares.nd rfl (Or.inl rfl) (pe_ix ix_list (pv 1) pe_int (fun _ _ => rfl)))
      (pss_cons (ps_if (pt_not (pt_chain op_le op_le pe_int (pv 3) pe_int)) (pss_one (ps_ret (pe_lst (pa_cons (pe_un un_neg pe_int) pa_nil)))) pss_nil)
      (pss_cons (ps_if (pt_not (pt_truth (pe_fld (pv 0) rfl) (by intro _; rfl))) (pss_one (ps_ret (pe_lst (pa_cons (pe_un un_neg pe_int) pa_nil)))) pss_nil)
      (pss_cons (ps_set (i := 4) sc_shares.nd rfl (Or.inl rfl) (C8.pe_c c_ring_parts hr (by decide) (by rfl) (pa_cons (pe_ix ix_list (pe_fld (pv 0) rfl) pe_int (fun _ _ => rfl)) pa_nil)))
      (pss_cons (ps_if (pt_cmpR op_eq (pe_callB (cr_sum rfl) (by rfl) T.n_sum b_sum (pa_cons (pv 4) pa_nil)) pe_int (nomark _)) (pss_one (ps_ret (pe_lst (pa_cons (pe_un un_neg pe_int) pa_nil)))) pss_nil)
      (pss_one (ps_ret (pe_op op_cat (pe_lst (pa_cons pe_int pa_nil)) (C8.pe_c c_shares_of hr (by decide) (by rfl) (pa_cons (pv 4) (pa_cons (pv 3) pa_nil)))))))))))
end DC
namespace DC
open PySem PySem.Spec PyProof.Rows L2 Evl
section
variable {K : PySem.W.Frag} {mg : Str → Option Value} {c : Cs} {vs : List V} {H : Hp} {Q : VK} {E : XK}
theorem but_fresh {a p : Addr} {H1 : Hp} {o : HO} (x : But a H H1) (ha : H1 a = some o) (hp : H1 p = none) : H p = none := by
  cases e : H p with
  | none => rfl
  | some u =>
    by_cases n : p = a
    · rw [n, ha] at hp; cases hp
    · rw [x p u e n] at hp; cases hp
theorem frt_of {p : Addr} (h : H p = none) : FrT H p := fun o e => by rw [h] at e; cases e
theorem ButT.of {a : Addr} {H' : Hp} (x : But a H H') : ButT a H H' := fun b o h n _ => x b o h n
/-- the table stands while an instance, a list changes -/
theorem tab_but {a P : Addr} {q : Str} {o : HO} {H' : Hp} (h : LamX.TabS H P q) (ha : H a = some o) (n1 : ∀ ps, o ≠ .tbl ps) (n2 : ∀ f, o ≠ .ext f) (x : But a H H') : LamX.TabS H' P q := by
  obtain ⟨ps, h1, h2, h3⟩ := h
  refine ⟨ps, x _ _ h1 (ne_of h1 ha fun e => n1 _ e.symm), h2, fun pos cv hc => ?_⟩
  obtain ⟨c0, e1, e2⟩ := h3 pos cv hc
  exact ⟨c0, e1, x _ _ e2 (ne_of e2 ha fun e => n2 _ e.symm)⟩
theorem ins_nt {C dx : Addr} {fs : List (Str × V)} : ∀ ps, HO.ins C dx fs ≠ .tbl ps := fun _ z => by cases z
theorem ins_ne {C dx : Addr} {fs : List (Str × V)} : ∀ f, HO.ins C dx fs ≠ .ext f := fun _ z => by cases z
theorem lst_nt {xs : List V} : ∀ ps, HO.lst xs ≠ .tbl ps := fun _ z => by cases z
theorem lst_nx {xs : List V} : ∀ f, HO.lst xs ≠ .ext f := fun _ z => by cases z
/-- the chart stays: the answer is a new list -/
theorem retC {a t : Addr} {s : St} {xs : List Int} (k : RetC c a t s xs H Q) (hc : ChAt c (hide t H) a s) (hT : TabC c H) : RetL (nV xs) H Q := fun p H2 hp e h => k p H2 (frt_of hp) (ButT.of (But.ex e)) h (hc.mono (hide_ex e)) (hT.ext e)
theorem RetL.is {xs ys : List V} (k : RetL xs H Q) (e : xs = ys) : RetL ys H Q := e ▸ k
theorem ChAt.known {a : Addr} {s : St} (h : ChAt c H a s) : ∃ o, H a = some o := by
  obtain ⟨dx, pr, pl, h1, _⟩ := h
  exact ⟨_, h1⟩
theorem pure_begins (h : sp_call c of_begins vs H Q E) : t_begins K c (sp_begin c) { nx := fun _ H' => Q .non H', rt := Q } (start ["chart", "given", "lists"] vs) H := by
  obtain ⟨a, g, ls, t, s, l, rs, q, rfl, hct, ⟨ot, hto⟩, nta, hTb, wf, hg, hls, n1, n2, rfl, k⟩ := h
  have hc := hct.mono hide_sub
  obtain ⟨dx, pr, pl, h1, _⟩ := hc
  refine ⟨_, rfl, a, dx, _, rfl, h1, m_ch_begin_anew, a, dx, _, rfl, h1, Or.inr ⟨_, _, rfl⟩, fun H1 x1 hc1 hh => ?_⟩
  obtain ⟨o, ho⟩ := hc1.known
  exact s_retL (σ := start ["chart", "given", "lists"] [V.ref a, V.ref g, V.ref ls]) (el_lst (ea_cons ev_c ea_nil) (by decide)) fun p H2 hp e2 h2 => k p H2 (frt_of (but_fresh x1 ho hp)) (ButT.of (x1.trans (But.ex e2))) h2 ((hh t _ hto nta).mono (hide_ex e2)) ((tab_but hTb h1 ins_nt ins_ne x1).ext e2)
theorem ch_ne_lk {C dx C' dx' : Addr} {x y x0 x1 x2 x3 : V} : HO.ins C dx (f_lk x0 x1 x2 x3) ≠ HO.ins C' dx' (f_ch x y) := fun z => by
  injection z with _ _ h
  have := congrArg List.length h
  cases this
theorem lst_ne {xs : List V} {C dx : Addr} {fs : List (Str × V)} : HO.lst xs ≠ HO.ins C dx fs := fun z => by cases z
/-- the look, the rows stand while the chart changes -/
theorem LkAt.ch {a l C dx : Addr} {x y : V} {k : Si28.Look} {H' : Hp} (h : LkAt c H l k) (ha : H a = some (.ins C dx (f_ch x y))) (b : But a H H') : LkAt c H' l k := by
  obtain ⟨dl, h⟩ := h
  exact ⟨dl, b _ _ h (ne_of h ha ch_ne_lk)⟩
theorem RowsAt.ch {a p C dx : Addr} {x y : V} {rs : List Series} {H' : Hp} (h : RowsAt H p rs) (ha : H a = some (.ins C dx (f_ch x y))) (b : But a H H') : RowsAt H' p rs := by
  obtain ⟨ps, h1, h2⟩ := h
  exact ⟨ps, b _ _ h1 (ne_of h1 ha lst_ne), h2.1, fun i q r e1 e2 => b _ _ (h2.2 i q r e1 e2) (ne_of (h2.2 i q r e1 e2) ha lst_ne)⟩
/-- a comprehension that makes rows -/
theorem en_lcNew {σ : L2.St} {tl te : TE} {j : Nat} {vs : List Nat} {p : Addr} {ps : List Addr} (rs : List Series) (h : Ev tl σ H (.ref p)) (hx : H p = some (.lst (ps.map V.ref))) (hn : ps.length = rs.length) (hz : rs.length ≤ 40000) (hw : ∀ x, wipe ((wipe σ vs).set j (some x)) vs = wipe σ vs)
    (he : ∀ (i : Nat) q r H1, ps[i]? = some q → rs[i]? = some r → Ex H H1 → EvL te ((wipe σ vs).set j (some (.ref q))) H1 (r.map oV)) :
    EvN (tLc (iList K tl) (gName j) tYes te vs) σ H fun d H' => H d = none ∧ ∀ t o, H t = some o → RowsAt (hide t H') d rs := fun H0 e Q q => h H0 e _ fun H1 e1 => ⟨p, rfl, ⟨_, sq_of (e1 _ _ (e _ _ hx))⟩, fun Dl hD => by
  refine lc_list (xs := ps.map V.ref) (fun i H' => Ex H1 H' ∧ ∃ qs : List Addr, H' Dl = some (.lst (qs.map V.ref)) ∧ RowsL H' qs (rs.take i) ∧ ∀ q ∈ qs, q ≠ Dl ∧ H q = none) ⟨Ex.new hD, [], upd_same, ⟨rfl, fun i q r h => (by cases h)⟩, fun q h => (by cases h)⟩ (fun i H' _ x => sq_of (x.1 _ _ (e1 _ _ (e _ _ hx)))) ?_ ?_
  · rintro i x H' hi ⟨x1, qs, x2, x3, x4⟩
    refine ⟨hw x, ?_⟩
    obtain ⟨q0, hq0, rfl⟩ : ∃ q0, ps[i]? = some q0 ∧ x = .ref q0 := by
      rw [List.getElem?_map] at hi
      cases z : ps[i]? with
      | none => rw [z] at hi; cases hi
      | some q0 => rw [z] at hi; exact ⟨q0, rfl, (Option.some.inj hi).symm⟩
    obtain ⟨r, hr⟩ : ∃ r, rs[i]? = some r := ⟨_, List.getElem?_eq_getElem (by rw [← hn]; exact (List.getElem?_eq_some_iff.mp hq0).1)⟩
    refine he i q0 r H1 hq0 hr (e.trans e1) H' x1 _ fun w H4 hw' e4 h4 => ⟨_, e4 _ _ x2, ?_, ?_⟩
    · have := x3.1
      rw [List.length_take] at this
      exact sz16l (by rw [List.length_map]; omega)
    · have nw : w ≠ Dl := fun z => by rw [z, x2] at hw'; cases hw'
      refine ⟨Ex.mut (x1.trans e4) hD, qs ++ [w], by rw [upd_same, List.map_append] <;> rfl, ?_, ?_⟩
      · rw [take_more hr]
        refine ⟨by rw [List.length_append, List.length_append, x3.1] <;> rfl, fun m a b h1 h2 => ?_⟩
        by_cases cc : m < qs.length
        · rw [List.getElem?_append_left cc] at h1
          rw [List.getElem?_append_left (by rw [← x3.1]; exact cc)] at h2
          rw [upd_ne (x4 a (List.mem_of_getElem? h1)).1]
          exact e4 _ _ (x3.2 m a b h1 h2)
        · rw [List.getElem?_append_right (by omega)] at h1
          rw [List.getElem?_append_right (by rw [← x3.1]; omega), ← x3.1] at h2
          cases z : m - qs.length with
          | zero =>
            rw [z] at h1 h2
            cases h1
            cases h2
            rw [upd_ne nw]
            exact h4
          | succ m => rw [z] at h1; cases h1
      · intro a ha
        rcases List.mem_append.mp ha with h | h
        · exact x4 a h
        · rw [List.mem_singleton.mp h]; exact ⟨nw, fresh_back ((e.trans e1).trans x1) hw'⟩
  · rintro H' ⟨x1, qs, x2, x3, x4⟩
    rw [List.length_map, hn, List.take_length] at x3
    refine q Dl H' (fresh_back e1 hD) (e1.trans x1) ⟨fresh_back (e.trans e1) hD, fun t o ht => ⟨qs, hide_of (ne_of_none ht (fresh_back (e.trans e1) hD)).symm x2, x3.1, fun i a r h1 h2 => hide_of (ne_of_none ht (x4 a (List.mem_of_getElem? h1)).2).symm (x3.2 i a r h1 h2)⟩⟩⟩
theorem mapM_len : ∀ {rs : List (List Int)} {ss : List Series}, rs.mapM Si28Neutral.values = some ss → ss.length = rs.length ∧ ∀ (i : Nat) r s, rs[i]? = some r → ss[i]? = some s → Si28Neutral.values r = some s := by
  intro rs
  induction rs with
  | nil => intro ss h; cases h; exact ⟨rfl, fun i r s h => (by cases h)⟩
  | cons r rs ih =>
    intro ss h
    rw [List.mapM_cons] at h
    cases e : Si28Neutral.values r with
    | none => rw [e] at h; cases h
    | some s0 =>
      rw [e] at h
      cases e2 : rs.mapM Si28Neutral.values with
      | none => rw [e2] at h; cases h
      | some ss0 =>
        rw [e2] at h
        have h : s0 :: ss0 = ss := Option.some.inj h
        subst h
        obtain ⟨i1, i2⟩ := ih e2
        refine ⟨by rw [List.length_cons, List.length_cons, i1], fun i a b h1 h2 => ?_⟩
        cases i with
        | zero => cases h1; cases h2; exact e
        | succ i => exact i2 i a b h1 h2
theorem values_len : ∀ (n : Nat) (l : List Int) (s : Series), l.length ≤ n → Si28Neutral.values l = some s → s.length ≤ l.length := by
  intro n
  induction n with
  | zero =>
    intro l s h hv
    cases l with
    | nil => cases hv; exact Nat.le_refl _
    | cons _ _ => cases h
  | succ n ih =>
    intro l s h hv
    cases l with
    | nil => cases hv; exact Nat.le_refl _
    | cons z t =>
      rw [List.length_cons] at h
      rcases values_cons hv with ⟨_, rs, rfl, h2⟩ | ⟨_, y, t', rs, rfl, rfl, h2⟩
      · have := ih t rs (by omega) h2
        rw [List.length_cons, List.length_cons]
        omega
      · rw [List.length_cons] at h
        have := ih t' rs (by omega) h2
        rw [List.length_cons, List.length_cons, List.length_cons]
        omega
theorem small_is (z : Int) : small36 z = Si28.small z := by
  unfold small36 Si28.small
  by_cases h : z < 0
  · rw [if_pos h, ← decide_not, ← Bool.decide_and, decide_eq_decide]
    omega
  · rw [if_neg h, ← decide_not, ← Bool.decide_and, decide_eq_decide]
    omega
theorem all_small : ∀ (r : Series), (r.filterMap id).all small36 = r.all fun v => match v with | some z => Si28.small z | none => true
  | [] => rfl
  | none :: r => all_small r
  | some z :: r => by
    show (small36 z && (r.filterMap id).all small36) = (Si28.small z && _)
    rw [all_small r, small_is]
/-- the document's look at rows -/
def badRows (n : Nat) (l : List Series) : Prop := n = 0 ∨ 512 < n ∨ l = [] ∨ 16 < l.length ∨ (l.any fun r => r.length != n || !(r.all fun v => match v with | some z => Si28.small z | none => true)) = true
theorem rowsOk_iff (n : Nat) (l : List Series) : rowsOk n l = true ↔ ¬ badRows n l := by
  have e : (l.any fun r => r.length != n || !(r.all fun v => match v with | some z => Si28.small z | none => true)) = !(l.all (rowOk n)) := by
    rw [List.not_all_eq_any_not]
    congr 1
    funext r
    unfold rowOk
    rw [all_small, Bool.not_and] <;> rfl
  unfold badRows rowsOk
  rw [e]
  cases h : l.all (rowOk n) with
  | true =>
    constructor
    · intro h1
      simp only [Bool.and_eq_true, decide_eq_true_eq, and_true] at h1
      rintro (z | z | z | z | z)
      · omega
      · omega
      · rw [z] at h1
        have := h1.2.1
        cases this
      · omega
      · cases z
    · intro nb
      have a1 : ¬ n = 0 := fun z => nb (Or.inl z)
      have a2 : ¬ 512 < n := fun z => nb (Or.inr (Or.inl z))
      have a3 : 0 < l.length := List.length_pos_iff.mpr fun z => nb (Or.inr (Or.inr (Or.inl z)))
      have a4 : ¬ 16 < l.length := fun z => nb (Or.inr (Or.inr (Or.inr (Or.inl z))))
      simp only [Bool.and_eq_true, decide_eq_true_eq, and_true]
      omega
  | false => simp
theorem rowsOk_ok {n : Nat} {l : List Series} (h : rowsOk n l = true) : RowsOk n l := by
  unfold rowsOk at h
  simp only [Bool.and_eq_true, decide_eq_true_eq, List.all_eq_true] at h
  obtain ⟨⟨⟨h1, h2⟩, h3, h4⟩, h5⟩ := h
  refine ⟨h1, h2, fun z => by rw [z] at h3; simp at h3, h4, fun r hr => ?_, fun r hr z hz => ?_⟩
  · have := h5 r hr
    unfold rowOk at this
    simp only [Bool.and_eq_true, decide_eq_true_eq] at this
    exact this.1
  · have := h5 r hr
    unfold rowOk at this
    rw [Bool.and_eq_true, List.all_eq_true] at this
    have q := this.2 z (List.mem_filterMap.mpr ⟨some z, hz, rfl⟩)
    rw [small_is] at q
    unfold Si28.small at q
    simp only [Bool.and_eq_true, decide_eq_true_eq] at q
    exact q
theorem step_data_bad {s : St} {n : Nat} {l : List Series} (h : badRows n l) : Si28.step s (.data n l) = (s, Si28.say (-1)) := if_pos h
theorem step_data_ok {s : St} {n : Nat} {l : List Series} (h : ¬ badRows n l) : Si28.step s (.data n l) = ({ s with series := l }, Si28.say 0) := if_neg h
/-- one number of those given -/
theorem ev_given {σ : L2.St} {g : Addr} {l : List Int} {i : Nat} {j : Nat} {z : Int} (hσ : σ[i]? = some (some (.ref g))) (h : GivenAt H g l) (hz : l[j]? = some z) : Ev (tOp (rIxL K) (tVar i) (tC (.int (j : Int)))) σ H (.int z) := ev_ixL (ev_var hσ) ev_c (sq_of h) (atI_nat (nV_get hz))
theorem GivenAt.mono {g : Addr} {l : List Int} {H' : Hp} (h : GivenAt H g l) (e : Ex H H') : GivenAt H' g l := e _ _ h
theorem pure_data (T : Txt K mg c) (h : sp_call c of_data vs H Q E) : t_data K c sp_row_numbers sp_are_rows { nx := fun _ H' => Q .non H', rt := Q } (start ["chart", "given", "lists", "rows", "told"] vs) H := by
  obtain ⟨a, g, ls, t, s, l, rs, q, rfl, hct, ⟨ot, hto⟩, nta, hTb, wf, hg, ⟨ps, hp, hN⟩, n1, n2, ⟨n, ss, rfl, hm, l1, l2, rfl⟩, k⟩ := h
  have hc := hct.mono hide_sub
  obtain ⟨m1, m2⟩ := mapM_len hm
  refine q_asgN (en_lcNew ss (ev_var rfl) hp (hN.1.trans m1.symm) (by omega) (fun x => rfl) fun i q r H1 h1 h2 e => ?_) fun d H1 hd e1 ⟨_, hRt⟩ => ?_
  · obtain ⟨r0, hr0⟩ : ∃ r0, rs[i]? = some r0 := ⟨_, List.getElem?_eq_getElem (by rw [← hN.1]; exact (List.getElem?_eq_some_iff.mp h1).1)⟩
    refine el_cal (ea_cons (ev_var rfl) ea_nil) fun H2 e2 _ q2 _ => ⟨q, r0, r, rfl, e2 _ _ (e _ _ (hN.2 i q r0 h1 hr0)), m2 i r0 r hr0 h2, l2 r0 (List.mem_of_getElem? hr0), q2⟩
  have hRh := hRt t _ hto
  have hR : RowsAt H1 d ss := hRh.mono hide_sub
  have sl : ss.length ≤ 10000 ∧ ∀ r ∈ ss, r.length ≤ 10000 := by
    refine ⟨by omega, fun r hr => ?_⟩
    obtain ⟨i, hi⟩ := List.getElem?_of_mem hr
    obtain ⟨r0, hr0⟩ : ∃ r0, rs[i]? = some r0 := ⟨_, List.getElem?_eq_getElem (by rw [← m1]; exact (List.getElem?_eq_some_iff.mp hi).1)⟩
    have := values_len _ _ _ (Nat.le_refl _) (m2 i r0 r hr0 hi)
    have := l2 r0 (List.mem_of_getElem? hr0)
    omega
  refine q_when (et_not (et_B (ev_cal (ea_cons (ev_given (j := 0) rfl (hg.mono e1) rfl) (ea_cons (ev_var rfl) ea_nil)) fun H2 e2 _ q2 _ => ⟨d, n, ss, rfl, hR.mono e2, sl, q2⟩))) (fun hb H2 e2 => ?_) fun hb H2 e2 => ?_
  · have bad : badRows n ss := by
      refine Classical.byContradiction fun z => ?_
      rw [(rowsOk_iff n ss).mpr z] at hb
      cases hb
    unfold ansL at k
    rw [step_data_bad bad] at k
    exact ret_l (el_lst (ea_cons (ev_neg ev_c) ea_nil) (by decide)) (RetL.up (retC k hct hTb) (e1.trans e2))
  · have ok : rowsOk n ss = true := by
      cases z : rowsOk n ss with
      | true => rfl
      | false => rw [z] at hb; cases hb
    have nb := (rowsOk_iff n ss).mp ok
    unfold ansL at k
    rw [step_data_ok nb] at k
    have e12 := e1.trans e2
    obtain ⟨dx, pr, pl, h1, _, _⟩ := hc
    obtain ⟨dx', pr', pl', h1', _, hL⟩ := hct
    have h1'' := (hide_at h1').2
    rw [h1] at h1''
    cases h1''
    have h2 := e12 _ _ h1
    refine q_fldV (ev_var rfl) (ev_var rfl) h2 T.c_ch T.a_ch_rows (show 2 < 1000 by decide) fun H3 e3 h3 => ?_
    rw [p_ch_rows]
    refine s_retL (el_lst (ea_cons ev_c ea_nil) (by decide)) fun p H4 hp4 e4 h4 => ?_
    have b3 : But a H3 (upd H3 a (.ins c.ch dx (f_ch (.ref d) (.ref pl)))) := But.upd
    refine k p H4 (frt_of (but_fresh ((But.ex (e12.trans e3)).trans b3) upd_same hp4)) (ButT.of (((But.ex (e12.trans e3)).trans b3).trans (But.ex e4))) h4 ⟨dx, d, pl, hide_of (fun z => nta z.symm) (e4 _ _ upd_same), ((hRh.mono (hide_ex (e2.trans e3))).ch (hide_of (fun z => nta z.symm) h3) (hide_but b3)).mono (hide_ex e4), ((hL.mono (hide_ex (e12.trans e3))).ch (hide_of (fun z => nta z.symm) h3) (hide_but b3)).mono (hide_ex e4)⟩ ((tab_but (hTb.ext (e12.trans e3)) h3 ins_nt ins_ne b3).ext e4)
theorem allowed_iff (l : Si28.Look) : allowed l = true ↔ ¬ (4 < l.kind ∨ l.width < 16 ∨ 4096 < l.width ∨ l.height < 16 ∨ 4096 < l.height ∨ l.most < 2 ∨ 64 < l.most) := by
  unfold allowed
  simp only [Bool.and_eq_true, decide_eq_true_eq]
  omega
theorem allowed_ok {l : Si28.Look} (h : allowed l = true) : LookOk l := by
  unfold allowed at h
  simp only [Bool.and_eq_true, decide_eq_true_eq] at h
  obtain ⟨a, ⟨b, d⟩, ⟨e, f⟩, g, i⟩ := h
  exact ⟨a, b, d, e, f, g, i⟩
theorem pure_look (T : Txt K mg c) (h : sp_call c of_look vs H Q E) : t_look K c (sp_Look c) (sp_allowed c) { nx := fun _ H' => Q .non H', rt := Q } (start ["chart", "given", "lists", "wanted"] vs) H := by
  obtain ⟨a, g, ls, t, s, l, rs, q, rfl, hct, ⟨ot, hto⟩, nta, hTb, wf, hg, hls, n1, n2, ⟨kd, w, hh, m, rfl, rfl⟩, k⟩ := h
  have hc := hct.mono hide_sub
  refine q_asgN (en_make (ea_cons (ev_given (j := 0) rfl hg rfl) (ea_cons (ev_given (j := 1) rfl hg rfl) (ea_cons (ev_given (j := 2) rfl hg rfl) (ea_cons (ev_given (j := 3) rfl hg rfl) ea_nil)))) use_Look) fun d H1 hd e1 ⟨dl, h1⟩ => ?_
  have hL : LkAt c H1 d ⟨kd, w, hh, m⟩ := ⟨dl, h1⟩
  refine q_when (et_not (et_B (ev_meth (ev_var rfl) h1 m_lk_is_allowed ea_nil (use_allowed hL)))) (fun hb H2 e2 => ?_) fun hb H2 e2 => ?_
  · have hb' : allowed ⟨kd, w, hh, m⟩ = false := by rw [Bool.not_eq_true'] at hb; exact hb
    have st : Si28.step s (.look ⟨kd, w, hh, m⟩) = (s, Si28.say (-1)) := if_pos (Classical.byContradiction fun z => by rw [(allowed_iff _).mpr z] at hb'; cases hb')
    unfold ansL at k
    rw [st] at k
    exact ret_l (el_lst (ea_cons (ev_neg ev_c) ea_nil) (by decide)) (RetL.up (retC k hct hTb) (e1.trans e2))
  · rw [Bool.not_eq_false'] at hb
    have st : Si28.step s (.look ⟨kd, w, hh, m⟩) = ({ s with look := ⟨kd, w, hh, m⟩ }, Si28.say 0) := if_neg ((allowed_iff ⟨kd, w, hh, m⟩).mp hb)
    unfold ansL at k
    rw [st] at k
    have e12 := e1.trans e2
    obtain ⟨dx, pr, pl, g1', hR, _⟩ := hct
    have g1 := (hide_at g1').2
    have ndt : d ≠ t := (ne_of_none hto hd).symm
    refine q_fldV (ev_var rfl) (ev_var rfl) (e12 _ _ g1) T.c_ch T.a_ch_look (show 2 < 1000 by decide) fun H3 e3 h3 => ?_
    rw [p_ch_look]
    refine s_retL (el_lst (ea_cons ev_c ea_nil) (by decide)) fun p H4 hp4 e4 h4 => ?_
    have b3 : But a H3 (upd H3 a (.ins c.ch dx (f_ch (.ref pr) (.ref d)))) := But.upd
    exact k p H4 (frt_of (but_fresh ((But.ex (e12.trans e3)).trans b3) upd_same hp4)) (ButT.of (((But.ex (e12.trans e3)).trans b3).trans (But.ex e4))) h4 ⟨dx, pr, d, hide_of (fun z => nta z.symm) (e4 _ _ upd_same), ((hR.mono (hide_ex (e12.trans e3))).ch (hide_of (fun z => nta z.symm) h3) (hide_but b3)).mono (hide_ex e4), (((hL.mono (e2.trans e3)).ch h3 b3).mono e4).hide ndt⟩ ((tab_but (hTb.ext (e12.trans e3)) h3 ins_nt ins_ne b3).ext e4)
def sp_told_axis (c : Cs) : Sp := fun vs H Q _ => ∃ (a : Addr) (A : Si28.Axis) (d : Nat), vs = [.ref a, .int (d : Int)] ∧ AxAt c H a A ∧ AxOk A ∧ d ≤ 4096 ∧ RetL (nV ((A.count : Int) :: A.start :: A.step :: dotsOf A d)) H Q
theorem pure_told_axis (T : Txt K mg c) (h : sp_told_axis c vs H Q E) : t_told_axis K c (sp_step_dots c) { nx := fun _ H' => Q .non H', rt := Q } (start ["shown", "dots"] vs) H := by
  obtain ⟨a, A, d, rfl, hA, ok, hd, k⟩ := h
  have hA' := hA
  obtain ⟨dx, ho⟩ := hA
  refine ret_l (el_is (el_cat (el_lst (ea_cons (ev_fld (ev_var rfl) ho T.c_ax T.a_ax_steps l_ax_steps) (ea_cons (ev_fld (ev_var rfl) ho T.c_ax T.a_ax_start l_ax_start) (ea_cons (ev_fld (ev_var rfl) ho T.c_ax T.a_ax_step l_ax_step) ea_nil))) (show 3 ≤ 100000 by decide)) (el_meth (ev_var rfl) ho m_ax_step_dots (ea_cons (ev_var rfl) ea_nil) fun H1 e _ q _ => ⟨a, A, d, rfl, hA'.mono e, ok, hd, q⟩) ?_) rfl) k
  have : (dotsOf A d).length = A.count + 1 := by unfold dotsOf; rw [List.length_map, List.length_range]
  have := ok.c2
  show 3 + (nV (dotsOf A d)).length ≤ _
  rw [nV_len]
  omega
theorem rows_tru {σ : L2.St} {a : Addr} {s : St} (T : Txt K mg c) (hσ : σ[0]? = some (some (.ref a))) (hc : ChAt c H a s) : EvT (tNot (tTru K (tFld K (tVar 0) "rows"))) σ H s.series.isEmpty := by
  obtain ⟨dx, pr, pl, h1, ⟨ps, h2, h3⟩, _⟩ := hc
  refine et_is (et_not (et_list (ev_fld (ev_var hσ) h1 T.c_ch T.a_ch_rows l_ch_rows) h2)) ?_
  rw [Bool.not_not]
  have := h3.1
  cases hp : ps with
  | nil =>
    cases hs : s.series with
    | nil => rfl
    | cons _ _ => rw [hp, hs] at this; cases this
  | cons _ _ =>
    cases hs : s.series with
    | nil => rw [hp, hs] at this; cases this
    | cons _ _ => rfl
theorem ch_look {σ : L2.St} {a : Addr} {s : St} (T : Txt K mg c) (hσ : σ[0]? = some (some (.ref a))) (hc : ChAt c H a s) : Ev (tFld K (tFld K (tVar 0) "look") "kind") σ H (.int (s.look.kind : Int)) ∧ Ev (tFld K (tFld K (tVar 0) "look") "wide") σ H (.int (s.look.width : Int)) ∧ Ev (tFld K (tFld K (tVar 0) "look") "high") σ H (.int (s.look.height : Int)) := by
  obtain ⟨dx, pr, pl, h1, _, dl, h2⟩ := hc
  exact ⟨ev_fld (ev_fld (ev_var hσ) h1 T.c_ch T.a_ch_look l_ch_look) h2 T.c_lk T.a_lk_kind l_lk_kind, ev_fld (ev_fld (ev_var hσ) h1 T.c_ch T.a_ch_look l_ch_look) h2 T.c_lk T.a_lk_wide l_lk_wide, ev_fld (ev_fld (ev_var hσ) h1 T.c_ch T.a_ch_look l_ch_look) h2 T.c_lk T.a_lk_high l_lk_high⟩
theorem in2 (k a b : Nat) : inV (.int (k : Int)) [.int (a : Int), .int (b : Int)] = (decide (k = a) || decide (k = b)) := by
  rw [Bool.eq_iff_iff]
  show ((a : Int) == (k : Int) || ((b : Int) == (k : Int) || false)) = true ↔ _
  simp only [Bool.or_eq_true, beq_iff_eq, decide_eq_true_eq, Bool.false_eq_true, or_false]
  omega
theorem dots_ans (A : Si28.Axis) (al : Nat) (lk : Si28.Look) : (List.range (A.count + 1)).map (fun (k : Nat) => A.dot (if al = 1 then lk.width else lk.height) (A.start + A.step * (k : Int))) = dotsOf A (if al = 1 then lk.width else lk.height) := rfl
theorem ne_nil_of {l : List Series} (h : l.isEmpty = false) : l ≠ [] := fun z => by rw [z] at h; cases h
theorem pure_axis (T : Txt K mg c) (h : sp_call c of_axis vs H Q E) : t_axis K c (sp_told_axis c) (sp_axis true c) (sp_axis false c) { nx := fun _ H' => Q .non H', rt := Q } (start ["chart", "given", "lists", "which"] vs) H := by
  obtain ⟨a, g, ls, t, s, l, rs, q, rfl, hct, ⟨ot, hto⟩, nta, hTb, wf, hg, hls, n1, n2, ⟨w, rfl, rfl⟩, k⟩ := h
  have hc := hct.mono hide_sub
  have k : RetC c a t s (ansL s (.axis w)) H Q := k
  unfold ansL at k
  refine q_asg (ev_given (j := 0) rfl hg rfl) fun H1 e1 => ?_
  refine q_when (et_test (ev_niU (ev_var rfl) (eu_tup (ea_cons ev_c (ea_cons ev_c ea_nil)) (by decide)) rfl rfl)) (fun hb H2 e => ?_) fun hb H2 e2 => ?_
  · have hb : (!inV (.int (w : Int)) [.int ((0 : Nat) : Int), .int ((1 : Nat) : Int)]) = true := hb
    rw [in2] at hb
    simp only [Bool.not_eq_true', Bool.or_eq_false_iff, decide_eq_false_iff_not] at hb
    have st : (Si28.step s (.axis w)).2 = Si28.say (-1) := if_pos (by omega)
    rw [st] at k
    exact ret_l (el_lst (ea_cons (ev_neg ev_c) ea_nil) (by decide)) (RetL.up (retC k hct hTb) (e1.trans e))
  have hb : (!inV (.int (w : Int)) [.int ((0 : Nat) : Int), .int ((1 : Nat) : Int)]) = false := hb
  rw [in2] at hb
  simp only [Bool.not_eq_false', Bool.or_eq_true, decide_eq_true_eq] at hb
  have w1 : ¬ 1 < w := by omega
  have e12 := e1.trans e2
  refine q_when (rows_tru T rfl (hc.mono e12)) (fun hb H3 e => ?_) fun hb2 H3 e3 => ?_
  · have st : (Si28.step s (.axis w)).2 = Si28.say (-4) := (if_neg w1).trans (if_pos (List.isEmpty_iff.mp hb))
    rw [st] at k
    exact ret_l (el_lst (ea_cons (ev_neg ev_c) ea_nil) (by decide)) (RetL.up (retC k hct hTb) (e12.trans e))
  have ne := ne_nil_of hb2
  have o := wf.ok ne
  have lk := wf.look
  have e13 := e12.trans e3
  refine q_when (et_or (et_test (ev_eqI (ch_look T rfl (hc.mono e13)).1 ev_c)) fun _ => et_and (et_test (ev_eqI (ev_var rfl) ev_c)) fun _ => et_test (ev_neI (ch_look T rfl (hc.mono e13)).1 ev_c)) (fun hb H4 e => ?_) fun hb3 H4 e4 => ?_
  · have st : (Si28.step s (.axis w)).2 = Si28.say (-3) := (if_neg w1).trans ((if_neg ne).trans (if_pos (by
      simp only [Bool.or_eq_true, Bool.and_eq_true, decide_eq_true_eq, Bool.not_eq_true', decide_eq_false_iff_not] at hb
      omega)))
    rw [st] at k
    exact ret_l (el_lst (ea_cons (ev_neg ev_c) ea_nil) (by decide)) (RetL.up (retC k hct hTb) (e13.trans e))
  have nb : ¬ (s.look.kind = 4 ∨ (w = 1 ∧ s.look.kind ≠ 3)) := by
    simp only [Bool.or_eq_false_iff, Bool.and_eq_false_iff, decide_eq_false_iff_not, Bool.not_eq_false', decide_eq_true_eq] at hb3
    omega
  have st : (Si28.step s (.axis w)).2 = ⟨((s.chart.axis (w == 1)).count : Int), (s.chart.axis (w == 1)).start :: (s.chart.axis (w == 1)).step :: dotsOf (s.chart.axis (w == 1)) (if w = 1 then s.look.width else s.look.height)⟩ := (if_neg w1).trans ((if_neg ne).trans ((if_neg nb).trans rfl))
  rw [st] at k
  have e14 := e13.trans e4
  have hc4 := hc.mono e14
  have hc4' := hc4
  obtain ⟨dx, pr, pl, g1, _⟩ := hc4'
  refine q_when (et_test (ev_eqI (ev_var rfl) ev_c)) (fun hb H5 e => ?_) fun hb H5 e5 => ?_
  · have w1' : w = 1 := by have := of_decide_eq_true hb; omega
    subst w1'
    refine ret_l (el_callN (en_meth (ev_var rfl) (e _ _ g1) m_ch_along_axis ea_nil (use_axis (hc4.mono e) o lk)) (ea_cons (ch_look T rfl (hc4.mono e)).2.1 ea_nil) fun p H6 hp e6 H7 e7 _ q _ => ⟨p, _, s.look.width, rfl, hp.mono e7, along_ok (C := s.chart) o lk, lk.w2, q⟩) (RetL.up (retC k hct hTb) (e14.trans e))
  · have w0 : w = 0 := by have := of_decide_eq_false hb; omega
    subst w0
    refine ret_l (el_callN (en_meth (ev_var rfl) (e5 _ _ g1) m_ch_upright_axis ea_nil (use_axis (hc4.mono e5) o lk)) (ea_cons (ch_look T rfl (hc4.mono e5)).2.2 ea_nil) fun p H6 hp e6 H7 e7 _ q _ => ⟨p, _, s.look.height, rfl, hp.mono e7, up_ok (C := s.chart) o lk, lk.h2, q⟩) (RetL.up (retC k hct hTb) (e14.trans e5))
end
end DC
namespace DC
open PySem PySem.Spec PyProof.Rows L2 Evl
section
variable {K : PySem.W.Frag} {mg : Str → Option Value} {c : Cs} {vs : List V} {H : Hp} {Q : VK} {E : XK}
/-- what the chart shows -/
def ShownAt (c : Cs) (H : Hp) (p : Addr) (s : St) : Prop := if s.look.kind ≤ 1 then BaAt c H p s else if s.look.kind = 4 then RiAt c H p s.chart.parts s.look else PoAt c H p s
def sp_drawn (c : Cs) : Sp := fun vs H Q _ => ∃ (a : Addr) (s : St), vs = [.ref a] ∧ ChAt c H a s ∧ RowsOk s.chart.n s.series ∧ LookOk s.look ∧ RetN (fun p H' => ShownAt c H' p s) H Q
theorem parts_is {s : St} {r : Series} (hr : s.series[0]? = some r) : s.chart.parts = partsOf r := by
  unfold Si28.Chart.parts partsOf
  have : s.chart.series.headD [] = r := by
    show s.series.headD [] = r
    cases h : s.series with
    | nil => rw [h] at hr; cases hr
    | cons x l => rw [h] at hr; exact Option.some.inj hr
  rw [this] <;> rfl
theorem parts_ok {s : St} (o : RowsOk s.chart.n s.series) : PartsOk s.chart.parts := by
  obtain ⟨r, hr, hm, hl, _⟩ := o.head
  rw [parts_is hr]
  have n2 := o.n2
  refine ⟨by unfold partsOf; rw [List.length_map, hl]; exact n2, fun x hx => ?_⟩
  obtain ⟨v, hv, rfl⟩ := List.mem_map.mp hx
  cases v with
  | none => exact ⟨Int.le_refl _, by decide⟩
  | some z =>
    have := o.small r hm z hv
    show 0 ≤ max z 0 ∧ max z 0 ≤ 10 ^ 36
    omega
theorem pure_drawn (T : Txt K mg c) (h : sp_drawn c vs H Q E) : t_drawn K c (sp_Points c) (sp_Ring c) sp_ring_parts (sp_Bars c) { nx := fun _ H' => Q .non H', rt := Q } (start ["chart"] vs) H := by
  obtain ⟨a, s, rfl, hc, o, lk, k⟩ := h
  have kd := lk.kind
  have ck := fun H1 (e : Ex H H1) => (ch_look (K := K) (σ := start ["chart"] [V.ref a]) T rfl (hc.mono e)).1
  refine q_when (et_test (ev_inU (ck H (Ex.refl H)) (eu_tup (ea_cons ev_c (ea_cons ev_c ea_nil)) (by decide)) rfl rfl)) (fun hb H1 e => ?_) fun hb H1 e1 => ?_
  · have hb : inV (.int (s.look.kind : Int)) [.int ((2 : Nat) : Int), .int ((3 : Nat) : Int)] = true := hb
    rw [in2, Bool.or_eq_true, decide_eq_true_eq, decide_eq_true_eq] at hb
    have hc1 := hc.mono e
    refine ret_n (en_impE (en_makeP (P := fun fs H' => ∃ u l, fs = f_po (.ref a) (.ref u) (.int (if s.look.kind = 3 then 1 else 0)) (.ref l) ∧ AxAt c H' u (s.chart.axis false) ∧ H' l = some (.lst ((alongs s.chart).map oV))) (ea_cons (ev_var rfl) ea_nil) fun H2 p dx e2 hp h2 Q q E => ⟨p, dx, a, s, rfl, h2, hc1.mono e2, ⟨o, lk, hb⟩, q⟩) fun p H2 e2 ⟨dx, fs, h2, u, l, ef, hA, hl⟩ => ?_) (RetN.up k e)
    unfold ShownAt
    rw [if_neg (by omega), if_neg (by omega)]
    subst ef
    exact ⟨dx, a, u, l, h2, hc1.mono e2, hA, hl⟩
  have hb : inV (.int (s.look.kind : Int)) [.int ((2 : Nat) : Int), .int ((3 : Nat) : Int)] = false := hb
  rw [in2, Bool.or_eq_false_iff, decide_eq_false_iff_not, decide_eq_false_iff_not] at hb
  refine q_when (et_test (ev_eqI (ck H1 e1) ev_c)) (fun hb4 H2 e => ?_) fun hb4 H2 e2 => ?_
  · have k4 : s.look.kind = 4 := by have := of_decide_eq_true hb4; omega
    have e12 := e1.trans e
    have hc2 := hc.mono e12
    obtain ⟨q, r, hr, hl, h5, he⟩ := row0 T (σ := start ["chart"] [V.ref a]) (ev_var (i := 0) rfl) hc2 o
    obtain ⟨dx, pr, pl, g1, _, gL⟩ := hc2
    have n2 := o.n2
    have pk := parts_ok o
    rw [parts_is hr] at pk
    refine ret_n (en_impE (en_makePL (xs := nV (partsOf r)) (P := fun fs H' => ∃ q, fs = f_ri (.ref pl) (.ref q) ∧ H' q = some (.lst (nV (bounds (partsOf r))))) (el_cal (ea_cons he ea_nil) fun H3 e3 _ q3 _ => ⟨q, r, rfl, e3 _ _ h5, by omega, q3⟩) (ea_cons (ev_fld (ev_var rfl) g1 T.c_ch T.a_ch_look l_ch_look) ea_nil) fun w H3 hw e3 H4 p dx e4 h4 Q q E => ⟨p, dx, w, pl, partsOf r, rfl, h4, e4 _ _ hw, pk, q⟩) fun p H3 e3 ⟨dx, fs, h3, q, ef, hq⟩ => ?_) (RetN.up k e12)
    unfold ShownAt
    rw [if_neg (by omega), if_pos k4, parts_is hr]
    subst ef
    exact ⟨dx, pl, q, h3, gL.mono e3, hq⟩
  · have k1 : s.look.kind ≤ 1 := by have := of_decide_eq_false hb4; omega
    have e12 := e1.trans e2
    have hc2 := hc.mono e12
    refine ret_n (en_impE (en_makeP (P := fun fs H' => ∃ u, fs = f_ba (.ref a) (.ref u) ∧ AxAt c H' u (s.chart.axis false)) (ea_cons (ev_var rfl) ea_nil) fun H3 p dx e3 hp h3 Q q E => ⟨p, dx, a, s, rfl, h3, hc2.mono e3, o, lk, q⟩) fun p H3 e3 ⟨dx, fs, h3, u, ef, hA⟩ => ?_) (RetN.up k e12)
    unfold ShownAt
    rw [if_pos k1]
    subst ef
    exact ⟨dx, a, u, h3, hc2.mono e3, hA⟩
/-! ### a method of what is shown -/
def S_place (c : Cs) : Addr → Option Sp := fun C => if C = c.ba then some (sp_bar_place c) else if C = c.po then some (sp_point_place c) else if C = c.ri then some (sp_ring_place c) else none
def S_at (c : Cs) : Addr → Option Sp := fun C => if C = c.ba then some (sp_bar_at c) else if C = c.po then some (sp_point_at c) else if C = c.ri then some (sp_ring_at c) else none
structure Apart (c : Cs) : Prop where
  po_ba : c.po ≠ c.ba
  ri_ba : c.ri ≠ c.ba
  ri_po : c.ri ≠ c.po
def placeO (s : St) (i j : Nat) : Option (List Int) := if s.look.kind ≤ 1 then barL (s.chart.bar i j) else if s.look.kind = 4 then ringL s.chart.parts i j else pointL (s.chart.point i j)
theorem eq_methA {σ : L2.St} {te : TE} {ta : TA} {S : Addr → Option Sp} {m : Str} {vs : List V} {o : Option (List Int)} {P : Addr → Hp → Prop} (h : EvN te σ H P) (ha : EvA ta σ H vs) (hs : ∀ p H1, P p H1 → Ex H H1 → ∃ C dx fs sp, H1 p = some (.ins C dx fs) ∧ S C = some sp ∧ fs.lookup m = none ∧ SpO sp (.ref p :: vs) H1 o) : EvQ (tMethA S m te ta) σ H o := fun H1 e Q q => h H1 e _ fun p H2 hp e2 h2 => by
  obtain ⟨C, dx, fs, sp, g1, g2, g3, g4⟩ := hs p H2 h2 (e.trans e2)
  exact ⟨p, C, dx, fs, sp, rfl, g1, g2, g3, ha H2 (e.trans e2) _ fun H3 e3 => g4 H3 e3 Q (q.up (e2.trans e3)) E0⟩
theorem use_shown_place {p : Addr} {s : St} {i j : Nat} (A : Apart c) (h : ShownAt c H p s) (o : RowsOk s.chart.n s.series) (lk : LookOk s.look) : ∃ C dx fs sp, H p = some (.ins C dx fs) ∧ S_place c C = some sp ∧ fs.lookup ("place_of" : Str) = none ∧ SpO sp [.ref p, .int (i : Int), .int (j : Int)] H (placeO s i j) := by
  unfold ShownAt at h
  have kd := lk.kind
  by_cases k1 : s.look.kind ≤ 1
  · rw [if_pos k1] at h
    have h' := h
    obtain ⟨dx, a, u, h1, _⟩ := h
    refine ⟨c.ba, dx, _, sp_bar_place c, h1, if_pos rfl, m_ba_place_of, ?_⟩
    have e : placeO s i j = barL (s.chart.bar i j) := if_pos k1
    rw [e]
    exact use_bar_place h' ⟨o, lk, k1⟩
  rw [if_neg k1] at h
  by_cases k4 : s.look.kind = 4
  · rw [if_pos k4] at h
    have h' := h
    obtain ⟨dx, l, q, h1, _⟩ := h
    refine ⟨c.ri, dx, _, sp_ring_place c, h1, (if_neg A.ri_ba).trans ((if_neg A.ri_po).trans (if_pos rfl)), m_ri_place_of, ?_⟩
    have e : placeO s i j = ringL s.chart.parts i j := (if_neg k1).trans (if_pos k4)
    rw [e]
    exact fun H1 e1 _ q _ => ⟨p, _, _, i, j, rfl, h'.mono e1, parts_ok o, q⟩
  · rw [if_neg k4] at h
    have h' := h
    obtain ⟨dx, a, u, l, h1, _⟩ := h
    refine ⟨c.po, dx, _, sp_point_place c, h1, (if_neg A.po_ba).trans (if_pos rfl), m_po_place_of, ?_⟩
    have e : placeO s i j = pointL (s.chart.point i j) := (if_neg k1).trans (if_neg k4)
    rw [e]
    exact use_point_place h' ⟨o, lk, by omega⟩
theorem use_shown_at {p : Addr} {s : St} {x y : Int} (A : Apart c) (h : ShownAt c H p s) (o : RowsOk s.chart.n s.series) (lk : LookOk s.look) (hx : -(2 ^ 31) ≤ x ∧ x ≤ 2 ^ 31) (hy : -(2 ^ 31) ≤ y ∧ y ≤ 2 ^ 31) : ∃ C dx fs sp, H p = some (.ins C dx fs) ∧ S_at c C = some sp ∧ fs.lookup ("one_at" : Str) = none ∧ SpO sp [.ref p, .int x, .int y] H (pairL (s.chart.click x y)) := by
  unfold ShownAt at h
  have kd := lk.kind
  by_cases k1 : s.look.kind ≤ 1
  · rw [if_pos k1] at h
    have h' := h
    obtain ⟨dx, a, u, h1, _⟩ := h
    exact ⟨c.ba, dx, _, sp_bar_at c, h1, if_pos rfl, m_ba_one_at, fun H1 e1 _ q _ => ⟨p, s, x, y, rfl, h'.mono e1, ⟨o, lk, k1⟩, q⟩⟩
  rw [if_neg k1] at h
  by_cases k4 : s.look.kind = 4
  · rw [if_pos k4] at h
    have h' := h
    obtain ⟨dx, l, q, h1, _⟩ := h
    exact ⟨c.ri, dx, _, sp_ring_at c, h1, (if_neg A.ri_ba).trans ((if_neg A.ri_po).trans (if_pos rfl)), m_ri_one_at, fun H1 e1 _ q _ => ⟨p, s, x, y, rfl, h'.mono e1, parts_ok o, lk, k4, parts_len _, hx, hy, q⟩⟩
  · rw [if_neg k4] at h
    have h' := h
    obtain ⟨dx, a, u, l, h1, _⟩ := h
    exact ⟨c.po, dx, _, sp_point_at c, h1, (if_neg A.po_ba).trans (if_pos rfl), m_po_one_at, fun H1 e1 _ q _ => ⟨p, s, x, y, rfl, h'.mono e1, ⟨o, lk, by omega⟩, by omega, by omega, q⟩⟩
theorem place_step {s : St} {i j : Nat} (ne : s.series ≠ []) (lk : LookOk s.look) : (Si28.step s (.place i j)).1 = s ∧ ansL s (.place i j) = match placeO s i j with | none => [-2] | some l => 0 :: l := by
  refine ⟨rfl, ?_⟩
  have kd := lk.kind
  unfold ansL
  have st : (Si28.step s (.place i j)).2 = (if s.look.kind ≤ 1 then (match s.chart.bar i j with | some b => ⟨0, [b.x0, b.x1, b.y0, b.y1]⟩ | none => Si28.say (-2)) else if s.look.kind = 4 then (if i = 0 ∧ j < s.chart.n then ⟨0, [s.chart.upTo j, s.chart.upTo (j + 1), s.chart.total]⟩ else Si28.say (-2)) else match s.chart.point i j with | some p => ⟨0, [p.1, p.2]⟩ | none => Si28.say (-2)) := if_neg ne
  rw [st]
  unfold placeO
  by_cases k1 : s.look.kind ≤ 1
  · rw [if_pos k1, if_pos k1]
    cases s.chart.bar i j <;> rfl
  rw [if_neg k1, if_neg k1]
  by_cases k4 : s.look.kind = 4
  · rw [if_pos k4, if_pos k4]
    unfold ringL
    rw [parts_len]
    by_cases q : i = 0 ∧ j < s.chart.n
    · rw [if_pos q, if_pos q] <;> rfl
    · rw [if_neg q, if_neg q] <;> rfl
  · rw [if_neg k4, if_neg k4]
    cases s.chart.point i j <;> rfl
theorem pure_place (T : Txt K mg c) (A : Apart c) (h : sp_call c of_place vs H Q E) : t_place K c (sp_drawn c) (S_place c) { nx := fun _ H' => Q .non H', rt := Q } (start ["chart", "given", "lists", "found"] vs) H := by
  obtain ⟨a, g, ls, t, s, l, rs, q, rfl, hct, ⟨ot, hto⟩, nta, hTb, wf, hg, hls, n1, n2, ⟨i, j, rfl, rfl⟩, k⟩ := h
  have hc := hct.mono hide_sub
  refine q_when (rows_tru T rfl hc) (fun hb H1 e => ?_) fun hb H1 e1 => ?_
  · have k : RetC c a t s (ansL s (.place i j)) H Q := k
    have st : ansL s (.place i j) = [-4] := by
      unfold ansL
      rw [show (Si28.step s (.place i j)).2 = Si28.say (-4) from if_pos (List.isEmpty_iff.mp hb)] <;> rfl
    rw [st] at k
    exact ret_l (el_lst (ea_cons (ev_neg ev_c) ea_nil) (by decide)) (RetL.up (retC k hct hTb) e)
  have ne := ne_nil_of hb
  have o := wf.ok ne
  have lk := wf.look
  obtain ⟨s1, s2⟩ := place_step (i := i) (j := j) ne lk
  rw [s1, s2] at k
  have hc1 := hc.mono e1
  refine q_asgQ (eq_methA (en_cal (ea_cons (ev_var rfl) ea_nil) fun H2 e2 _ q2 _ => ⟨a, s, rfl, hc1.mono e2, o, lk, q2⟩) (ea_cons (ev_given (j := 0) rfl (hg.mono e1) rfl) (ea_cons (ev_given (j := 1) rfl (hg.mono e1) rfl) ea_nil)) fun p H2 hp e2 => use_shown_place A hp o lk) (fun e0 H2 e2 => ?_) fun l e0 p H2 hp e2 hl => ?_
  · rw [e0] at k
    refine q_when (b := true) (et_is (et_test (ev_isN (ev_var rfl))) (by decide)) (fun _ H3 e3 => ?_) fun h => by cases h
    exact ret_l (el_lst (ea_cons (ev_neg ev_c) ea_nil) (by decide)) (RetL.up (retC k hct hTb) ((e1.trans e2).trans e3))
  · rw [e0] at k
    refine q_when (b := false) (et_is (et_test (ev_isN (ev_var rfl))) (decide_eq_false fun e : V.ref p = V.non => by cases e)) (fun h => by cases h) fun _ H3 e3 => ?_
    have ll : l.length ≤ 4 := by
      unfold placeO at e0
      split at e0
      · cases hb2 : s.chart.bar i j with
        | none => rw [hb2] at e0; cases e0
        | some b => rw [hb2] at e0; cases e0; exact Nat.le_refl _
      split at e0
      · unfold ringL at e0
        split at e0
        · cases e0; exact (by decide : 3 ≤ 4)
        · cases e0
      · cases hb2 : s.chart.point i j with
        | none => rw [hb2] at e0; cases e0
        | some b => rw [hb2] at e0; cases e0; exact (by decide : 2 ≤ 4)
    exact ret_l (el_catR (xs := [.int 0]) (el_lst (ea_cons ev_c ea_nil) (by decide)) (ev_var rfl) (e3 _ _ hl) (by rw [nV_len]; show 1 + l.length ≤ _; omega)) (RetL.up (retC k hct hTb) ((e1.trans e2).trans e3))
theorem click_step {s : St} {x y : Int} (ne : s.series ≠ []) : ansL s (.click x y) = match pairL (s.chart.click x y) with | none => [0] | some l => 1 :: l := by
  unfold ansL
  have st : (Si28.step s (.click x y)).2 = (match s.chart.click x y with | some a => ⟨1, [(a.1 : Int), (a.2 : Int)]⟩ | none => Si28.say 0) := if_neg ne
  rw [st]
  cases s.chart.click x y <;> rfl
theorem pure_click (T : Txt K mg c) (A : Apart c) (h : sp_call c of_click vs H Q E) : t_click K c (sp_drawn c) (S_at c) { nx := fun _ H' => Q .non H', rt := Q } (start ["chart", "given", "lists", "found"] vs) H := by
  obtain ⟨a, g, ls, t, s, l, rs, q, rfl, hct, ⟨ot, hto⟩, nta, hTb, wf, hg, hls, n1, n2, ⟨x, y, rfl, hx, hy, rfl⟩, k⟩ := h
  have hc := hct.mono hide_sub
  have k : RetC c a t s (ansL s (.click x y)) H Q := k
  refine q_when (rows_tru T rfl hc) (fun hb H1 e => ?_) fun hb H1 e1 => ?_
  · have st : ansL s (.click x y) = [-4] := by
      unfold ansL
      rw [show (Si28.step s (.click x y)).2 = Si28.say (-4) from if_pos (List.isEmpty_iff.mp hb)] <;> rfl
    rw [st] at k
    exact ret_l (el_lst (ea_cons (ev_neg ev_c) ea_nil) (by decide)) (RetL.up (retC k hct hTb) e)
  have ne := ne_nil_of hb
  have o := wf.ok ne
  have lk := wf.look
  rw [click_step ne] at k
  have hc1 := hc.mono e1
  refine q_asgQ (eq_methA (en_cal (ea_cons (ev_var rfl) ea_nil) fun H2 e2 _ q2 _ => ⟨a, s, rfl, hc1.mono e2, o, lk, q2⟩) (ea_cons (ev_given (j := 0) rfl (hg.mono e1) rfl) (ea_cons (ev_given (j := 1) rfl (hg.mono e1) rfl) ea_nil)) fun p H2 hp e2 => use_shown_at A hp o lk hx hy) (fun e0 H2 e2 => ?_) fun l e0 p H2 hp e2 hl => ?_
  · rw [e0] at k
    refine q_when (b := true) (et_is (et_test (ev_isN (ev_var rfl))) (by decide)) (fun _ H3 e3 => ?_) fun h => by cases h
    exact ret_l (el_lst (ea_cons ev_c ea_nil) (by decide)) (RetL.up (retC k hct hTb) ((e1.trans e2).trans e3))
  · rw [e0] at k
    refine q_when (b := false) (et_is (et_test (ev_isN (ev_var rfl))) (decide_eq_false fun e : V.ref p = V.non => by cases e)) (fun h => by cases h) fun _ H3 e3 => ?_
    have ll : l.length ≤ 4 := by
      unfold pairL at e0
      cases hb2 : s.chart.click x y with
      | none => rw [hb2] at e0; cases e0
      | some b => rw [hb2] at e0; cases e0; exact (by decide : 2 ≤ 4)
    exact ret_l (el_catR (xs := [.int 1]) (el_lst (ea_cons ev_c ea_nil) (by decide)) (ev_var rfl) (e3 _ _ hl) (by rw [nV_len]; show 1 + l.length ≤ _; omega)) (RetL.up (retC k hct hTb) ((e1.trans e2).trans e3))
theorem shares_is (C : Chart) (w : Nat) : C.shares w = sharesM C.parts w := by
  have e : (fun a b : Nat => decide ((lostM C.parts w).getD b 0 ≤ (lostM C.parts w).getD a 0)) = fun a b => decide (C.parts.getD b 0 * (w : Int) % C.total ≤ C.parts.getD a 0 * (w : Int) % C.total) := by
    funext a b
    unfold lostM
    rw [getD_map0 (fun z => z * (w : Int) % C.parts.sum) (by simp), getD_map0 (fun z => z * (w : Int) % C.parts.sum) (by simp)]
    rfl
  unfold Si28.Chart.shares sharesM sortO
  rw [e, parts_len]
  rfl
theorem sharesM_len (ps : List Int) (w : Nat) : (sharesM ps w).length = ps.length := by
  unfold sharesM
  rw [incr_len]
  exact List.length_map _
theorem ChAt.ext {a : Addr} {s : St} {H' : Hp} (h : ChAt c H a s) (e : LamX.ExtN H H') : ChAt c H' a s := by
  obtain ⟨dx, pr, pl, h1, ⟨ps, h2, h3⟩, dl, h4⟩ := h
  exact ⟨dx, pr, pl, e _ _ h1 ins_nt, ⟨ps, e _ _ h2 lst_nt, h3.1, fun i q r e1 e2 => e _ _ (h3.2 i q r e1 e2) lst_nt⟩, dl, e _ _ h4 ins_nt⟩
theorem hide_extN {t : Addr} {H' : Hp} (e : LamX.ExtN H H') : LamX.ExtN (hide t H) (hide t H') := fun b o h n => hide_of (hide_at h).1 (e b o (hide_at h).2 n)
theorem pure_shares (T : Txt K mg c) (h : sp_call c of_shares vs H Q E) : t_shares K c sp_ring_parts (sp_shares_of c) { nx := fun _ H' => Q .non H', rt := Q } (start ["chart", "given", "lists", "whole", "parts"] vs) H := by
  obtain ⟨a, g, ls, t, s, l, rs, q, rfl, hct, ⟨ot, hto⟩, nta, hTb, wf, hg, hls, n1, n2, ⟨w, rfl, rfl⟩, k⟩ := h
  have hc := hct.mono hide_sub
  have k : RetC c a t s (ansL s (.shares w)) H Q := k
  unfold ansL at k
  refine q_asg (ev_given (j := 0) rfl hg rfl) fun H1 e1 => ?_
  refine q_when (et_not (et_test (ev_leLe ev_c (ev_var rfl) ev_c))) (fun hb H2 e => ?_) fun hb H2 e2 => ?_
  · have st : (Si28.step s (.shares w)).2 = Si28.say (-1) := if_pos (by
      simp only [Bool.not_eq_true', Bool.and_eq_false_iff, decide_eq_false_iff_not] at hb
      omega)
    rw [st] at k
    exact ret_l (el_lst (ea_cons (ev_neg ev_c) ea_nil) (by decide)) (RetL.up (retC k hct hTb) (e1.trans e))
  have hw : 1 ≤ w ∧ w ≤ 1000000 := by
    simp only [Bool.not_eq_false', Bool.and_eq_true, decide_eq_true_eq] at hb
    omega
  have nw : ¬ (w = 0 ∨ 1000000 < w) := by omega
  have e12 := e1.trans e2
  refine q_when (rows_tru T rfl (hc.mono e12)) (fun hb H3 e => ?_) fun hb2 H3 e3 => ?_
  · have st : (Si28.step s (.shares w)).2 = Si28.say (-4) := (if_neg nw).trans (if_pos (List.isEmpty_iff.mp hb))
    rw [st] at k
    exact ret_l (el_lst (ea_cons (ev_neg ev_c) ea_nil) (by decide)) (RetL.up (retC k hct hTb) (e12.trans e))
  have ne := ne_nil_of hb2
  have o := wf.ok ne
  have e13 := e12.trans e3
  have pk := parts_ok o
  have pn := pk.n
  obtain ⟨q, r, hr, hl, h5, he⟩ := row0 T (σ := [some (V.ref a), some (V.ref g), some (V.ref ls), some (V.int (w : Int)), none]) (ev_var (i := 0) rfl) (hc.mono e13) o
  have n2 := o.n2
  refine q_asgL (xs := nV s.chart.parts) (el_is (el_cal (ea_cons he ea_nil) fun H4 e4 _ q4 _ => ⟨q, r, rfl, e4 _ _ h5, by omega, q4⟩) (by rw [parts_is hr])) fun p H4 hp e4 h4 => ?_
  have e14 := e13.trans e4
  have tz : s.chart.total = s.chart.parts.sum := rfl
  refine q_when (et_test (ev_eqI (ev_sum (ev_var rfl) h4) ev_c)) (fun hb H5 e => ?_) fun hb3 H5 e5 => ?_
  · have st : (Si28.step s (.shares w)).2 = Si28.say (-3) := (if_neg nw).trans ((if_neg ne).trans (if_pos (of_decide_eq_true hb)))
    rw [st] at k
    exact ret_l (el_lst (ea_cons (ev_neg ev_c) ea_nil) (by decide)) (RetL.up (retC k hct hTb) (e14.trans e))
  · have ns := of_decide_eq_false hb3
    have st : (Si28.step s (.shares w)).2 = ⟨0, s.chart.shares w⟩ := (if_neg nw).trans ((if_neg ne).trans (if_neg ns))
    rw [st, shares_is] at k
    have ps := pk.sum s.chart.parts.length
    rw [List.take_length] at ps
    have e15 := e14.trans e5
    have hTb5 : TabC c H5 := hTb.ext e15
    refine ⟨by decide, fun z hz => ⟨_, rfl, _, rfl, p, s.chart.parts, w, rfl, (upd_ne (ne_of_none (e5 _ _ h4) hz)).trans (e5 _ _ h4), pk, by omega, hw.1, hw.2, hTb5.ext (fun b o hb => (upd_ne (ne_of_none hb hz)).trans hb), fun d H6 fr eN hT6 hd => ?_⟩⟩
    have hz6 : H6 z = some (.lst [.int 0]) := eN z _ upd_same lst_nt
    have f6 : LamX.ExtN H5 H6 := fun b o hb hn => eN b o ((upd_ne (ne_of_none hb hz)).trans hb) hn
    refine ⟨z, d, _, _, rfl, rfl, hz6, hd, sz16 (by rw [nV_len, sharesM_len]; show 1 + _ ≤ _; omega), fun v hv => k v _ (fun o ho => ?_) (fun b o hb _ hn => ?_) upd_same ?_ (hT6.ext fun b o hb => (upd_ne (ne_of_none hb hv)).trans hb)⟩
    · cases o with
      | tbl ps => exact ⟨ps, rfl⟩
      | _ => exact absurd (f6 v _ (e15 _ _ ho) (fun ps z => by cases z)) (by rw [hv]; simp)
    · have := f6 b o (e15 _ _ hb) hn
      exact (upd_ne (ne_of_none this hv)).trans this
    · exact (hct.mono (hide_ex e15)).ext (hide_extN f6) |>.mono (hide_ex fun b o hb => (upd_ne (ne_of_none hb hv)).trans hb)
end
end DC
namespace DC
open PySem PySem.Spec PyProof.Rows L2 Evl
/-! answers: level 10 -/
abbrev s_answers : Stmt := top 46
theorem sc_answers : FnScope ["calls", "chart", "reader", "told", "call", "given", "lists", "answer"] ["calls"] (defScope s_answers) := ⟨rfl, rfl, rfl, by decide +kernel, rfl, by decide +kernel, by decide +kernel⟩
def t_answers (K : PySem.W.Frag) (c : Cs) (p_Chart p_Reader p_Reader_at_end p_Reader_take p_Reader_take_list p_Reader_take_lists : Sp) (S : Addr → Option Sp) (cT : Addr) : TS :=
    (tSeq (tAsg (tMake c.ch p_Chart [] E0 tNil) (gName 1))
    (tSeq (tAsg (tMake c.re p_Reader [] E0 (tCons (tVar 0) tNil)) (gName 2))
    (tSeq (tAsg (tLst tNil) (gName 3))
    (tSeq (tWhile (tNot (tB (tMeth c.re "at_end" p_Reader_at_end [] E0 (tVar 2) tNil))) (tSeq (tAsg (tOp (rIxT K) (tC (.ref cT)) (tMeth c.re "take" p_Reader_take [] E0 (tVar 2) tNil)) (gName 4))
    (tSeq (tAsg (tMeth c.re "take_list" p_Reader_take_list [] E0 (tVar 2) tNil) (gName 5))
    (tSeq (tAsg (tMeth c.re "take_lists" p_Reader_take_lists [] E0 (tVar 2) tNil) (gName 6))
    (tSeq (tAsg (tCallA 4 S (tCons (tVar 1) (tCons (tVar 5) (tCons (tVar 6) tNil)))) (gName 7))
    (tSeq (tDrop (tBM K "list" rAppend (tVar 3) (tCons (tCB (rLenS K) (tCons (tVar 7) tNil)) tNil)))
    (tDrop (tBM K "list" rExtend (tVar 3) (tCons (tVar 7) tNil)))))))))
    (tRet (tVar 3))))))
theorem der_answers {P : Program} {w : World} {K : PySem.W.Frag} {mg : Str → Option Value} {base : Heap} {c : Cs} {p_Chart p_Reader p_Reader_at_end p_Reader_take p_Reader_take_list p_Reader_take_lists : Sp} (T : Txt K mg c)
    (c_Chart : C8.Mak P w K mg base 4 "Chart" c.ch p_Chart [])
    (c_Reader : C8.Mak P w K mg base 1 "Reader" c.re p_Reader [])
    (c_Reader_at_end : C8.Met P w K mg base 1 c.re "at_end" p_Reader_at_end [])
    (c_Reader_take : C8.Met P w K mg base 1 c.re "take" p_Reader_take [])
    (c_Reader_take_list : C8.Met P w K mg base 2 c.re "take_list" p_Reader_take_list [])
    (c_Reader_take_lists : C8.Met P w K mg base 3 c.re "take_lists" p_Reader_take_lists [])
    {f : Addr} {cdv : Value} {A : Around} {outer : List Env} {s : Shared} {H : Hp} {E : XK} 
    {S : Addr → Option Sp} (MA : ∀ f sp, S f = some sp → Held P w K mg base 9 f sp) {cT : Addr} (hCALLS : ∃ u, mg "CALLS" = some u ∧ RelV (.ref cT) u) (hr : Room 9 (A.deeper (envOfC "answers" (defScope s_answers) s.heap.objs.size f cdv))) :
    PSs (cxOf CX0 P w K mg base ["calls", "chart", "reader", "told", "call", "given", "lists", "answer"] "answers" (defScope s_answers) f cdv A outer s H E).nox (defBody s_answers) (t_answers K c p_Chart p_Reader p_Reader_at_end p_Reader_take p_Reader_take_list p_Reader_take_lists S cT) :=
    (pss_cons (ps_set (i := 1) sc_answers.nd rfl (Or.inl rfl) (pe_mk0 c_Chart hr (by decide) (by rfl)))
      (pss_cons (ps_set (i := 2) sc_answers.nd rfl (Or.inl rfl) (C8.pe_mk c_Reader hr (by decide) (by rfl) (pa_cons (pv 0) pa_nil)))
      (pss_cons (ps_set (i := 3) sc_answers.nd rfl (Or.inl rfl) (pe_lst pa_nil))
      (pss_cons (ps_while PassesOwn.never (pt_not (pt_val (C8.pe_mt0 c_Reader_at_end hr (by decide) (pv 2)))) (pss_cons (ps_set (i := 4) sc_answers.nd rfl (Or.inl rfl) (pe_ix ix_tup (C8.pe_gc (v := .ref cT) (by rfl) hCALLS) (C8.pe_mt0 c_Reader_take hr (by decide) (pv 2)) (fun _ _ => rfl)))
      (pss_cons (ps_set (i := 5) sc_answers.nd rfl (Or.inl rfl) (C8.pe_mt0 c_Reader_take_list hr (by decide) (pv 2)))
      (pss_cons (ps_set (i := 6) sc_answers.nd rfl (Or.inl rfl) (C8.pe_mt0 c_Reader_take_lists hr (by decide) (pv 2)))
      (pss_cons (ps_set (i := 7) sc_answers.nd rfl (Or.inl rfl) (pe_callA (i := 4) MA hr rfl (Or.inl rfl) (pa_cons (pv 1) (pa_cons (pv 5) (pa_cons (pv 6) pa_nil)))))
      (pss_cons (ps_expr (pe_bm PySem.F.plainAttrs_list PySem.F.slot_list_append PySem.F.type_list_append mt_append (pv 3) (pa_cons (pe_callB call_len_seq (by rfl) T.n_len b_len (pa_cons (pv 7) pa_nil)) pa_nil)))
      (pss_one (ps_expr (pe_bm PySem.F.plainAttrs_list PySem.F.slot_list_extend PySem.F.type_list_extend mt_extend (pv 3) (pa_cons (pv 7) pa_nil))))))))))
      (pss_one (ps_ret (pv 3)))))))
end DC
namespace DC
open PySem PySem.Spec PyProof.Rows L2 Evl
section
variable {K : PySem.W.Frag} {mg : Str → Option Value} {c : Cs} {vs : List V} {H : Hp} {Q : VK} {E : XK}
/-- the seven calls, by their numbers -/
def OF : Nat → List Int → List (List Int) → Si28.Call → Prop
  | 0 => of_begins
  | 1 => of_data
  | 2 => of_look
  | 3 => of_axis
  | 4 => of_place
  | 5 => of_click
  | _ => of_shares
/-- a list of calls is what is asked: one call's numbers -/
theorem nat32 {z : Int} (h : Si28Neutral.natural z 32 = true) : ∃ n : Nat, z = (n : Int) := by
  unfold Si28Neutral.natural at h
  simp only [Bool.and_eq_true, decide_eq_true_eq] at h
  exact ⟨z.toNat, by omega⟩
theorem mapM_some : ∀ (rows : List (List Int)), rows.all Si28Neutral.row = true → ∃ ss, rows.mapM Si28Neutral.values = some ss
  | [], _ => ⟨[], rfl⟩
  | r :: rows, h => by
    rw [List.all_cons, Bool.and_eq_true] at h
    obtain ⟨ss, hs⟩ := mapM_some rows h.2
    have h1 := h.1
    unfold Si28Neutral.row at h1
    cases e : Si28Neutral.values r with
    | none => rw [e] at h1; cases h1
    | some s => exact ⟨s :: ss, by rw [List.mapM_cons, e, hs] <;> rfl⟩
theorem w32 {z : Int} (h : Si28Neutral.whole32 z = true) : -(2 ^ 31) ≤ z ∧ z ≤ 2 ^ 31 := by
  unfold Si28Neutral.whole32 at h
  simp only [Bool.and_eq_true, decide_eq_true_eq] at h
  omega
theorem asked_call {p : Int} {ns : List Int} {rows : List (List Int)} (h : Si28Neutral.asked1 ((p :: ns) :: rows) = true) (l1 : rows.length ≤ 10000) (l2 : ∀ r ∈ rows, r.length ≤ 10000) : ∃ (k : Nat) (q : Si28.Call), p = (k : Int) ∧ k < 7 ∧ Si28Neutral.callOf ((p :: ns) :: rows) = some q ∧ OF k ns rows q := by
  unfold Si28Neutral.asked1 at h
  split at h
  · rename_i e
    injection e with e1 e2
    injection e1 with e1 e3
    subst e1 e2 e3
    exact ⟨0, .begins, rfl, by decide, rfl, rfl⟩
  · rename_i n rows' e
    injection e with e1 e2
    injection e1 with e1 e3
    subst e1 e2 e3
    rw [Bool.and_eq_true] at h
    obtain ⟨m, rfl⟩ := nat32 h.1
    obtain ⟨ss, hs⟩ := mapM_some rows h.2
    refine ⟨1, .data m ss, rfl, by decide, ?_, m, ss, rfl, hs, l1, l2, rfl⟩
    show (rows.mapM Si28Neutral.values).map (fun r => Si28.Call.data (m : Int).toNat r) = _
    rw [hs, Int.toNat_natCast] <;> rfl
  · rename_i k w hh m e
    injection e with e1 e2
    injection e1 with e1 e3
    subst e1 e2 e3
    simp only [Bool.and_eq_true] at h
    obtain ⟨h1, h2, h3, h4⟩ := h
    obtain ⟨a, rfl⟩ := nat32 h1
    obtain ⟨b, rfl⟩ := nat32 h2
    obtain ⟨d, rfl⟩ := nat32 h3
    obtain ⟨f, rfl⟩ := nat32 h4
    exact ⟨2, .look ⟨a, b, d, f⟩, rfl, by decide, rfl, a, b, d, f, rfl, rfl⟩
  · rename_i a e
    injection e with e1 e2
    injection e1 with e1 e3
    subst e1 e2 e3
    obtain ⟨m, rfl⟩ := nat32 h
    exact ⟨3, .axis m, rfl, by decide, rfl, m, rfl, rfl⟩
  · rename_i i j e
    injection e with e1 e2
    injection e1 with e1 e3
    subst e1 e2 e3
    rw [Bool.and_eq_true] at h
    obtain ⟨m, rfl⟩ := nat32 h.1
    obtain ⟨n, rfl⟩ := nat32 h.2
    exact ⟨4, .place m n, rfl, by decide, rfl, m, n, rfl, rfl⟩
  · rename_i x y e
    injection e with e1 e2
    injection e1 with e1 e3
    subst e1 e2 e3
    rw [Bool.and_eq_true] at h
    exact ⟨5, .click x y, rfl, by decide, rfl, x, y, rfl, w32 h.1, w32 h.2, rfl⟩
  · rename_i w e
    injection e with e1 e2
    injection e1 with e1 e3
    subst e1 e2 e3
    obtain ⟨m, rfl⟩ := nat32 h
    exact ⟨6, .shares m, rfl, by decide, rfl, m, rfl, rfl⟩
  · cases h
theorem wf_step {s : St} (w : Wf s) (q : Si28.Call) : Wf (Si28.step s q).1 := by
  cases q with
  | begins => exact wf_init
  | data n l =>
    by_cases b : badRows n l
    · rw [step_data_bad b]; exact w
    · rw [step_data_ok b]
      have o := rowsOk_ok ((rowsOk_iff n l).mpr b)
      have en : (Si28.St.chart { s with series := l }).n = n := by
        obtain ⟨r, _, _, hl, e⟩ := o.head
        show (l.headD []).length = n
        rw [e, hl]
      refine ⟨Or.inr ?_, w.look⟩
      show RowsOk (Si28.St.chart { s with series := l }).n l
      rw [en]
      exact o
  | look k =>
    by_cases b : allowed k = true
    · have st : Si28.step s (.look k) = ({ s with look := k }, Si28.say 0) := if_neg ((allowed_iff k).mp b)
      rw [st]
      exact ⟨w.rows, allowed_ok b⟩
    · have st : Si28.step s (.look k) = (s, Si28.say (-1)) := if_pos (Classical.byContradiction fun z => b ((allowed_iff k).mpr z))
      rw [st]
      exact w
  | axis a => exact w
  | place i j => exact w
  | click x y => exact w
  | shares n => exact w
theorem re_ne_ch {C dx C' dx' : Addr} {x y x0 x1 : V} : HO.ins C dx (f_ch x y) ≠ HO.ins C' dx' (f_re x0 x1) := fun z => by
  injection z with _ _ h
  injection h with h _
  have h : ("rows" : Str) = "told" := congrArg Prod.fst h
  exact absurd h (by decide +kernel)
theorem re_ne_lk {C dx C' dx' : Addr} {x y x0 x1 x2 x3 : V} : HO.ins C dx (f_lk x0 x1 x2 x3) ≠ HO.ins C' dx' (f_re x y) := fun z => by
  injection z with _ _ h
  have := congrArg List.length h
  cases this
theorem ChAt.re {a r C dx : Addr} {x y : V} {s : St} {H' : Hp} (h : ChAt c H a s) (hr : H r = some (.ins C dx (f_re x y))) (b : But r H H') : ChAt c H' a s := by
  obtain ⟨d0, pr, pl, h1, ⟨ps, h2, h3⟩, dl, h4⟩ := h
  exact ⟨d0, pr, pl, b _ _ h1 (ne_of h1 hr re_ne_ch), ⟨ps, b _ _ h2 (ne_of h2 hr lst_ne), h3.1, fun i q r' e1 e2 => b _ _ (h3.2 i q r' e1 e2) (ne_of (h3.2 i q r' e1 e2) hr lst_ne)⟩, dl, b _ _ h4 (ne_of h4 hr re_ne_lk)⟩
theorem sql_butT {b p C dx : Addr} {fs : List (Str × V)} {xs : List V} {H' : Hp} (hb : H b = some (.ins C dx fs)) (x : ButT b H H') (h : SqL K H p xs) : SqL K H' p xs := by
  rcases h with h | h
  · rcases h with h | ⟨o, h⟩
    · exact Or.inl (Or.inl (x _ _ h (ne_of h hb (by intro z; cases z)) lst_nt))
    · exact Or.inl (Or.inr ⟨o, x _ _ h (ne_of h hb (by intro z; cases z)) (fun ps z => by cases z)⟩)
  · exact Or.inr h
/-! ### one call read -/
theorem row_some {r ns t : List Int} (h : PyFlat.row r = some (ns, t)) : ∃ (n : Nat) (r' : List Int), r = (n : Int) :: r' ∧ n ≤ r'.length ∧ ns = r'.take n ∧ t = r'.drop n := by
  cases r with
  | nil => cases h
  | cons z r' =>
    by_cases q : 0 ≤ z ∧ z.toNat ≤ r'.length
    · have e : PyFlat.row (z :: r') = some (r'.take z.toNat, r'.drop z.toNat) := if_pos q
      rw [e] at h
      obtain ⟨e1, e2⟩ := Prod.mk.inj (Option.some.inj h)
      exact ⟨z.toNat, r', by rw [Int.toNat_of_nonneg q.1], q.2, e1.symm, e2.symm⟩
    · have e : PyFlat.row (z :: r') = none := if_neg q
      rw [e] at h
      cases h
theorem rows_len : ∀ (k : Nat) (t : List Int) (xs : List (List Int)) (u : List Int), PyFlat.rows k t = some (xs, u) → xs.length ≤ t.length ∧ (∀ x ∈ xs, x.length ≤ t.length) ∧ u.length ≤ t.length ∧ ∃ j, u = t.drop j ∧ j + u.length = t.length := by
  intro k
  induction k with
  | zero => intro t xs u h; cases h; exact ⟨Nat.zero_le _, fun x h => (by cases h), Nat.le_refl _, 0, rfl, by omega⟩
  | succ k ih =>
    intro t xs u h
    obtain ⟨n, r, ls, rfl, h2, rfl, h4⟩ := rows_succ h
    obtain ⟨i1, i2, i3, j, i4, i5⟩ := ih _ _ _ h4
    rw [List.length_drop] at i1 i3 i5
    refine ⟨by rw [List.length_cons, List.length_cons]; omega, fun x hx => ?_, by rw [List.length_cons]; omega, 1 + n + j, ?_, by rw [List.length_cons]; omega⟩
    · rw [List.length_cons]
      rcases List.mem_cons.mp hx with e | hx
      · rw [e, List.length_take]; omega
      · have := i2 x hx
        rw [List.length_drop] at this
        omega
    · rw [i4, List.drop_drop, show 1 + n + j = (n + j) + 1 by omega, List.drop_succ_cons]
/-- a call at the list's head -/
theorem call_some {p : Int} {r : List Int} {cl : List (List Int)} {t : List Int} (h : PyWide.call (p :: r) = some (cl, t)) : ∃ (n : Nat) (r' : List Int) (k : Nat) (t' : List Int) (rows : List (List Int)), r = (n : Int) :: r' ∧ n ≤ r'.length ∧ r'.drop n = (k : Int) :: t' ∧ PyFlat.rows k t' = some (rows, t) ∧ cl = (p :: r'.take n) :: rows := by
  unfold PyWide.call at h
  dsimp only at h
  cases e : PyFlat.row r with
  | none => rw [e] at h; cases h
  | some x =>
    obtain ⟨ns, t0⟩ := x
    rw [e] at h
    obtain ⟨n, r', rfl, h2, rfl, rfl⟩ := row_some e
    cases e2 : r'.drop n with
    | nil => rw [e2] at h; cases h
    | cons k t' =>
      rw [e2] at h
      dsimp only at h
      by_cases k0 : 0 ≤ k
      · rw [if_pos k0] at h
        cases e3 : PyFlat.rows k.toNat t' with
        | none => rw [e3] at h; cases h
        | some y =>
          obtain ⟨xs, u⟩ := y
          rw [e3] at h
          obtain ⟨h3, h4⟩ := Prod.mk.inj (Option.some.inj h)
          refine ⟨n, r', k.toNat, t', xs, rfl, h2, by rw [Int.toNat_of_nonneg k0]; exact e2, ?_, h3.symm⟩
          rw [e3, h4]
      · rw [if_neg k0] at h
        cases h
theorem calls_cons {f : Nat} {p : Int} {r : List Int} {cs : List (List (List Int))} (h : PyWide.calls f (p :: r) = some cs) : ∃ f' cl t cs', f = f' + 1 ∧ PyWide.call (p :: r) = some (cl, t) ∧ PyWide.calls f' t = some cs' ∧ cs = cl :: cs' := by
  cases f with
  | zero => cases h
  | succ f =>
    unfold PyWide.calls at h
    cases e : PyWide.call (p :: r) with
    | none => rw [e] at h; cases h
    | some x =>
      obtain ⟨cl, t⟩ := x
      rw [e] at h
      dsimp only at h
      cases e2 : PyWide.calls f t with
      | none => rw [e2] at h; cases h
      | some cs' =>
        rw [e2] at h
        exact ⟨f, cl, t, cs', rfl, rfl, e2, (Option.some.inj h).symm⟩
theorem calls_nil {f : Nat} {cs : List (List (List Int))} (h : PyWide.calls f [] = some cs) : cs = [] := by
  cases f with
  | zero => exact (Option.some.inj h).symm
  | succ f => exact (Option.some.inj h).symm
/-! ### the whole -/
def S_calls (c : Cs) (fs : Nat → Addr) : Addr → Option Sp := fun f =>
  if f = fs 0 then some (sp_call c of_begins) else if f = fs 1 then some (sp_call c of_data) else if f = fs 2 then some (sp_call c of_look) else if f = fs 3 then some (sp_call c of_axis) else if f = fs 4 then some (sp_call c of_place) else if f = fs 5 then some (sp_call c of_click) else if f = fs 6 then some (sp_call c of_shares) else none
theorem S_at_k {fs : Nat → Addr} (d : ∀ i j, i < 7 → j < 7 → i ≠ j → fs i ≠ fs j) {k : Nat} (hk : k < 7) : S_calls c fs (fs k) = some (sp_call c (OF k)) := by
  unfold S_calls
  match k, hk with
  | 0, _ => rw [if_pos rfl] <;> rfl
  | 1, _ => rw [if_neg (d 1 0 (by decide) (by decide) (by decide)), if_pos rfl] <;> rfl
  | 2, _ => rw [if_neg (d 2 0 (by decide) (by decide) (by decide)), if_neg (d 2 1 (by decide) (by decide) (by decide)), if_pos rfl] <;> rfl
  | 3, _ => rw [if_neg (d 3 0 (by decide) (by decide) (by decide)), if_neg (d 3 1 (by decide) (by decide) (by decide)), if_neg (d 3 2 (by decide) (by decide) (by decide)), if_pos rfl] <;> rfl
  | 4, _ => rw [if_neg (d 4 0 (by decide) (by decide) (by decide)), if_neg (d 4 1 (by decide) (by decide) (by decide)), if_neg (d 4 2 (by decide) (by decide) (by decide)), if_neg (d 4 3 (by decide) (by decide) (by decide)), if_pos rfl] <;> rfl
  | 5, _ => rw [if_neg (d 5 0 (by decide) (by decide) (by decide)), if_neg (d 5 1 (by decide) (by decide) (by decide)), if_neg (d 5 2 (by decide) (by decide) (by decide)), if_neg (d 5 3 (by decide) (by decide) (by decide)), if_neg (d 5 4 (by decide) (by decide) (by decide)), if_pos rfl] <;> rfl
  | 6, _ => rw [if_neg (d 6 0 (by decide) (by decide) (by decide)), if_neg (d 6 1 (by decide) (by decide) (by decide)), if_neg (d 6 2 (by decide) (by decide) (by decide)), if_neg (d 6 3 (by decide) (by decide) (by decide)), if_neg (d 6 4 (by decide) (by decide) (by decide)), if_neg (d 6 5 (by decide) (by decide) (by decide)), if_pos rfl] <;> rfl
def fsV (fs : Nat → Addr) : List V := [.ref (fs 0), .ref (fs 1), .ref (fs 2), .ref (fs 3), .ref (fs 4), .ref (fs 5), .ref (fs 6)]
theorem fsV_at (fs : Nat → Addr) {k : Nat} (hk : k < 7) : (fsV fs)[k]? = some (.ref (fs k)) := by
  match k, hk with
  | 0, _ => rfl
  | 1, _ => rfl
  | 2, _ => rfl
  | 3, _ => rfl
  | 4, _ => rfl
  | 5, _ => rfl
  | 6, _ => rfl
def sp_answers (K : PySem.W.Frag) (tb : Addr) : Sp := fun vs H Q _ => ∃ (p : Addr) (l : List Int) (cs : List (List (List Int))), vs = [.ref p] ∧ SqL K H p (nV l) ∧ LamX.TabS H tb lamQ ∧ l.length ≤ 8000 ∧ PySi28.calls l = some cs ∧ cs.all Si28Neutral.asked1 = true ∧ (PySi28.answers l).length ≤ 10000000 ∧
  ∀ t H', H' t = some (.lst (nV (PySi28.answers l))) → Q (.ref t) H'
abbrev toldOf (s : St) (cs : List (List (List Int))) : List Int := PyFlat.told (PyFlat.played Si28Neutral.step s cs)
theorem told_cons {s : St} {cl : List (List Int)} {cs : List (List (List Int))} {q : Si28.Call} (h : Si28Neutral.callOf cl = some q) : toldOf s (cl :: cs) = (((ansL s q).length : Nat) : Int) :: ansL s q ++ toldOf (Si28.step s q).1 cs := by
  have e : Si28Neutral.step s cl = ((Si28.step s q).1, ansL s q) := by
    unfold Si28Neutral.step
    rw [h] <;> rfl
  show PyFlat.told ((Si28Neutral.step s cl).2 :: PyFlat.played Si28Neutral.step (Si28Neutral.step s cl).1 cs) = _
  rw [e] <;> rfl
def AnsW (K : PySem.W.Frag) (c : Cs) (p a r t : Addr) (l : List Int) (m : Nat) (σ : L2.St) (H' : Hp) : Prop := ∃ (i f : Nat) (cs : List (List (List Int))) (s : St) (out : List Int) (v4 v5 v6 v7 : Option V), σ = [some (.ref p), some (.ref a), some (.ref r), some (.ref t), v4, v5, v6, v7] ∧ SqL K (hide t H') p (nV l) ∧ TabC c H' ∧ ChAt c (hide t H') a s ∧ Wf s ∧ ReAt c H' r p i ∧ H' t = some (.lst (nV out)) ∧
  PyWide.calls f (l.drop i) = some cs ∧ cs.all Si28Neutral.asked1 = true ∧ out ++ toldOf s cs = PySi28.answers l ∧ i ≤ l.length ∧ m = l.length - i
theorem pure_answers (T : Txt K mg c) {fs : Nat → Addr} {cT : Addr} (hT : ∀ H, SqT K H cT (fsV fs)) (d : ∀ i j, i < 7 → j < 7 → i ≠ j → fs i ≠ fs j) {spC : Sp} (hC : spC = fun vs H Q _ => ∃ (p dx : Addr), vs = [V.ref p] ∧ H p = some (.ins c.ch dx []) ∧ RetM c p Si28.init H Q) (h : sp_answers K c.tb vs H Q E) :
    t_answers K c spC (sp_Reader c) (sp_at_end K c) (sp_take K c) (sp_take_list K c) (sp_take_lists K c) (S_calls c fs) cT { nx := fun _ H' => Q .non H', rt := Q } (start ["calls", "chart", "reader", "told", "call", "given", "lists", "answer"] vs) H := by
  obtain ⟨p, l, cs, rfl, hs, hTb, hl, hcs, hask, hlen, k⟩ := h
  subst hC
  intro a dx na nd ne
  refine ⟨a, dx, rfl, upd_same, fun H1 b1 hc1 _ => ⟨rfl, ?_⟩⟩
  have e1 : Ex H H1 := Same.made na nd b1
  obtain ⟨oa, ha1⟩ := hc1.known
  refine q_asgN (en_make (ea_cons (ev_var rfl) ea_nil) use_Reader) fun r H2 hr e2 ⟨dr, h2⟩ => ?_
  refine q_asgL (el_lst ea_nil (by decide)) fun t H3 ht e3 h3 => ?_
  have e13 := (e1.trans e2).trans e3
  have hr0 : H r = none := fresh_back e1 hr
  have ht0 : H t = none := fresh_back (e1.trans e2) ht
  refine q_while (AnsW K c p a r t l) (l.length - 0) ⟨0, l.length, cs, Si28.init, [], none, none, none, none, rfl, ex_l (fun b o hb => hide_of (ne_of_none hb ht0) (e13 b o hb)) hs, hTb.ext e13, (hc1.mono e2).mono (fun b o hb => hide_of (ne_of_none hb ht) (e3 b o hb)), wf_init, ⟨dr, e3 _ _ h2⟩, h3, hcs, hask, ?_, Nat.zero_le _, rfl⟩ ?_
  · show toldOf Si28.init cs = PySi28.answers l
    unfold PySi28.answers
    rw [hcs] <;> rfl
  rintro m σ' H' ⟨i, f, cs, s, out, v4, v5, v6, v7, rfl, y1, yT, y2, wf, y3, y4, y5, y6, y7, y8, rfl⟩
  have hsl : SqL K H' p (nV l) := ex_l hide_sub y1
  have y3' := y3
  obtain ⟨dxr, hor⟩ := y3
  refine ⟨_, et_not (et_B (ev_meth (ev_var rfl) hor m_re_at_end ea_nil (use_at_end y3' hsl))), fun hb H4 e4 => ?_, fun hb H4 e4 => ?_⟩
  · have hi : i < l.length := by
      rw [Bool.not_eq_true', decide_eq_false_iff_not] at hb
      omega
    refine ⟨fun σ2 H5 => ∃ m', m' < l.length - i ∧ AnsW K c p a r t l m' σ2 H5, fun σ2 H5 h => h, ?_⟩
    obtain ⟨z, t1, ed⟩ : ∃ z t1, l.drop i = z :: t1 := ⟨_, _, List.drop_eq_getElem_cons hi⟩
    obtain ⟨g1, g2, g3⟩ := drop_cons ed
    rw [ed] at y5
    obtain ⟨f', cl, u, cs', rfl, q1, q2, rfl⟩ := calls_cons y5
    obtain ⟨n, r', kk, t', rows, rfl, c2, c3, c4, rfl⟩ := call_some q1
    rw [List.all_cons, Bool.and_eq_true] at y6
    obtain ⟨u1, u2, u3, ju, u4, u5⟩ := rows_len _ _ _ _ c4
    have lr : r'.length ≤ 8000 := by
      rw [List.length_cons] at g3
      omega
    have lt : t'.length ≤ r'.length := by
      have := congrArg List.length c3
      rw [List.length_drop, List.length_cons] at this
      omega
    obtain ⟨kn, q, rfl, k7, cq, oq⟩ := asked_call y6.1 (by omega) fun x hx => by have := u2 x hx; omega
    -- the call's number
    have hr4 := e4 _ _ hor
    refine ⟨_, rfl, r, dxr, _, rfl, hr4, m_re_take, r, p, l, i, (kn : Int), rfl, ⟨dxr, hr4⟩, ex_l e4 hsl, g1, fun H5 x5 h5 => ⟨cT, fsV fs, (kn : Int), .ref (fs kn), rfl, rfl, hT H5, atI_nat (fsV_at fs k7), ?_⟩⟩
    have nt : t ≠ r := ne_of y4 hor lst_ne
    have hr4h := hide_of (t := t) (fun z => nt z.symm) hr4
    have hz5 : SqL K (hide t H5) p (nV l) := sql_but hr4h (hide_but x5) (ex_l (hide_ex e4) y1)
    have hs5 : SqL K H5 p (nV l) := ex_l hide_sub hz5
    have hT5 : TabC c H5 := tab_but (yT.ext e4) hr4 ins_nt ins_ne x5
    have hc5 := (y2.mono (hide_ex e4)).re (hide_of (fun z => nt z.symm) hr4) (hide_but x5)
    have ht5 := x5 _ _ (e4 _ _ y4) nt
    have h5' := h5
    obtain ⟨d5, ho5⟩ := h5
    -- its numbers
    obtain ⟨g4, g5, g6⟩ := drop_cons g2
    refine ⟨_, rfl, r, d5, _, rfl, ho5, m_re_take_list, r, p, l, i + 1, n, rfl, h5', hs5, g4, by omega, fun g H6 hg x6 h6 hg6 => ?_⟩
    have hz6 : SqL K (hide t H6) p (nV l) := sql_but (hide_of (t := t) (fun z => nt z.symm) ho5) (hide_but x6) hz5
    have hs6 : SqL K H6 p (nV l) := ex_l hide_sub hz6
    have hT6 : TabC c H6 := tab_but hT5 ho5 ins_nt ins_ne x6
    have hc6 := hc5.re (hide_of (fun z => nt z.symm) ho5) (hide_but x6)
    have ht6 := x6 _ _ ht5 nt
    have h6' := h6
    obtain ⟨d6, ho6⟩ := h6
    rw [show (l.drop (i + 1 + 1)).take n = r'.take n by rw [g5]] at hg6
    -- its lists
    have g7 : l.drop (i + 1 + 1 + n) = (kk : Int) :: t' := by
      rw [← c3, ← g5, List.drop_drop]
    obtain ⟨g8, g9, g10⟩ := drop_cons g7
    refine ⟨_, rfl, r, d6, _, rfl, ho6, m_re_take_lists, r, p, l, i + 1 + 1 + n, kk, rows, u, rfl, h6', hs6, g8, by rw [g9]; exact c4, by omega, fun q0 ps H7 hq x7 h7 hq7 hN => ?_⟩
    have hz7 : SqL K (hide t H7) p (nV l) := sql_but (hide_of (t := t) (fun z => nt z.symm) ho6) (hide_but x7) hz6
    have hT7 : TabC c H7 := tab_but hT6 ho6 ins_nt ins_ne x7
    have hc7 := hc6.re (hide_of (fun z => nt z.symm) ho6) (hide_but x7)
    have hc7' := hc7
    have ht7 := x7 _ _ ht6 nt
    have hg7 : H7 g = some (.lst (nV (r'.take n))) := x7 _ _ hg6 (ne_of hg6 ho6 lst_ne)
    -- the call
    obtain ⟨dc, prr, pll, ha7, _⟩ := hc7
    have ha7 := (hide_at ha7).2
    have nag : a ≠ g := fun z => lst_ne (Option.some.inj (hg7.symm.trans (by rw [← z]; exact ha7)))
    have naq : a ≠ q0 := fun z => lst_ne (Option.some.inj (hq7.symm.trans (by rw [← z]; exact ha7)))
    have nta : t ≠ a := ne_of ht7 ha7 lst_ne
    refine ⟨fs kn, sp_call c (OF kn), rfl, S_at_k d k7, _, rfl, _, rfl, _, rfl, a, g, q0, t, s, r'.take n, rows, q, rfl, hc7', ⟨_, ht7⟩, nta, hT7, wf, hg7, ⟨ps, hq7, hN⟩, nag, naq, oq, fun w H8 hw x8 hw8 hc8 hT8 => ?_⟩
    have nra : r ≠ a := by
      obtain ⟨d7, ho7⟩ := h7
      exact ne_of ho7 ha7 fun z => re_ne_ch z.symm
    have ht8 := x8 _ _ ht7 nta lst_nt
    have hr8 : ReAt c H8 r p (l.length - u.length) := by
      obtain ⟨d7, ho7⟩ := h7
      exact ⟨d7, x8 _ _ ho7 nra ins_nt⟩
    have nwt : w ≠ t := fun z => by
      rw [z] at hw
      obtain ⟨_, e⟩ := hw _ ht7
      cases e
    have hz8 : SqL K (hide t H8) p (nV l) := sql_butT (hide_of (fun z => nta z.symm) ha7) (fun b o hb n1 n2 => hide_of (hide_at hb).1 (x8 b o (hide_at hb).2 n1 n2)) hz7
    -- what is told
    have y7' := y7
    rw [told_cons cq] at y7
    have hsz : out.length + (1 + (ansL s q).length) ≤ 10000000 := by
      have := congrArg List.length y7
      simp only [List.length_append, List.length_cons] at this
      omega
    refine q_appB (v := .int (((ansL s q).length : Nat) : Int)) ht8 (ev_var rfl) (ev_is (ev_len (ev_var rfl) (sq_of hw8)) (by rw [nV_len])) (sz16l (by rw [nV_len]; omega)) fun H9 e9 => ?_
    have hw9 : (upd H9 t (.lst (nV out ++ [V.int (((ansL s q).length : Nat) : Int)]))) w = some (.lst (nV (ansL s q))) := by
      rw [upd_ne nwt]
      exact e9 _ _ hw8
    refine ⟨_, rfl, Or.inl ⟨rfl, _, sq_of upd_same⟩, _, rfl, t, w, _, _, rfl, rfl, upd_same, hw9, sz16 (by rw [List.length_append, nV_len, nV_len]; show out.length + 1 + _ ≤ _; omega), ?_⟩
    have bt : But t H8 (upd (upd H9 t (.lst (nV out ++ [V.int (((ansL s q).length : Nat) : Int)]))) t (.lst (nV out ++ [V.int (((ansL s q).length : Nat) : Int)] ++ nV (ansL s q)))) := ((But.ex e9).trans But.upd).trans But.upd
    have eu : l.length - (l.length - u.length) = u.length := by
      have : u.length ≤ l.length := by omega
      omega
    have ju2 : l.length - u.length = i + 1 + 1 + n + 1 + ju := by omega
    refine ⟨u.length, by omega, l.length - u.length, f', cs', (Si28.step s q).1, out ++ ((((ansL s q).length : Nat) : Int) :: ansL s q), _, _, _, _, rfl, ex_l (((hide_ex e9).trans hide_upd).trans hide_upd) hz8, tab_but hT8 ht8 lst_nt lst_nx bt, ?_, wf_step wf q, ?_, ?_, ?_, y6.2, ?_, by omega, eu.symm⟩
    · exact hc8.mono (((hide_ex e9).trans hide_upd).trans hide_upd)
    · obtain ⟨d8, ho8⟩ := hr8
      exact ⟨d8, bt _ _ ho8 (fun z => nt z.symm)⟩
    · rw [upd_same]
      unfold nV
      rw [List.map_append, List.map_cons, List.append_assoc] <;> rfl
    · rw [ju2, ← q2, u4, ← g9, List.drop_drop]
    · rw [← y7, List.append_assoc]
  · rw [Bool.not_eq_false', decide_eq_true_eq] at hb
    rw [List.drop_of_length_le hb] at y5
    have e0 := calls_nil y5
    subst e0
    have y7 : out ++ [] = PySi28.answers l := y7
    rw [List.append_nil] at y7
    subst y7
    exact s_ret (ev_var rfl) fun H5 e5 => k t H5 (e5 _ _ (e4 _ _ y4))
end
end DC
namespace DC
open PySem PySem.Spec PyProof.Rows L2 Evl
/-! shares_of: level 1 -/
abbrev s_shares_of : Stmt := top 32
theorem sc_shares_of : FnScope ["parts", "whole", "total", "shares", "by_loss", "column", "losses", "part"] ["parts", "whole"] (defScope s_shares_of) := ⟨rfl, rfl, rfl, by decide +kernel, rfl, by decide +kernel, by decide +kernel⟩
def t_shares_of (K : PySem.W.Frag) (c : Cs) : TS :=
    (tSeq (tAsg (tCB (rSum K) (tCons (tVar 0) tNil)) (gName 2))
    (tSeq (tAsg (tLc (iList K (tVar 0)) (gName 7) tYes (tOp rDiv (tOp rMul (tVar 7) (tVar 1)) (tVar 2)) [7]) (gName 3))
    (tSeq (tAsg (tLc (iList K (tVar 0)) (gName 7) tYes (tOp rMod (tOp rMul (tVar 7) (tVar 1)) (tVar 2)) [7]) (gName 6))
    (tSeq (tAsg (tSortL c.tb lamQ 6 (tCB (rLenS K) (tCons (tVar 0) tNil))) (gName 4))
    (tSeq (tFor (iList K (tSl (rSlL K) (tVar 4) tNoPart (tPart (tOp rSub (tVar 1) (tCB (rSum K) (tCons (tVar 3) tNil)))))) (gName 5) (tAsg (tOp rAdd (tOp (rIxL K) (tVar 3) (tVar 5)) (tC (.int 1))) (gSub (tVar 3) (tVar 5) rSetL)))
    (tRet (tVar 3)))))))
theorem sh_cell : (defScope s_shares_of).names.lookup ("losses" : Str) = some .cell := by decide +kernel
theorem der_shares_of {P : Program} {w : World} {K : PySem.W.Frag} {mg : Str → Option Value} {base : Heap} {c : Cs} (T : Txt K mg c)
    {f : Addr} {cdv : Value} {A : Around} {outer : List Env} {s : Shared} {H : Hp} {E : XK}  {cd : Addr} (TB : LamX.TabB base mg cd c.tb) (hcode : cdv = .ref cd) (hr : Room 0 (A.deeper (envOfC "shares_of" (defScope s_shares_of) s.heap.objs.size f cdv))) :
    PSs (cxOf CX0 P w K mg base ["parts", "whole", "total", "shares", "by_loss", "column", "losses", "part"] "shares_of" (defScope s_shares_of) f cdv A outer s H E).nox (defBody s_shares_of) (t_shares_of K c) :=
    (pss_cons (ps_set (i := 2) sc_shares_of.nd rfl (Or.inr rfl) (pe_callB (cr_sum rfl) (by rfl) T.n_sum b_sum (pa_cons (pv 0) pa_nil)))
      (pss_cons (ps_setLc (i := 3) (own := [("part", 7)]) (g := gName 7) (tt := tYes) (by rfl) sc_shares_of.nd rfl rfl (sw_true rfl rfl rfl (by decide +kernel)) (pi_list (pv 0)) (blkOk_by (own := [("part", 7)]) (N := ["parts", "whole", "total", "shares", "by_loss", "column", "losses", "part"]) (sc := defScope s_shares_of) (by decide +kernel)) (fun _ _ _ _ _ => pg_name (i := 7) sc_shares_of.nd rfl (Or.inl rfl)) (fun _ _ _ _ _ => pts_nil) (fun _ _ _ _ _ => (pe_op op_fdivW (pe_op op_mulW (pv 7) (pv 1)) (pv 2))))
      (pss_cons (ps_set (i := 6) sc_shares_of.nd rfl (Or.inr rfl) (pe_lc (own := [("part", 7)]) (g := gName 7) (tt := tYes) (by rfl) sc_shares_of.nd (pi_list (pv 0)) (blkOk_by (own := [("part", 7)]) (N := ["parts", "whole", "total", "shares", "by_loss", "column", "losses", "part"]) (sc := defScope s_shares_of) (by decide +kernel)) (fun _ _ _ _ _ => pg_name (i := 7) sc_shares_of.nd rfl (Or.inl rfl)) (fun _ _ _ _ _ => pts_nil) (fun _ _ _ _ _ => (pe_op op_modN (pe_op op_mulW (pv 7) (pv 1)) (pv 2)))))
      (pss_cons (ps_set (i := 4) sc_shares_of.nd rfl (Or.inl rfl) (pe_sortQ (cd := cd) (i := 6) (a := "losses") (b := "column") rfl TB hcode (by rfl) T.n_sorted (by rfl) T.n_range rfl sh_cell rfl hr rfl lam_sc rfl (fun _ _ _ _ _ => lam_bind _ _ _ _ _ _ _ _) (by decide) (by decide) (by decide) (pe_callB call_len_seq (by rfl) T.n_len b_len (pa_cons (pv 0) pa_nil))))
      (pss_cons (ps_for PassesOwn.never rfl (pi_list (pe_slice sl_list (pv 4) po_none (po_some (pe_op op_sub (pv 1) (pe_callB (cr_sum rfl) (by rfl) T.n_sum b_sum (pa_cons (pv 3) pa_nil)))))) (pg_name (i := 5) sc_shares_of.nd rfl (Or.inl rfl)) (pss_one (ps_asg (pe_op op_add (pe_ix ix_list (pv 3) (pv 5) (fun _ _ => rfl)) pe_int) (pg_sub (pv 3) (pv 5) set_list))))
      (pss_one (ps_ret (pv 3))))))))
end DC
namespace DC
open PySem PySem.Spec PyProof.Rows L2 Evl
section
variable {K : PySem.W.Frag} {mg : Str → Option Value} {c : Cs} {vs : List V} {H : Hp} {Q : VK} {E : XK}
theorem nV_map (f : Int → Int) (l : List Int) : nV (l.map f) = l.map fun z => V.int (f z) := by
  unfold nV
  rw [List.map_map] <;> rfl
theorem nV_set (l : List Int) (j : Nat) (z : Int) : (nV l).set j (.int z) = nV (l.set j z) := by
  unfold nV
  rw [List.map_set]
theorem take_nodup {l : List Nat} {m i j : Nat} (h : l.Nodup) (hj : (l.take m)[i]? = some j) : j ∉ (l.take m).take i := by
  have hn : (l.take m).Nodup := h.sublist (List.take_sublist m l)
  intro hm
  obtain ⟨k, hk, e⟩ := List.getElem_of_mem hm
  rw [List.length_take] at hk
  have hi := (List.getElem?_eq_some_iff.mp hj)
  obtain ⟨hi1, hi2⟩ := hi
  rw [List.getElem_take] at e
  have := (List.getElem_inj hn).mp (e.trans hi2.symm)
  omega
theorem sortO_perm (n : Nat) (ls : List Int) : (sortO n ls).Perm (List.range n) := List.mergeSort_perm _ _
theorem pure_shares_of (T : Txt K mg c) (h : sp_shares_of c vs H Q E) : t_shares_of K c { nx := fun _ H' => Q .non H', rt := Q } (start ["parts", "whole", "total", "shares", "by_loss", "column", "losses", "part"] vs) H := by
  obtain ⟨p, ps, w, rfl, hp, ok, hs, w1, w2, hT, k⟩ := h
  have n512 := ok.n
  have hsum := ok.sum ps.length
  rw [List.take_length] at hsum
  have bT : ps.sum.natAbs < 2 ^ 140 := by omega
  have bw : ((w : Int)).natAbs < 2 ^ 20 := by omega
  have bp : ∀ z ∈ ps, z.natAbs < 2 ^ 130 := fun z hz => by have := ok.nn z hz; omega
  refine q_asg (ev_sum (ev_var rfl) hp) fun H1 e1 => ?_
  refine q_asgL (xs := nV (cutM ps w)) (el_is (el_lcF V.int ps (fun _ => true) (fun z => V.int (z * w / ps.sum)) (ev_var rfl) (e1 _ _ hp) (by omega) (fun x => rfl) (fun x H2 _ _ => et_yes) fun x H2 hx _ _ => ev_div (ev_mul (ev_var rfl) (ev_var rfl) (wide_mul (bp x hx) bw (by decide) (by decide) (by decide))) (ev_var rfl) (wide_div hs bT (by decide) (by decide))) (by rw [List.filter_eq_self.mpr fun _ _ => rfl]; exact (nV_map _ ps).symm)) fun sh H2 hsh e2 h2 => ?_
  have e12 := e1.trans e2
  refine q_asgL (xs := nV (lostM ps w)) (el_is (el_lcF V.int ps (fun _ => true) (fun z => V.int (z * w % ps.sum)) (ev_var rfl) (e12 _ _ hp) (by omega) (fun x => rfl) (fun x H3 _ _ => et_yes) fun x H3 hx _ _ => ev_is (ev_mod (ev_mul (ev_var rfl) (ev_var rfl) (wide_mul (bp x hx) bw (by decide) (by decide) (by decide))) (ev_var rfl) (by omega)) (int_eq (Int.fmod_eq_emod_of_nonneg _ (by omega)))) (by rw [List.filter_eq_self.mpr fun _ _ => rfl]; exact (nV_map _ ps).symm)) fun lo H3 hlo e3 h3 => ?_
  have e13 := e12.trans e3
  have hsh0 : H sh = none := fresh_back e1 hsh
  have lcut : (cutM ps w).length = ps.length := List.length_map _
  have llost : (lostM ps w).length = ps.length := List.length_map _
  have hT3 : TabC c H3 := hT.ext e13
  -- sorted(range(len(parts)), key=..)
  refine ⟨_, rfl, p, _, rfl, Or.inl (sq_of (e13 _ _ hp)), ((ps.length : Nat) : Int), by rw [nV_len], fun r hr => ⟨r, ps.length, lo, lostM ps w, H3, rfl, hr, rfl, by omega, rfl, h3, by rw [llost]; exact Nat.le_refl _, by rw [llost]; omega, hT3, fun by_ H4 fr eN hT4 hby => ?_⟩⟩
  have hsh3 : H3 sh = some (.lst (nV (cutM ps w))) := e3 _ _ h2
  have hsh4 : H4 sh = some (.lst (nV (cutM ps w))) := eN sh _ hsh3 lst_nt
  have x4 : LamX.ExtN H H4 := fun b o hb hn => eN b o (e13 _ _ hb) hn
  have cw := cut_whole (w := w) (fun x hx => (ok.nn x hx).1) hs
  have cw : (cutM ps w).sum ≤ w := cw
  have nby : by_ ≠ sh := fun z => by
    obtain ⟨_, e⟩ := fr _ (by rw [z]; exact hsh3)
    cases e
  obtain ⟨m, hm⟩ : ∃ m : Nat, (m : Int) = (w : Int) - (cutM ps w).sum := ⟨((w : Int) - (cutM ps w).sum).toNat, by omega⟩
  have em : ((w : Int) - (cutM ps w).sum).toNat = m := by omega
  have oT : (sortO ps.length (lostM ps w)).length = ps.length := by rw [(sortO_perm _ _).length_eq, List.length_range]
  refine q_forNLn (xs := ((sortO ps.length (lostM ps w)).take m).map fun (k : Nat) => V.int (k : Int)) (el_is (el_sl (ev_var rfl) eo_none (eo_some (ev_is (ev_sub (ev_var rfl) (ev_sum (ev_var rfl) hsh4)) (int_eq hm.symm))) (sq_of hby)) (by rw [cutV_to, List.map_take]))
    (fun d i σ H' => (∃ v, σ = [some (.ref p), some (.int (w : Int)), some (.int ps.sum), some (.ref sh), some (.ref by_), v, some (.ref lo), none]) ∧ LamX.ExtN H H' ∧ TabC c H' ∧ d ≠ sh ∧ H' d = some (.lst (((sortO ps.length (lostM ps w)).take m).map fun (k : Nat) => V.int (k : Int))) ∧ H' sh = some (.lst (nV (incr (cutM ps w) (((sortO ps.length (lostM ps w)).take m).take i))))) ?_ ?_ ?_ ?_
  · intro d H5 hd e5 hd5
    refine ⟨⟨_, rfl⟩, fun b o hb hn => e5 _ _ (x4 b o hb hn), hT4.ext e5, fun z => (by rw [z, hsh4] at hd; cases hd), hd5, ?_⟩
    rw [List.take_zero, incr_nil]
    exact e5 _ _ hsh4
  · rintro d i σ' H' _ ⟨_, _, _, _, hd, _⟩
    exact sq_of hd
  · rintro d i x σ' H' hx ⟨⟨v, rfl⟩, y1, y2, y3, y4, y5⟩
    obtain ⟨j, hj, rfl⟩ : ∃ j : Nat, ((sortO ps.length (lostM ps w)).take m)[i]? = some j ∧ x = .int (j : Int) := by
      rw [List.getElem?_map] at hx
      cases e : ((sortO ps.length (lostM ps w)).take m)[i]? with
      | none => rw [e] at hx; cases hx
      | some j => rw [e] at hx; exact ⟨j, rfl, (Option.some.inj hx).symm⟩
    have nd : (sortO ps.length (lostM ps w)).Nodup := (sortO_perm _ _).nodup_iff.mpr List.nodup_range
    have hjn := take_nodup nd hj
    have hjl : j < ps.length := List.mem_range.mp ((sortO_perm _ _).mem_iff.mp (List.mem_of_mem_take (List.mem_of_getElem? hj)))
    obtain ⟨z, hz⟩ : ∃ z, (cutM ps w)[j]? = some z := ⟨_, List.getElem?_eq_getElem (by rw [lcut]; exact hjl)⟩
    have hat := incr_at hz hjn
    refine s_setL y5 (ev_add (ev_ixL (ev_var rfl) (ev_var rfl) (sq_of y5) (atI_nat (nV_get hat))) ev_c) (ev_var rfl) (ev_var rfl) (by rw [nV_len, incr_len, lcut]; exact hjl) fun H6 e6 => ⟨⟨_, rfl⟩, fun b o hb hn => ?_, ?_, y3, ?_, ?_⟩
    · rw [upd_ne (ne_of_none hb hsh0)]
      exact e6 _ _ (y1 b o hb hn)
    · exact tab_but (y2.ext e6) (e6 _ _ y5) lst_nt lst_nx But.upd
    · rw [upd_ne y3]
      exact e6 _ _ y4
    · rw [upd_same, nV_set, incr_more hz hjn, ← take_more hj]
  · rintro d σ' H' ⟨⟨v, rfl⟩, y1, y2, y3, y4, y5⟩
    rw [List.length_map, List.take_length, ← em] at y5
    exact s_ret (ev_var rfl) fun H7 e7 => k sh H7 (frt_of hsh0) (fun b o hb hn => e7 _ _ (y1 b o hb hn)) (y2.ext e7) (e7 _ _ y5)
end
end DC
/-! # F. Each def keeps its promise -/
namespace DC
open PySem PySem.Spec PyProof.Rows L2 Evl
def sp_Chart (c : Cs) : Sp := fun vs H Q _ => ∃ (p dx : Addr), vs = [V.ref p] ∧ H p = some (.ins c.ch dx []) ∧ RetM c p Si28.init H Q
section
variable {P : Program} {w : World} {K : PySem.W.Frag} {mg : Str → Option Value} {base : Heap} {c : Cs}
theorem ok_Axis_init (T : Txt K mg c) {f : Addr} {fd : FuncData} (F : Fun K "__init__" "Axis.__init__" s_Axis_init f fd) : FnOk P w K mg base CX0 1 f fd ["self", "start", "step", "steps"] (sp_Axis c) :=
  F.ok sc_Axis_init (fun vs H Q E h => by obtain ⟨_, _, _, _, _, rfl, _⟩ := h; rfl) fun cdv A outer s H vs Q E hr h => ⟨_, der_Axis_init T hr, pure_Axis_init T h⟩
theorem ok_Axis_dot_of (T : Txt K mg c) {f : Addr} {fd : FuncData} (F : Fun K "dot_of" "Axis.dot_of" s_Axis_dot_of f fd) : FnOk P w K mg base CX0 1 f fd ["self", "number", "dots"] (sp_dot_of c) :=
  F.ok sc_Axis_dot_of (fun vs H Q E h => by obtain ⟨_, _, _, _, rfl, _⟩ := h; rfl) fun cdv A outer s H vs Q E hr h => ⟨_, der_Axis_dot_of T hr, pure_Axis_dot_of T h⟩
theorem ok_Axis_step_dots (T : Txt K mg c) {f : Addr} {fd : FuncData} (F : Fun K "step_dots" "Axis.step_dots" s_Axis_step_dots f fd)
    (c_Axis_dot_of : C8.Met P w K mg base 1 c.ax "dot_of" (sp_dot_of c) []) : FnOk P w K mg base CX0 2 f fd ["self", "dots"] (sp_step_dots c) :=
  F.ok sc_Axis_step_dots (fun vs H Q E h => by obtain ⟨_, _, _, rfl, _⟩ := h; rfl) fun cdv A outer s H vs Q E hr h => ⟨_, der_Axis_step_dots T c_Axis_dot_of hr, pure_Axis_step_dots T h⟩
theorem ok_good_steps (T : Txt K mg c) {f : Addr} {fd : FuncData} (F : Fun K "good_steps" "good_steps" s_good_steps f fd) : FnOk P w K mg base CX0 1 f fd [] (sp_good_steps) :=
  F.ok sc_good_steps (fun vs H Q E h => by obtain ⟨rfl, _⟩ := h; rfl) fun cdv A outer s H vs Q E hr h => ⟨_, der_good_steps T hr, pure_good_steps h⟩
theorem ok_steps_between (T : Txt K mg c) {f : Addr} {fd : FuncData} (F : Fun K "steps_between" "steps_between" s_steps_between f fd) : FnOk P w K mg base CX0 1 f fd ["low", "high", "step"] (sp_between) :=
  F.ok sc_steps_between (fun vs H Q E h => by obtain ⟨_, _, _, rfl, _⟩ := h; rfl) fun cdv A outer s H vs Q E hr h => ⟨_, der_steps_between T hr, pure_steps_between h⟩
theorem ok_axis_of (T : Txt K mg c) {f : Addr} {fd : FuncData} (F : Fun K "axis_of" "axis_of" s_axis_of f fd)
    (c_good_steps : C8.Cal P w K mg base 1 "good_steps" (sp_good_steps) [])
    (c_steps_between : C8.Cal P w K mg base 1 "steps_between" (sp_between) [])
    (c_Axis : C8.Mak P w K mg base 1 "Axis" c.ax (sp_Axis c) []) : FnOk P w K mg base CX0 3 f fd ["numbers", "most"] (sp_axis_of c) :=
  F.ok sc_axis_of (fun vs H Q E h => by obtain ⟨_, _, _, rfl, _⟩ := h; rfl) fun cdv A outer s H vs Q E hr h => ⟨_, der_axis_of T c_good_steps c_steps_between c_Axis hr, pure_axis_of h⟩
theorem ok_Look_init (T : Txt K mg c) {f : Addr} {fd : FuncData} (F : Fun K "__init__" "Look.__init__" s_Look_init f fd) : FnOk P w K mg base CX0 1 f fd ["self", "kind", "wide", "high", "steps"] (sp_Look c) :=
  F.ok sc_Look_init (fun vs H Q E h => by obtain ⟨_, _, _, _, _, _, rfl, _⟩ := h; rfl) fun cdv A outer s H vs Q E hr h => ⟨_, der_Look_init T hr, pure_Look_init T h⟩
theorem ok_Look_is_allowed (T : Txt K mg c) {f : Addr} {fd : FuncData} (F : Fun K "is_allowed" "Look.is_allowed" s_Look_is_allowed f fd) : FnOk P w K mg base CX0 1 f fd ["self"] (sp_allowed c) :=
  F.ok sc_Look_is_allowed (fun vs H Q E h => by obtain ⟨_, _, rfl, _⟩ := h; rfl) fun cdv A outer s H vs Q E hr h => ⟨_, der_Look_is_allowed T hr, pure_Look_is_allowed T h⟩
theorem ok_Look_band_of (T : Txt K mg c) {f : Addr} {fd : FuncData} (F : Fun K "band_of" "Look.band_of" s_Look_band_of f fd) : FnOk P w K mg base CX0 1 f fd ["self", "column", "columns"] (sp_band c) :=
  F.ok sc_Look_band_of (fun vs H Q E h => by obtain ⟨_, _, _, _, rfl, _⟩ := h; rfl) fun cdv A outer s H vs Q E hr h => ⟨_, der_Look_band_of T hr, pure_Look_band_of T h⟩
theorem ok_Chart_init (T : Txt K mg c) {f : Addr} {fd : FuncData} (F : Fun K "__init__" "Chart.__init__" s_Chart_init f fd)
    (c_Chart_begin_anew : C8.Met P w K mg base 3 c.ch "begin_anew" (sp_begin c) []) : FnOk P w K mg base CX0 4 f fd ["self"] (sp_Chart c) :=
  F.ok sc_Chart_init (fun vs H Q E h => by obtain ⟨_, _, rfl, _⟩ := h; rfl) fun cdv A outer s H vs Q E hr h => ⟨_, der_Chart_init T c_Chart_begin_anew hr, pure_Chart_init h⟩
theorem ok_Chart_begin_anew (T : Txt K mg c) {f : Addr} {fd : FuncData} (F : Fun K "begin_anew" "Chart.begin_anew" s_Chart_begin_anew f fd)
    (c_Look : C8.Mak P w K mg base 1 "Look" c.lk (sp_Look c) []) : FnOk P w K mg base CX0 3 f fd ["self"] (sp_begin c) :=
  F.ok sc_Chart_begin_anew (fun vs H Q E h => by obtain ⟨_, _, _, rfl, _⟩ := h; rfl) fun cdv A outer s H vs Q E hr h => ⟨_, der_Chart_begin_anew T c_Look hr, pure_Chart_begin_anew T h⟩
theorem ok_Chart_columns (T : Txt K mg c) {f : Addr} {fd : FuncData} (F : Fun K "columns" "Chart.columns" s_Chart_columns f fd) : FnOk P w K mg base CX0 1 f fd ["self"] (sp_columns c) :=
  F.ok sc_Chart_columns (fun vs H Q E h => by obtain ⟨_, _, _, rfl, _⟩ := h; rfl) fun cdv A outer s H vs Q E hr h => ⟨_, der_Chart_columns T hr, pure_Chart_columns T h⟩
theorem ok_Chart_number_at (T : Txt K mg c) {f : Addr} {fd : FuncData} (F : Fun K "number_at" "Chart.number_at" s_Chart_number_at f fd)
    (c_Chart_columns : C8.Met P w K mg base 1 c.ch "columns" (sp_columns c) []) : FnOk P w K mg base CX0 2 f fd ["self", "row", "column"] (sp_number_at c) :=
  F.ok sc_Chart_number_at (fun vs H Q E h => by obtain ⟨_, _, _, _, _, rfl, _⟩ := h; rfl) fun cdv A outer s H vs Q E hr h => ⟨_, der_Chart_number_at T c_Chart_columns hr, pure_Chart_number_at T h⟩
theorem ok_Chart_upright_axis (T : Txt K mg c) {f : Addr} {fd : FuncData} (F : Fun K "upright_axis" "Chart.upright_axis" s_Chart_upright_axis f fd)
    (c_axis_of : C8.Cal P w K mg base 3 "axis_of" (sp_axis_of c) [])
    (c_upright_numbers : C8.Cal P w K mg base 3 "upright_numbers" (sp_upright_numbers) []) : FnOk P w K mg base CX0 4 f fd ["self"] (sp_axis false c) :=
  F.ok sc_Chart_upright_axis (fun vs H Q E h => by obtain ⟨_, _, _, rfl, _⟩ := h; rfl) fun cdv A outer s H vs Q E hr h => ⟨_, der_Chart_upright_axis T c_axis_of c_upright_numbers hr, pure_upright_axis T h⟩
theorem ok_Chart_along_axis (T : Txt K mg c) {f : Addr} {fd : FuncData} (F : Fun K "along_axis" "Chart.along_axis" s_Chart_along_axis f fd)
    (c_axis_of : C8.Cal P w K mg base 3 "axis_of" (sp_axis_of c) [])
    (c_numbers_there : C8.Cal P w K mg base 1 "numbers_there" (sp_there) []) : FnOk P w K mg base CX0 4 f fd ["self"] (sp_axis true c) :=
  F.ok sc_Chart_along_axis (fun vs H Q E h => by obtain ⟨_, _, _, rfl, _⟩ := h; rfl) fun cdv A outer s H vs Q E hr h => ⟨_, der_Chart_along_axis T c_axis_of c_numbers_there hr, pure_along_axis T h⟩
theorem ok_are_rows (T : Txt K mg c) {f : Addr} {fd : FuncData} (F : Fun K "are_rows" "are_rows" s_are_rows f fd)
    (c_numbers_there : C8.Cal P w K mg base 1 "numbers_there" (sp_there) []) : FnOk P w K mg base CX0 2 f fd ["length", "rows"] (sp_are_rows) :=
  F.ok sc_are_rows (fun vs H Q E h => by obtain ⟨_, _, _, rfl, _⟩ := h; rfl) fun cdv A outer s H vs Q E hr h => ⟨_, der_are_rows T c_numbers_there hr, pure_are_rows h⟩
theorem ok_numbers_there (T : Txt K mg c) {f : Addr} {fd : FuncData} (F : Fun K "numbers_there" "numbers_there" s_numbers_there f fd) : FnOk P w K mg base CX0 1 f fd ["row"] (sp_there) :=
  F.ok sc_numbers_there (fun vs H Q E h => by obtain ⟨_, _, rfl, _⟩ := h; rfl) fun cdv A outer s H vs Q E hr h => ⟨_, der_numbers_there T hr, pure_numbers_there h⟩
theorem ok_all_numbers (T : Txt K mg c) {f : Addr} {fd : FuncData} (F : Fun K "all_numbers" "all_numbers" s_all_numbers f fd)
    (c_numbers_there : C8.Cal P w K mg base 1 "numbers_there" (sp_there) []) : FnOk P w K mg base CX0 2 f fd ["rows"] (sp_all_numbers) :=
  F.ok sc_all_numbers (fun vs H Q E h => by obtain ⟨_, _, rfl, _⟩ := h; rfl) fun cdv A outer s H vs Q E hr h => ⟨_, der_all_numbers T c_numbers_there hr, pure_all_numbers h⟩
theorem ok_column_sums (T : Txt K mg c) {f : Addr} {fd : FuncData} (F : Fun K "column_sums" "column_sums" s_column_sums f fd)
    (c_numbers_there : C8.Cal P w K mg base 1 "numbers_there" (sp_there) []) : FnOk P w K mg base CX0 2 f fd ["rows"] (sp_sums) :=
  F.ok sc_column_sums (fun vs H Q E h => by obtain ⟨_, _, _, rfl, _⟩ := h; rfl) fun cdv A outer s H vs Q E hr h => ⟨_, der_column_sums T c_numbers_there hr, pure_column_sums h⟩
theorem ok_upright_numbers (T : Txt K mg c) {f : Addr} {fd : FuncData} (F : Fun K "upright_numbers" "upright_numbers" s_upright_numbers f fd)
    (c_all_numbers : C8.Cal P w K mg base 2 "all_numbers" (sp_all_numbers) [])
    (c_column_sums : C8.Cal P w K mg base 2 "column_sums" (sp_sums) []) : FnOk P w K mg base CX0 3 f fd ["kind", "rows"] (sp_upright_numbers) :=
  F.ok sc_upright_numbers (fun vs H Q E h => by obtain ⟨_, _, rfl, _⟩ := h; rfl) fun cdv A outer s H vs Q E hr h => ⟨_, der_upright_numbers T c_all_numbers c_column_sums hr, pure_upright_numbers h⟩
theorem ok_Bars_init (T : Txt K mg c) {f : Addr} {fd : FuncData} (F : Fun K "__init__" "Bars.__init__" s_Bars_init f fd)
    (c_Chart_upright_axis : C8.Met P w K mg base 4 c.ch "upright_axis" (sp_axis false c) []) : FnOk P w K mg base CX0 5 f fd ["self", "chart"] (sp_Bars c) :=
  F.ok sc_Bars_init (fun vs H Q E h => by obtain ⟨_, _, _, _, rfl, _⟩ := h; rfl) fun cdv A outer s H vs Q E hr h => ⟨_, der_Bars_init T c_Chart_upright_axis hr, pure_Bars_init T h⟩
theorem ok_Bars_place_of (T : Txt K mg c) {f : Addr} {fd : FuncData} (F : Fun K "place_of" "Bars.place_of" s_Bars_place_of f fd)
    (c_Chart_number_at : C8.Met P w K mg base 2 c.ch "number_at" (sp_number_at c) [])
    (c_Bars_sides_of : C8.Met P w K mg base 2 c.ba "sides_of" (sp_sides c) [])
    (c_Bars_ends_of : C8.Met P w K mg base 4 c.ba "ends_of" (sp_ends c) []) : FnOk P w K mg base CX0 5 f fd ["self", "row", "column"] (sp_bar_place c) :=
  F.ok sc_Bars_place_of (fun vs H Q E h => by obtain ⟨_, _, _, _, rfl, _⟩ := h; rfl) fun cdv A outer s H vs Q E hr h => ⟨_, der_Bars_place_of T c_Chart_number_at c_Bars_sides_of c_Bars_ends_of hr, pure_Bars_place_of T h⟩
theorem ok_Bars_one_at (T : Txt K mg c) {f : Addr} {fd : FuncData} (F : Fun K "one_at" "Bars.one_at" s_Bars_one_at f fd)
    (c_Chart_columns : C8.Met P w K mg base 1 c.ch "columns" (sp_columns c) [])
    (c_Look_band_of : C8.Met P w K mg base 1 c.lk "band_of" (sp_band c) [])
    (c_Bars_one_within : C8.Met P w K mg base 6 c.ba "one_within" (sp_bar_within c) []) : FnOk P w K mg base CX0 7 f fd ["self", "x", "y"] (sp_bar_at c) :=
  F.ok sc_Bars_one_at (fun vs H Q E h => by obtain ⟨_, _, _, _, rfl, _⟩ := h; rfl) fun cdv A outer s H vs Q E hr h => ⟨_, der_Bars_one_at T c_Chart_columns c_Look_band_of c_Bars_one_within hr, pure_Bars_one_at T h⟩
theorem ok_Bars_one_within (T : Txt K mg c) {f : Addr} {fd : FuncData} (F : Fun K "one_within" "Bars.one_within" s_Bars_one_within f fd)
    (c_Bars_place_of : C8.Met P w K mg base 5 c.ba "place_of" (sp_bar_place c) []) : FnOk P w K mg base CX0 6 f fd ["self", "column", "x", "y"] (sp_bar_within c) :=
  F.ok sc_Bars_one_within (fun vs H Q E h => by obtain ⟨_, _, _, _, _, rfl, _⟩ := h; rfl) fun cdv A outer s H vs Q E hr h => ⟨_, der_Bars_one_within T c_Bars_place_of hr, pure_Bars_one_within T h⟩
theorem ok_Bars_sides_of (T : Txt K mg c) {f : Addr} {fd : FuncData} (F : Fun K "sides_of" "Bars.sides_of" s_Bars_sides_of f fd)
    (c_Look_band_of : C8.Met P w K mg base 1 c.lk "band_of" (sp_band c) [])
    (c_Chart_columns : C8.Met P w K mg base 1 c.ch "columns" (sp_columns c) []) : FnOk P w K mg base CX0 2 f fd ["self", "row", "column"] (sp_sides c) :=
  F.ok sc_Bars_sides_of (fun vs H Q E h => by obtain ⟨_, _, _, _, _, rfl, _⟩ := h; rfl) fun cdv A outer s H vs Q E hr h => ⟨_, der_Bars_sides_of T c_Look_band_of c_Chart_columns hr, pure_Bars_sides_of T h⟩
theorem ok_Bars_ends_of (T : Txt K mg c) {f : Addr} {fd : FuncData} (F : Fun K "ends_of" "Bars.ends_of" s_Bars_ends_of f fd)
    (c_Bars_base_of : C8.Met P w K mg base 3 c.ba "base_of" (sp_base c) [])
    (c_Chart_number_at : C8.Met P w K mg base 2 c.ch "number_at" (sp_number_at c) [])
    (c_Axis_dot_of : C8.Met P w K mg base 1 c.ax "dot_of" (sp_dot_of c) []) : FnOk P w K mg base CX0 4 f fd ["self", "row", "column"] (sp_ends c) :=
  F.ok sc_Bars_ends_of (fun vs H Q E h => by obtain ⟨_, _, _, _, _, rfl, _⟩ := h; rfl) fun cdv A outer s H vs Q E hr h => ⟨_, der_Bars_ends_of T c_Bars_base_of c_Chart_number_at c_Axis_dot_of hr, pure_Bars_ends_of T h⟩
theorem ok_Bars_base_of (T : Txt K mg c) {f : Addr} {fd : FuncData} (F : Fun K "base_of" "Bars.base_of" s_Bars_base_of f fd)
    (c_Chart_number_at : C8.Met P w K mg base 2 c.ch "number_at" (sp_number_at c) [])
    (c_numbers_there : C8.Cal P w K mg base 1 "numbers_there" (sp_there) []) : FnOk P w K mg base CX0 3 f fd ["self", "row", "column"] (sp_base c) :=
  F.ok sc_Bars_base_of (fun vs H Q E h => by obtain ⟨_, _, _, _, _, rfl, _⟩ := h; rfl) fun cdv A outer s H vs Q E hr h => ⟨_, der_Bars_base_of T c_Chart_number_at c_numbers_there hr, pure_Bars_base_of T h⟩
theorem ok_Points_init (T : Txt K mg c) {f : Addr} {fd : FuncData} (F : Fun K "__init__" "Points.__init__" s_Points_init f fd)
    (c_Chart_upright_axis : C8.Met P w K mg base 4 c.ch "upright_axis" (sp_axis false c) [])
    (c_column_dots : C8.Cal P w K mg base 5 "column_dots" (sp_column_dots c) []) : FnOk P w K mg base CX0 6 f fd ["self", "chart"] (sp_Points c) :=
  F.ok sc_Points_init (fun vs H Q E h => by obtain ⟨_, _, _, _, rfl, _⟩ := h; rfl) fun cdv A outer s H vs Q E hr h => ⟨_, der_Points_init T c_Chart_upright_axis c_column_dots hr, pure_Points_init T h⟩
theorem ok_Points_place_of (T : Txt K mg c) {f : Addr} {fd : FuncData} (F : Fun K "place_of" "Points.place_of" s_Points_place_of f fd)
    (c_Chart_number_at : C8.Met P w K mg base 2 c.ch "number_at" (sp_number_at c) [])
    (c_Axis_dot_of : C8.Met P w K mg base 1 c.ax "dot_of" (sp_dot_of c) []) : FnOk P w K mg base CX0 3 f fd ["self", "row", "column"] (sp_point_place c) :=
  F.ok sc_Points_place_of (fun vs H Q E h => by obtain ⟨_, _, _, _, rfl, _⟩ := h; rfl) fun cdv A outer s H vs Q E hr h => ⟨_, der_Points_place_of T c_Chart_number_at c_Axis_dot_of hr, pure_Points_place_of T h⟩
theorem ok_Points_one_at (T : Txt K mg c) {f : Addr} {fd : FuncData} (F : Fun K "one_at" "Points.one_at" s_Points_one_at f fd)
    (c_Chart_columns : C8.Met P w K mg base 1 c.ch "columns" (sp_columns c) [])
    (c_Points_place_of : C8.Met P w K mg base 3 c.po "place_of" (sp_point_place c) []) : FnOk P w K mg base CX0 4 f fd ["self", "x", "y"] (sp_point_at c) :=
  F.ok sc_Points_one_at (fun vs H Q E h => by obtain ⟨_, _, _, _, rfl, _⟩ := h; rfl) fun cdv A outer s H vs Q E hr h => ⟨_, der_Points_one_at T c_Chart_columns c_Points_place_of hr, pure_Points_one_at T h⟩
theorem ok_column_dots (T : Txt K mg c) {f : Addr} {fd : FuncData} (F : Fun K "column_dots" "column_dots" s_column_dots f fd)
    (c_Chart_along_axis : C8.Met P w K mg base 4 c.ch "along_axis" (sp_axis true c) [])
    (c_Axis_dot_of : C8.Met P w K mg base 1 c.ax "dot_of" (sp_dot_of c) [])
    (c_Chart_columns : C8.Met P w K mg base 1 c.ch "columns" (sp_columns c) [])
    (c_Look_band_of : C8.Met P w K mg base 1 c.lk "band_of" (sp_band c) []) : FnOk P w K mg base CX0 5 f fd ["chart"] (sp_column_dots c) :=
  F.ok sc_column_dots (fun vs H Q E h => by obtain ⟨_, _, rfl, _⟩ := h; rfl) fun cdv A outer s H vs Q E hr h => ⟨_, der_column_dots T c_Chart_along_axis c_Axis_dot_of c_Chart_columns c_Look_band_of hr, pure_column_dots T h⟩
theorem ok_Reader_init (T : Txt K mg c) {f : Addr} {fd : FuncData} (F : Fun K "__init__" "Reader.__init__" s_Reader_init f fd) : FnOk P w K mg base CX0 1 f fd ["self", "told"] (sp_Reader c) :=
  F.ok sc_Reader_init (fun vs H Q E h => by obtain ⟨_, _, _, rfl, _⟩ := h; rfl) fun cdv A outer s H vs Q E hr h => ⟨_, der_Reader_init T hr, pure_Reader_init T h⟩
theorem ok_Reader_at_end (T : Txt K mg c) {f : Addr} {fd : FuncData} (F : Fun K "at_end" "Reader.at_end" s_Reader_at_end f fd) : FnOk P w K mg base CX0 1 f fd ["self"] (sp_at_end K c) :=
  F.ok sc_Reader_at_end (fun vs H Q E h => by obtain ⟨_, _, _, _, rfl, _⟩ := h; rfl) fun cdv A outer s H vs Q E hr h => ⟨_, der_Reader_at_end T hr, pure_Reader_at_end T h⟩
theorem ok_Reader_take (T : Txt K mg c) {f : Addr} {fd : FuncData} (F : Fun K "take" "Reader.take" s_Reader_take f fd) : FnOk P w K mg base CX0 1 f fd ["self"] (sp_take K c) :=
  F.ok sc_Reader_take (fun vs H Q E h => by obtain ⟨_, _, _, _, _, rfl, _⟩ := h; rfl) fun cdv A outer s H vs Q E hr h => ⟨_, der_Reader_take T hr, pure_Reader_take T h⟩
theorem ok_Reader_take_list (T : Txt K mg c) {f : Addr} {fd : FuncData} (F : Fun K "take_list" "Reader.take_list" s_Reader_take_list f fd)
    (c_Reader_take : C8.Met P w K mg base 1 c.re "take" (sp_take K c) []) : FnOk P w K mg base CX0 2 f fd ["self"] (sp_take_list K c) :=
  F.ok sc_Reader_take_list (fun vs H Q E h => by obtain ⟨_, _, _, _, _, rfl, _⟩ := h; rfl) fun cdv A outer s H vs Q E hr h => ⟨_, der_Reader_take_list T c_Reader_take hr, pure_Reader_take_list T h⟩
theorem ok_Reader_take_lists (T : Txt K mg c) {f : Addr} {fd : FuncData} (F : Fun K "take_lists" "Reader.take_lists" s_Reader_take_lists f fd)
    (c_Reader_take : C8.Met P w K mg base 1 c.re "take" (sp_take K c) [])
    (c_Reader_take_list : C8.Met P w K mg base 2 c.re "take_list" (sp_take_list K c) []) : FnOk P w K mg base CX0 3 f fd ["self"] (sp_take_lists K c) :=
  F.ok sc_Reader_take_lists (fun vs H Q E h => by obtain ⟨_, _, _, _, _, _, _, rfl, _⟩ := h; rfl) fun cdv A outer s H vs Q E hr h => ⟨_, der_Reader_take_lists T c_Reader_take c_Reader_take_list hr, pure_Reader_take_lists T h⟩
theorem ok_row_numbers (T : Txt K mg c) {f : Addr} {fd : FuncData} (F : Fun K "row_numbers" "row_numbers" s_row_numbers f fd)
    (c_Reader : C8.Mak P w K mg base 1 "Reader" c.re (sp_Reader c) [])
    (c_Reader_at_end : C8.Met P w K mg base 1 c.re "at_end" (sp_at_end K c) [])
    (c_Reader_take : C8.Met P w K mg base 1 c.re "take" (sp_take K c) []) : FnOk P w K mg base CX0 3 f fd ["told"] (sp_row_numbers) :=
  F.ok sc_row_numbers (fun vs H Q E h => by obtain ⟨_, _, _, rfl, _⟩ := h; rfl) fun cdv A outer s H vs Q E hr h => ⟨_, der_row_numbers T c_Reader c_Reader_at_end c_Reader_take hr, pure_row_numbers T h⟩
theorem ok_Ring_init (T : Txt K mg c) {f : Addr} {fd : FuncData} (F : Fun K "__init__" "Ring.__init__" s_Ring_init f fd) : FnOk P w K mg base CX0 1 f fd ["self", "parts", "look"] (sp_Ring c) :=
  F.ok sc_Ring_init (fun vs H Q E h => by obtain ⟨_, _, _, _, _, rfl, _⟩ := h; rfl) fun cdv A outer s H vs Q E hr h => ⟨_, der_Ring_init T hr, pure_Ring_init T h⟩
theorem ok_Ring_place_of (T : Txt K mg c) {f : Addr} {fd : FuncData} (F : Fun K "place_of" "Ring.place_of" s_Ring_place_of f fd) : FnOk P w K mg base CX0 1 f fd ["self", "row", "column"] (sp_ring_place c) :=
  F.ok sc_Ring_place_of (fun vs H Q E h => by obtain ⟨_, _, _, _, _, rfl, _⟩ := h; rfl) fun cdv A outer s H vs Q E hr h => ⟨_, der_Ring_place_of T hr, pure_Ring_place_of T h⟩
theorem ok_Ring_one_at (T : Txt K mg c) {f : Addr} {fd : FuncData} (F : Fun K "one_at" "Ring.one_at" s_Ring_one_at f fd)
    (c_far_round : C8.Cal P w K mg base 1 "far_round" (sp_far) []) : FnOk P w K mg base CX0 2 f fd ["self", "x", "y"] (sp_ring_at c) :=
  F.ok sc_Ring_one_at (fun vs H Q E h => by obtain ⟨_, _, _, _, rfl, _⟩ := h; rfl) fun cdv A outer s H vs Q E hr h => ⟨_, der_Ring_one_at T c_far_round hr, pure_Ring_one_at T h⟩
theorem ok_far_round (T : Txt K mg c) {f : Addr} {fd : FuncData} (F : Fun K "far_round" "far_round" s_far_round f fd) : FnOk P w K mg base CX0 1 f fd ["u", "v", "r"] (sp_far) :=
  F.ok sc_far_round (fun vs H Q E h => by obtain ⟨_, _, _, rfl, _⟩ := h; rfl) fun cdv A outer s H vs Q E hr h => ⟨_, der_far_round T hr, pure_far_round h⟩
theorem ok_ring_parts (T : Txt K mg c) {f : Addr} {fd : FuncData} (F : Fun K "ring_parts" "ring_parts" s_ring_parts f fd) : FnOk P w K mg base CX0 1 f fd ["row"] (sp_ring_parts) :=
  F.ok sc_ring_parts (fun vs H Q E h => by obtain ⟨_, _, rfl, _⟩ := h; rfl) fun cdv A outer s H vs Q E hr h => ⟨_, der_ring_parts T hr, pure_ring_parts h⟩
theorem ok_shares_of (T : Txt K mg c) {f : Addr} {oc : Value} {od an : Option Addr} {osl : Array (Option Value)} {kV doc pm ct : Value}
    {cd : Addr} (TB : LamX.TabB base mg cd c.tb) (lk : K.lookup f = some ⟨oc, od, .func (PySem.W.fnOf "shares_of" "shares_of" (defArgs s_shares_of) (defBody s_shares_of) (defScope s_shares_of) .none kV doc pm an (.ref cd) ct), osl⟩) (hcd : PySem.W.codeIn K (.ref cd) "shares_of" = true) :
    FnOk P w K mg base CX0 1 f (PySem.W.fnOf "shares_of" "shares_of" (defArgs s_shares_of) (defBody s_shares_of) (defScope s_shares_of) .none kV doc pm an (.ref cd) ct) ["parts", "whole"] (sp_shares_of c) :=
  fn_of lk hcd sc_shares_of (fun vs H Q E h => by obtain ⟨_, _, _, rfl, _⟩ := h; rfl) fun A outer s H vs Q E hr h => ⟨_, (der_shares_of T TB rfl hr).nox, pure_shares_of T h⟩
theorem ok_begins (T : Txt K mg c) {f : Addr} {fd : FuncData} (F : Fun K "begins" "begins" s_begins f fd)
    (c_Chart_begin_anew : C8.Met P w K mg base 3 c.ch "begin_anew" (sp_begin c) []) : FnOk P w K mg base CX0 4 f fd ["chart", "given", "lists"] (sp_call c of_begins) :=
  F.ok sc_begins (fun vs H Q E h => by obtain ⟨_, _, _, _, _, _, _, _, rfl, _⟩ := h; rfl) fun cdv A outer s H vs Q E hr h => ⟨_, der_begins T c_Chart_begin_anew hr, pure_begins h⟩
theorem ok_data (T : Txt K mg c) {f : Addr} {fd : FuncData} (F : Fun K "data" "data" s_data f fd)
    (c_row_numbers : C8.Cal P w K mg base 3 "row_numbers" (sp_row_numbers) [])
    (c_are_rows : C8.Cal P w K mg base 2 "are_rows" (sp_are_rows) []) : FnOk P w K mg base CX0 4 f fd ["chart", "given", "lists"] (sp_call c of_data) :=
  F.ok sc_data (fun vs H Q E h => by obtain ⟨_, _, _, _, _, _, _, _, rfl, _⟩ := h; rfl) fun cdv A outer s H vs Q E hr h => ⟨_, der_data T c_row_numbers c_are_rows hr, pure_data T h⟩
theorem ok_look (T : Txt K mg c) {f : Addr} {fd : FuncData} (F : Fun K "look" "look" s_look f fd)
    (c_Look : C8.Mak P w K mg base 1 "Look" c.lk (sp_Look c) [])
    (c_Look_is_allowed : C8.Met P w K mg base 1 c.lk "is_allowed" (sp_allowed c) []) : FnOk P w K mg base CX0 3 f fd ["chart", "given", "lists"] (sp_call c of_look) :=
  F.ok sc_look (fun vs H Q E h => by obtain ⟨_, _, _, _, _, _, _, _, rfl, _⟩ := h; rfl) fun cdv A outer s H vs Q E hr h => ⟨_, der_look T c_Look c_Look_is_allowed hr, pure_look T h⟩
theorem ok_axis (T : Txt K mg c) {f : Addr} {fd : FuncData} (F : Fun K "axis" "axis" s_axis f fd)
    (c_told_axis : C8.Cal P w K mg base 3 "told_axis" (sp_told_axis c) [])
    (c_Chart_along_axis : C8.Met P w K mg base 4 c.ch "along_axis" (sp_axis true c) [])
    (c_Chart_upright_axis : C8.Met P w K mg base 4 c.ch "upright_axis" (sp_axis false c) []) : FnOk P w K mg base CX0 5 f fd ["chart", "given", "lists"] (sp_call c of_axis) :=
  F.ok sc_axis (fun vs H Q E h => by obtain ⟨_, _, _, _, _, _, _, _, rfl, _⟩ := h; rfl) fun cdv A outer s H vs Q E hr h => ⟨_, der_axis T c_told_axis c_Chart_along_axis c_Chart_upright_axis hr, pure_axis T h⟩
theorem ok_told_axis (T : Txt K mg c) {f : Addr} {fd : FuncData} (F : Fun K "told_axis" "told_axis" s_told_axis f fd)
    (c_Axis_step_dots : C8.Met P w K mg base 2 c.ax "step_dots" (sp_step_dots c) []) : FnOk P w K mg base CX0 3 f fd ["shown", "dots"] (sp_told_axis c) :=
  F.ok sc_told_axis (fun vs H Q E h => by obtain ⟨_, _, _, rfl, _⟩ := h; rfl) fun cdv A outer s H vs Q E hr h => ⟨_, der_told_axis T c_Axis_step_dots hr, pure_told_axis T h⟩
theorem ok_place (T : Txt K mg c) {f : Addr} {fd : FuncData} (F : Fun K "place" "place" s_place f fd)
    (Ap : Apart c) (M : ∀ C sp, S_place c C = some sp → C8.Met P w K mg base 5 C "place_of" sp [])
    (c_drawn : C8.Cal P w K mg base 8 "drawn" (sp_drawn c) []) : FnOk P w K mg base CX0 9 f fd ["chart", "given", "lists"] (sp_call c of_place) :=
  F.ok sc_place (fun vs H Q E h => by obtain ⟨_, _, _, _, _, _, _, _, rfl, _⟩ := h; rfl) fun cdv A outer s H vs Q E hr h => ⟨_, der_place T c_drawn M hr, pure_place T Ap h⟩
theorem ok_click (T : Txt K mg c) {f : Addr} {fd : FuncData} (F : Fun K "click" "click" s_click f fd)
    (Ap : Apart c) (M : ∀ C sp, S_at c C = some sp → C8.Met P w K mg base 7 C "one_at" sp [])
    (c_drawn : C8.Cal P w K mg base 8 "drawn" (sp_drawn c) []) : FnOk P w K mg base CX0 9 f fd ["chart", "given", "lists"] (sp_call c of_click) :=
  F.ok sc_click (fun vs H Q E h => by obtain ⟨_, _, _, _, _, _, _, _, rfl, _⟩ := h; rfl) fun cdv A outer s H vs Q E hr h => ⟨_, der_click T c_drawn M hr, pure_click T Ap h⟩
theorem ok_drawn (T : Txt K mg c) {f : Addr} {fd : FuncData} (F : Fun K "drawn" "drawn" s_drawn f fd)
    (c_Points : C8.Mak P w K mg base 6 "Points" c.po (sp_Points c) [])
    (c_Ring : C8.Mak P w K mg base 1 "Ring" c.ri (sp_Ring c) [])
    (c_ring_parts : C8.Cal P w K mg base 1 "ring_parts" (sp_ring_parts) [])
    (c_Bars : C8.Mak P w K mg base 5 "Bars" c.ba (sp_Bars c) []) : FnOk P w K mg base CX0 8 f fd ["chart"] (sp_drawn c) :=
  F.ok sc_drawn (fun vs H Q E h => by obtain ⟨_, _, rfl, _⟩ := h; rfl) fun cdv A outer s H vs Q E hr h => ⟨_, der_drawn T c_Points c_Ring c_ring_parts c_Bars hr, pure_drawn T h⟩
theorem ok_shares (T : Txt K mg c) {f : Addr} {fd : FuncData} (F : Fun K "shares" "shares" s_shares f fd)
    (c_ring_parts : C8.Cal P w K mg base 1 "ring_parts" (sp_ring_parts) [])
    (c_shares_of : C8.Cal P w K mg base 1 "shares_of" (sp_shares_of c) []) : FnOk P w K mg base CX0 2 f fd ["chart", "given", "lists"] (sp_call c of_shares) :=
  F.ok sc_shares (fun vs H Q E h => by obtain ⟨_, _, _, _, _, _, _, _, rfl, _⟩ := h; rfl) fun cdv A outer s H vs Q E hr h => ⟨_, der_shares T c_ring_parts c_shares_of hr, pure_shares T h⟩
theorem ok_answers (T : Txt K mg c) {f : Addr} {fd : FuncData} (F : Fun K "answers" "answers" s_answers f fd)
    {fs : Nat → Addr} {cT : Addr} (MA : ∀ f sp, S_calls c fs f = some sp → Held P w K mg base 9 f sp) (hCALLS : ∃ u, mg "CALLS" = some u ∧ RelV (.ref cT) u) (hT : ∀ H, SqT K H cT (fsV fs)) (d : ∀ i j, i < 7 → j < 7 → i ≠ j → fs i ≠ fs j)
    (c_Chart : C8.Mak P w K mg base 4 "Chart" c.ch (sp_Chart c) [])
    (c_Reader : C8.Mak P w K mg base 1 "Reader" c.re (sp_Reader c) [])
    (c_Reader_at_end : C8.Met P w K mg base 1 c.re "at_end" (sp_at_end K c) [])
    (c_Reader_take : C8.Met P w K mg base 1 c.re "take" (sp_take K c) [])
    (c_Reader_take_list : C8.Met P w K mg base 2 c.re "take_list" (sp_take_list K c) [])
    (c_Reader_take_lists : C8.Met P w K mg base 3 c.re "take_lists" (sp_take_lists K c) []) : FnOk P w K mg base CX0 10 f fd ["calls"] (sp_answers K c.tb) :=
  F.ok sc_answers (fun vs H Q E h => by obtain ⟨_, _, _, rfl, _⟩ := h; rfl) fun cdv A outer s H vs Q E hr h => ⟨_, der_answers T c_Chart c_Reader c_Reader_at_end c_Reader_take c_Reader_take_list c_Reader_take_lists MA hCALLS hr, pure_answers T hT d rfl h⟩
end
end DC
/-! # E. The end, with a table of code objects -/
namespace DC
open PySem PySem.Spec PyProof.Rows L2
open PySem.W (Codec OpenSpec WData)
/-- the call, where a table stands empty beside what is handed in -/
theorem call_tabbed {P : Program} {w : World} {K : PySem.W.Frag} {mg mb : Str → Option Value} {k : Nat} {fa cd tb : Addr} {fd : FuncData} {ps : List Str} {sp : Sp} {s₁ : Shared} {vals : List Value} {ds : List WData} {R : PySem.W.WRecords} {cl : Str → Option Addr} {d0 : WData}
    (KX : K.In s₁.heap) (hns : s₁.heap.Ns mainGlobals mg) (hb : s₁.heap.Ns builtinsNs mb) (hbb : ∀ x : Str, x ≠ "__name__" → mb x = bootBuiltins x) (hlim : s₁.heap.NoLimit) (hg : s₁.gens = #[]) (hT : s₁.heap.get? tb = some { cls := .none, data := .fields #[] }) (nT : K.lookup tb = none) (C : PySem.W.CodeHd s₁.heap cd tb)
    (hbm : ∃ (bm : Addr) (ob : Obj), mg "__builtins__" = some (.ref bm) ∧ bm ≠ builtinsNs ∧ s₁.heap.get? bm = some ob ∧ ob.cls = .type "module" ∧ ob.dict = some builtinsNs ∧ ob.data = .plain)
    (hwl : PySem.W.WellAll w.params s₁.heap vals ds) (hpl : plWs ds = true) (hwt : ∀ d ∈ ds, d.weight ≤ 1048576) (hr : Room k callerA)
    (F : ∀ base : Heap, K.In base → base.Ns mainGlobals mg → LamX.TabB base mg cd tb → FnOk P w K mg base CX0 k fa fd ps sp) (hbind : ∀ (s : Shared) (us : List Value), us.length = ps.length → BindsTo s fd ⟨us, []⟩ (ps.zip us)) (hlen : ds.length = ps.length)
    (hsp : ∀ (H0 H : Hp) (xs : List V), (∀ b o, H0 b = some o → H b = some o) → H tb = some (.tbl #[]) → DwAll K H0 xs ds → sp xs H (fun v H' => Dw K H' v d0) fun _ _ _ => False) :
    codeAny (model P w) callerA (.call (.ref fa) ⟨vals, []⟩) (fun r s' => ∃ u as, r = .ok (.ret u) ∧ PySem.W.ReadsW R cl s'.heap u d0 as ∧ OldK s₁.heap s'.heap ∧ s'.os = s₁.os ∧ AllBare s'.gens) s₁ := by
  obtain ⟨A, ho, ar⟩ := area_all ds vals hwl hpl hwt
  have hO0 : OnlyF (argH K s₁.heap A) := argH_only ar
  have hok0 : HOk P w (argH K s₁.heap A) s₁.heap := argH_ok ar
  have hS0 := dw_all KX ar ds vals hwl hpl ho
  have hV := vals_toV ho
  have hK0 : ∀ b u, argH K s₁.heap A b = some u → K.lookup b = none := fun b u q => (argH_is ar q).1
  have seqs : ∀ b u, argH K s₁.heap A b = some u → ∃ c vs, s₁.heap.get? b = some { cls := c, data := .seq vs } := fun b u q => by
    obtain ⟨_, vs, _, _, ⟨e, _⟩ | ⟨e, _⟩⟩ := argH_is ar q
    · exact ⟨_, _, e⟩
    · exact ⟨_, _, e⟩
  generalize argH K s₁.heap A = H0 at hO0 hok0 hS0 hK0 seqs
  have n0 : H0 tb = none := by
    cases q : H0 tb with
    | none => rfl
    | some u =>
      obtain ⟨c, vs, e⟩ := seqs tb u q
      rw [hT] at e
      injection e with e
      injection e with _ _ e
      cases e
  obtain ⟨H, hH⟩ : ∃ H : Hp, H = fun b => if b = tb then some (HO.tbl #[]) else H0 b := ⟨_, rfl⟩
  have Ht : H tb = some (.tbl #[]) := by rw [hH]; exact if_pos rfl
  have Hn : ∀ b, b ≠ tb → H b = H0 b := fun b n => by rw [hH]; exact if_neg n
  have Hs : ∀ b o, H0 b = some o → H b = some o := fun b o e => (Hn b fun z => by rw [z, n0] at e; cases e).trans e
  have Hc : ∀ b u, H b = some u → (b = tb ∧ u = .tbl #[]) ∨ (b ≠ tb ∧ H0 b = some u) := fun b u e => by
    by_cases n : b = tb
    · rw [n, Ht] at e
      exact Or.inl ⟨n, (Option.some.inj e).symm⟩
    · exact Or.inr ⟨n, (Hn b n).symm.trans e⟩
  have hok : HOk P w H s₁.heap := fun b u e => by
    rcases Hc b u e with ⟨rfl, rfl⟩ | ⟨_, e⟩
    · exact hT
    · exact (hok0 b u e).stay (fun _ _ _ q => q) (fun c q => Hs c _ q) fun c xs q => Hs c _ q
  have hK : ∀ b u, H b = some u → K.lookup b = none := fun b u e => by
    rcases Hc b u e with ⟨rfl, _⟩ | ⟨_, e⟩
    · exact nT
    · exact hK0 b u e
  have untold : ∀ {b : Addr} {o : Obj}, s₁.heap.get? b = some o → (∀ vs n, o.data ≠ .seq vs n) → o.data ≠ .fields #[] → H b = none := fun {b o} e h1 h2 => by
    cases q : H b with
    | none => rfl
    | some u =>
      rcases Hc b u q with ⟨rfl, _⟩ | ⟨_, q⟩
      · rw [hT] at e
        cases e
        exact (h2 rfl).elim
      · obtain ⟨c, vs, e2⟩ := seqs b u q
        rw [e] at e2
        cases e2
        exact (h1 _ _ rfl).elim
  have dicts : ∀ {b : Addr} {o : Obj} {es : Array DictEntry} {ep : Nat}, s₁.heap.get? b = some o → o.data = .dict es ep → H b = none := fun {b o es ep} e d => untold e (fun vs n z => by rw [d] at z; cases z) fun z => by rw [d] at z; cases z
  have below : ∀ {b : Addr} {o : Obj}, s₁.heap.get? b = some o → H b = none → (hidT s₁.heap H).get? b = some o := fun e n => hidT_get e n
  have names : ∀ {b : Addr} {m : Str → Option Value}, s₁.heap.Ns b m → (hidT s₁.heap H).Ns b m := fun {b m} ⟨o, es, ep, e, d, r⟩ => ⟨o, es, ep, below e (dicts e d), d, r⟩
  have kin : K.In (hidT s₁.heap H) := fun b o e => below (KX b o e) (by
    cases q : H b with
    | none => rfl
    | some u =>
      rw [hK b u q] at e
      cases e)
  have md : Mod K mg (hidT s₁.heap H) := ⟨kin, names hns, ⟨mb, names hb, hbb⟩, let ⟨mc, h1, h2⟩ := hlim; ⟨mc, names h1, h2⟩⟩
  have TB : LamX.TabB (hidT s₁.heap H) mg cd tb := by
    refine ⟨?_, ?_, fun z => ?_⟩
    · obtain ⟨o, us, file, tf, flags, tg, inF, text, tt, e1, r1, r2, r3, rest⟩ := C
      exact ⟨o, us, file, tf, flags, tg, inF, text, tt, below e1 (untold e1 (fun vs n z => by rw [r2] at z; cases z) fun z => by rw [r2] at z; cases z; simp at r3), r1, r2, r3, rest⟩
    · obtain ⟨bm, ob, b1, b2, b3, b4, b5, b6⟩ := hbm
      have nG : bm ≠ mainGlobals := fun q => by
        obtain ⟨o, es, ep, e, hd, _⟩ := hns
        rw [q, e] at b3
        cases b3
        rw [hd] at b6
        cases b6
      have nP : bm ≠ tb := fun q => by
        rw [q, hT] at b3
        cases b3
        cases b6
      exact ⟨bm, ob, b1, b2, nG, nP, below b3 (untold b3 (fun vs n z => by rw [b6] at z; cases z) fun z => by rw [b6] at z; cases z), b4, b5, b6⟩
    · obtain ⟨o, es, ep, e, hd, _⟩ := hns
      rw [z, hT] at e
      cases e
      cases hd
  have e0 : Env0 P w K mg (hidT s₁.heap H) callerA [] s₁ H := ⟨rfl, md, fun b o e => of_hidT e, Nat.le_of_eq (hidT_size _ _), trivial, fun b z => absurd (show b ∈ ([] : List Addr) from z) (by simp), hok, .of_eq hg⟩
  have hl : vals.length = ps.length := (wellAll_len hwl).trans hlen
  refine codeAny_mono ((F _ kin (names hns) TB).run callerA [] s₁ H ⟨vals, []⟩ vals (vals.map toV) _ _ hr e0 (hbind s₁ vals hl) hV (hsp H0 H _ Hs Ht hS0)) fun r s' x => ?_
  cases r with
  | error e => exact (show False from x).elim
  | ok fl =>
    cases fl with
    | next => exact (show False from x).elim
    | brk => exact (show False from x).elim
    | cont => exact (show False from x).elim
    | ret u =>
      obtain ⟨v, H', os, bare, un, hok', r', q⟩ := x
      have kept : ∀ b o, b ≠ tb → s₁.heap.get? b = some o → s'.heap.get? b = some o := fun b o nb e => by
        cases q2 : H b with
        | none => exact un.keep b o e q2 (fun z => absurd (show b ∈ ([] : List Addr) from z) (by simp)) (by simp)
        | some u2 =>
          rcases Hc b u2 q2 with ⟨z, _⟩ | ⟨_, q3⟩
          · exact absurd z nb
          rcases hO0 b with z | ⟨ob, u3, z⟩
          · rw [q3] at z
            cases z
          · have z1 := Hs b _ z
            have z2 := un.frzs b ob _ z1
            obtain ⟨e1, _⟩ := hok b _ z1
            obtain ⟨e2, _⟩ := hok' b _ z2
            rw [e] at e1
            cases e1
            exact e2
      obtain ⟨more, hm⟩ := un.tbls tb #[] Ht
      have grown : s'.heap.get? tb = some { cls := .none, data := .fields (#[] ++ more) } := hok' tb _ hm
      have KX' : K.In s'.heap := fun b o e => kept b o (fun z => by rw [z, nT] at e; cases e) (KX b o e)
      obtain ⟨as, hrd⟩ := Dw.reads (R := R) (cl := cl) hok' KX' d0 v u q r'
      refine ⟨u, as, rfl, hrd, ⟨fun b o e => ?_, fun b o e => ?_⟩, os, bare⟩
      · by_cases n : b = tb
        · rw [n] at e ⊢
          rw [hT] at e
          cases e
          exact .inr (.inl ⟨(C.tab hT).isCodeTable, rfl, #[], more, rfl, grown⟩)
        · exact .inl (kept b o n e)
      · by_cases n : b = tb
        · rw [n]
          exact ⟨_, grown⟩
        · exact ⟨o, kept b o n e⟩
end DC
namespace DC
open PySem PySem.Spec PyProof.Rows L2
open PySem.W (Codec OpenSpec WData)
/-- what k_headS leaves (case hc), where one def makes a lambda: its code object at cd, the table at tb -/
theorem walk_tabbed {r : OpenSpec} {k : Nat} {q : Program} {loose : List Str} {XP : (Str → Option Value) → Heap → Prop} {YP : World → Heap → Prop} {d dS : DefRec} {K : Params → PySem.W.Frag} {ps : List Str} {sp : PySem.W.Frag → Addr → Sp} {x : Str}
    (hwell : r.wellSaid = true) (hdf : d.params.defaults = []) (hlen : r.args.length = ps.length) (hr : Room k callerA) (hrec : (recsOf q).find? (fun e => e.name == x) = some dS)
    (hY : ∀ (w : World) (h : Heap), YP w h → (K w.params).In h)
    (F : ∀ (w : World) (mg : Str → Option Value) (fa : Addr) (h : Heap), YP w h → (K w.params).In h → h.Ns mainGlobals mg → mg d.name = some (.ref fa) →
      ∃ (fd : FuncData) (cd tb : Addr), (K w.params).lookup tb = none ∧ PySem.W.tabIn (K w.params) x = some (cd, tb) ∧ (∀ (s : Shared) (us : List Value), us.length = ps.length → BindsTo s fd ⟨us, []⟩ (ps.zip us)) ∧
        ∀ base : Heap, (K w.params).In base → base.Ns mainGlobals mg → LamX.TabB base mg cd tb → FnOk r.prog w (K w.params) mg base CX0 k fa fd ps (sp (K w.params) tb))
    (hsp : ∀ (K : PySem.W.Frag) (tb : Addr) (H0 H : Hp) (xs : List V) (a : Codec.denoteAll r.args), (∀ b o, H0 b = some o → H b = some o) → H tb = some (.tbl #[]) → Codec.withinAll r.args a = true → Codec.app r.args r.asked a = true → DwAll K H0 xs (Codec.encAll r.args a) →
      sp K tb xs H (fun v H' => Dw K H' v (r.ret.enc (Codec.app r.args r.f a))) fun _ _ _ => False) :
    PySem.W.WalkOS q loose XP YP r d [] (fun f vs => PySem.call f vs) := by
  intro w s₀ s₁ mg mb G Y fa o pm cd0 doc dV kV ho hd hcd hD hmg hg args vals as hpre hlay hrd hwl hlo
  obtain ⟨a, e1, e2⟩ := PySem.W.os_pre_some hpre
  obtain ⟨e3, hwi⟩ := Codec.encAll_of_decAll r.args args a e1
  subst e3
  have KX := hY w _ Y
  obtain ⟨fd, cd, tb, nT, ht, hb, hF⟩ := F w mg fa _ Y KX G.T.g hmg
  obtain ⟨C, hT⟩ := PySem.W.tab_of G.T KX hrec ht
  have done := call_tabbed (R := []) (cl := classAt s₀.heap) (d0 := r.ret.enc (Codec.app r.args r.f a)) KX G.T.g G.T.b G.T.builtins G.T.nolimit hg hT nT C G.T.bmain hwl (pl_encAll _ _) (layable_weight hlay) hr hF hb ((encAll_len _ _).trans hlen)
    fun H0 H xs h1 h2 h3 => hsp _ tb H0 H xs a h1 h2 hwi e2 h3
  refine PySem.W.enter_call (codeAny_mono done fun r' s' hq => ?_)
  obtain ⟨u, as', rfl, h1, h2, h3, h4⟩ := hq
  exact ⟨.inl ⟨u, _, as', rfl, fun _ => rfl, h1, (OpenSpec.post_iff hwell hwi _ _).mpr rfl, fun z => Bool.noConfusion (show false = true from z)⟩, h2, h3, h4⟩
end DC
/-! # G. All together -/
namespace DC
open PySem PySem.Spec PyProof.Rows L2 Evl
theorem met_mono {P : Program} {w : World} {K : PySem.W.Frag} {mg : Str → Option Value} {base : Heap} {j k : Nat} {C : Addr} {m : Str} {sp : Sp} {dvs : List V} (h : C8.Met P w K mg base j C m sp dvs) (hk : j ≤ k) : C8.Met P w K mg base k C m sp dvs := by
  obtain ⟨f, fd, ps, ds, a, b, F, r⟩ := h.ex
  exact ⟨f, fd, ps, ds, a, b, F.mono hk, r⟩
theorem ne_of_nodup {l : List Addr} (h : l.Nodup) {i j : Nat} {a b : Addr} (ha : l[i]? = some a) (hb : l[j]? = some b) (n : i ≠ j) : a ≠ b := fun e => by
  subst e
  obtain ⟨h1, e1⟩ := List.getElem?_eq_some_iff.mp ha
  obtain ⟨h2, e2⟩ := List.getElem?_eq_some_iff.mp hb
  exact n ((List.getElem_inj h).mp (e1.trans e2.symm))
theorem all_mk {P : Program} {w : World} {K : PySem.W.Frag} {h : Heap} {mg : Str → Option Value} {fa cd tb cT : Addr} (X : K.In h) (G : h.Ns mainGlobals mg) (hfa : mg "answers" = some (.ref fa))
    {a_ax a_lk a_ch a_ba a_po a_re a_ri : Addr} {f0 f1 f2 f3 f4 f5 f6 f7 f8 f9 f10 f11 f12 f13 f14 f15 f16 f17 f18 f19 f20 f21 f22 f23 f24 f25 f26 f27 f28 f29 f30 f31 f32 f33 f34 f35 f36 f37 f38 f39 f40 f41 f42 f43 f44 f45 f46 f47 f48 f49 f50 f51 f52 : Addr}
    {od0 an0 od1 an1 od2 an2 od3 an3 od4 an4 od5 an5 od6 an6 od7 an7 od8 an8 od9 an9 od10 an10 od11 an11 od12 an12 od13 an13 od14 an14 od15 an15 od16 an16 od17 an17 od18 an18 od19 an19 od20 an20 od21 an21 od22 an22 od23 an23 od24 an24 od25 an25 od26 an26 od27 an27 od28 an28 od29 an29 od30 an30 od31 an31 od32 an32 od33 an33 od34 an34 od35 an35 od36 an36 od37 an37 od38 an38 od39 an39 od40 an40 od41 an41 od42 an42 od43 an43 od44 an44 od45 an45 od46 an46 od47 an47 od48 an48 od49 an49 od50 an50 od51 an51 od52 an52 odT odc : Option Addr} {sl0 sl1 sl2 sl3 sl4 sl5 sl6 sl7 sl8 sl9 sl10 sl11 sl12 sl13 sl14 sl15 sl16 sl17 sl18 sl19 sl20 sl21 sl22 sl23 sl24 sl25 sl26 sl27 sl28 sl29 sl30 sl31 sl32 sl33 sl34 sl35 sl36 sl37 sl38 sl39 sl40 sl41 sl42 sl43 sl44 sl45 sl46 sl47 sl48 sl49 sl50 sl51 sl52 slT slc : Array (Option Value)} {vsc : Array Value} {nTT : Nat} {t_SIDE_BY_SIDE t_STACKED t_LINES t_POINTS t_RING t_FARTHEST t_UPRIGHT t_ALONG : Tok}
    {oc0 kV0 dc0 pm0 cd0 ct0 oc1 kV1 dc1 pm1 cd1 ct1 oc2 kV2 dc2 pm2 cd2 ct2 oc3 kV3 dc3 pm3 cd3 ct3 oc4 kV4 dc4 pm4 cd4 ct4 oc5 kV5 dc5 pm5 cd5 ct5 oc6 kV6 dc6 pm6 cd6 ct6 oc7 kV7 dc7 pm7 cd7 ct7 oc8 kV8 dc8 pm8 cd8 ct8 oc9 kV9 dc9 pm9 cd9 ct9 oc10 kV10 dc10 pm10 cd10 ct10 oc11 kV11 dc11 pm11 cd11 ct11 oc12 kV12 dc12 pm12 cd12 ct12 oc13 kV13 dc13 pm13 cd13 ct13 oc14 kV14 dc14 pm14 cd14 ct14 oc15 kV15 dc15 pm15 cd15 ct15 oc16 kV16 dc16 pm16 cd16 ct16 oc17 kV17 dc17 pm17 cd17 ct17 oc18 kV18 dc18 pm18 cd18 ct18 oc19 kV19 dc19 pm19 cd19 ct19 oc20 kV20 dc20 pm20 cd20 ct20 oc21 kV21 dc21 pm21 cd21 ct21 oc22 kV22 dc22 pm22 cd22 ct22 oc23 kV23 dc23 pm23 cd23 ct23 oc24 kV24 dc24 pm24 cd24 ct24 oc25 kV25 dc25 pm25 cd25 ct25 oc26 kV26 dc26 pm26 cd26 ct26 oc27 kV27 dc27 pm27 cd27 ct27 oc28 kV28 dc28 pm28 cd28 ct28 oc29 kV29 dc29 pm29 cd29 ct29 oc30 kV30 dc30 pm30 cd30 ct30 oc31 kV31 dc31 pm31 cd31 ct31 oc32 kV32 dc32 pm32 cd32 ct32 oc33 kV33 dc33 pm33 cd33 ct33 oc34 kV34 dc34 pm34 cd34 ct34 oc35 kV35 dc35 pm35 cd35 ct35 oc36 kV36 dc36 pm36 cd36 ct36 oc37 kV37 dc37 pm37 cd37 ct37 oc38 kV38 dc38 pm38 cd38 ct38 oc39 kV39 dc39 pm39 cd39 ct39 oc40 kV40 dc40 pm40 cd40 ct40 oc41 kV41 dc41 pm41 cd41 ct41 oc42 kV42 dc42 pm42 ct42 oc43 kV43 dc43 pm43 cd43 ct43 oc44 kV44 dc44 pm44 cd44 ct44 oc45 kV45 dc45 pm45 cd45 ct45 oc46 kV46 dc46 pm46 cd46 ct46 oc47 kV47 dc47 pm47 cd47 ct47 oc48 kV48 dc48 pm48 cd48 ct48 oc49 kV49 dc49 pm49 cd49 ct49 oc50 kV50 dc50 pm50 cd50 ct50 oc51 kV51 dc51 pm51 cd51 ct51 oc52 kV52 dc52 pm52 cd52 ct52 occ : Value}
    (n_a_ax : PySem.W.nsIn K mainGlobals "Axis" = some (some (.ref a_ax)))
    (n_a_lk : PySem.W.nsIn K mainGlobals "Look" = some (some (.ref a_lk)))
    (n_a_ch : PySem.W.nsIn K mainGlobals "Chart" = some (some (.ref a_ch)))
    (n_a_ba : PySem.W.nsIn K mainGlobals "Bars" = some (some (.ref a_ba)))
    (n_a_po : PySem.W.nsIn K mainGlobals "Points" = some (some (.ref a_po)))
    (n_a_re : PySem.W.nsIn K mainGlobals "Reader" = some (some (.ref a_re)))
    (n_a_ri : PySem.W.nsIn K mainGlobals "Ring" = some (some (.ref a_ri)))
    (pg_ax : PySem.W.plainGet K a_ax Str.empty = true) (hd_ax : PySem.W.hasDictIn K a_ax = true) (po_ax : PySem.W.plainOver K a_ax = true) (sa_ax : PySem.W.findIn K (.ref a_ax) "__setattr__" = some (some (.builtin "object.__setattr__"))) (mk_ax : PySem.W.makesIn K a_ax = true) (kc_ax : PySem.W.keepIn K (.ref a_ax) = true)
    (na_ax_start : PySem.W.findIn K (.ref a_ax) "start" = some none)
    (na_ax_step : PySem.W.findIn K (.ref a_ax) "step" = some none)
    (na_ax_steps : PySem.W.findIn K (.ref a_ax) "steps" = some none)
    (pg_lk : PySem.W.plainGet K a_lk Str.empty = true) (hd_lk : PySem.W.hasDictIn K a_lk = true) (po_lk : PySem.W.plainOver K a_lk = true) (sa_lk : PySem.W.findIn K (.ref a_lk) "__setattr__" = some (some (.builtin "object.__setattr__"))) (mk_lk : PySem.W.makesIn K a_lk = true) (kc_lk : PySem.W.keepIn K (.ref a_lk) = true)
    (na_lk_kind : PySem.W.findIn K (.ref a_lk) "kind" = some none)
    (na_lk_wide : PySem.W.findIn K (.ref a_lk) "wide" = some none)
    (na_lk_high : PySem.W.findIn K (.ref a_lk) "high" = some none)
    (na_lk_steps : PySem.W.findIn K (.ref a_lk) "steps" = some none)
    (pg_ch : PySem.W.plainGet K a_ch Str.empty = true) (hd_ch : PySem.W.hasDictIn K a_ch = true) (po_ch : PySem.W.plainOver K a_ch = true) (sa_ch : PySem.W.findIn K (.ref a_ch) "__setattr__" = some (some (.builtin "object.__setattr__"))) (mk_ch : PySem.W.makesIn K a_ch = true) (kc_ch : PySem.W.keepIn K (.ref a_ch) = true)
    (na_ch_rows : PySem.W.findIn K (.ref a_ch) "rows" = some none)
    (na_ch_look : PySem.W.findIn K (.ref a_ch) "look" = some none)
    (pg_ba : PySem.W.plainGet K a_ba Str.empty = true) (hd_ba : PySem.W.hasDictIn K a_ba = true) (po_ba : PySem.W.plainOver K a_ba = true) (sa_ba : PySem.W.findIn K (.ref a_ba) "__setattr__" = some (some (.builtin "object.__setattr__"))) (mk_ba : PySem.W.makesIn K a_ba = true) (kc_ba : PySem.W.keepIn K (.ref a_ba) = true)
    (na_ba_chart : PySem.W.findIn K (.ref a_ba) "chart" = some none)
    (na_ba_upright : PySem.W.findIn K (.ref a_ba) "upright" = some none)
    (pg_po : PySem.W.plainGet K a_po Str.empty = true) (hd_po : PySem.W.hasDictIn K a_po = true) (po_po : PySem.W.plainOver K a_po = true) (sa_po : PySem.W.findIn K (.ref a_po) "__setattr__" = some (some (.builtin "object.__setattr__"))) (mk_po : PySem.W.makesIn K a_po = true) (kc_po : PySem.W.keepIn K (.ref a_po) = true)
    (na_po_chart : PySem.W.findIn K (.ref a_po) "chart" = some none)
    (na_po_upright : PySem.W.findIn K (.ref a_po) "upright" = some none)
    (na_po_first : PySem.W.findIn K (.ref a_po) "first" = some none)
    (na_po_alongs : PySem.W.findIn K (.ref a_po) "alongs" = some none)
    (pg_re : PySem.W.plainGet K a_re Str.empty = true) (hd_re : PySem.W.hasDictIn K a_re = true) (po_re : PySem.W.plainOver K a_re = true) (sa_re : PySem.W.findIn K (.ref a_re) "__setattr__" = some (some (.builtin "object.__setattr__"))) (mk_re : PySem.W.makesIn K a_re = true) (kc_re : PySem.W.keepIn K (.ref a_re) = true)
    (na_re_told : PySem.W.findIn K (.ref a_re) "told" = some none)
    (na_re_at : PySem.W.findIn K (.ref a_re) "at" = some none)
    (pg_ri : PySem.W.plainGet K a_ri Str.empty = true) (hd_ri : PySem.W.hasDictIn K a_ri = true) (po_ri : PySem.W.plainOver K a_ri = true) (sa_ri : PySem.W.findIn K (.ref a_ri) "__setattr__" = some (some (.builtin "object.__setattr__"))) (mk_ri : PySem.W.makesIn K a_ri = true) (kc_ri : PySem.W.keepIn K (.ref a_ri) = true)
    (na_ri_look : PySem.W.findIn K (.ref a_ri) "look" = some none)
    (na_ri_bounds : PySem.W.findIn K (.ref a_ri) "bounds" = some none)
    (m0 : PySem.W.findIn K (.ref a_ax) "__init__" = some (some (.ref f0))) (i0 : PySem.W.isFn K (.ref f0) = true)
    (l0 : K.lookup f0 = some ⟨oc0, od0, .func (PySem.W.fnOf "__init__" "Axis.__init__" (defArgs s_Axis_init) (defBody s_Axis_init) (defScope s_Axis_init) .none kV0 dc0 pm0 an0 cd0 ct0), sl0⟩) (c0 : PySem.W.codeIn K cd0 "Axis.__init__" = true) (k0 : PySem.W.keepIn K (.ref f0) = true)
    (m1 : PySem.W.findIn K (.ref a_ax) "dot_of" = some (some (.ref f1))) (i1 : PySem.W.isFn K (.ref f1) = true)
    (l1 : K.lookup f1 = some ⟨oc1, od1, .func (PySem.W.fnOf "dot_of" "Axis.dot_of" (defArgs s_Axis_dot_of) (defBody s_Axis_dot_of) (defScope s_Axis_dot_of) .none kV1 dc1 pm1 an1 cd1 ct1), sl1⟩) (c1 : PySem.W.codeIn K cd1 "Axis.dot_of" = true) (k1 : PySem.W.keepIn K (.ref f1) = true)
    (m2 : PySem.W.findIn K (.ref a_ax) "step_dots" = some (some (.ref f2))) (i2 : PySem.W.isFn K (.ref f2) = true)
    (l2 : K.lookup f2 = some ⟨oc2, od2, .func (PySem.W.fnOf "step_dots" "Axis.step_dots" (defArgs s_Axis_step_dots) (defBody s_Axis_step_dots) (defScope s_Axis_step_dots) .none kV2 dc2 pm2 an2 cd2 ct2), sl2⟩) (c2 : PySem.W.codeIn K cd2 "Axis.step_dots" = true) (k2 : PySem.W.keepIn K (.ref f2) = true)
    (m3 : PySem.W.nsIn K mainGlobals "good_steps" = some (some (.ref f3)))
    (l3 : K.lookup f3 = some ⟨oc3, od3, .func (PySem.W.fnOf "good_steps" "good_steps" (defArgs s_good_steps) (defBody s_good_steps) (defScope s_good_steps) .none kV3 dc3 pm3 an3 cd3 ct3), sl3⟩) (c3 : PySem.W.codeIn K cd3 "good_steps" = true) (k3 : PySem.W.keepIn K (.ref f3) = true)
    (m4 : PySem.W.nsIn K mainGlobals "steps_between" = some (some (.ref f4)))
    (l4 : K.lookup f4 = some ⟨oc4, od4, .func (PySem.W.fnOf "steps_between" "steps_between" (defArgs s_steps_between) (defBody s_steps_between) (defScope s_steps_between) .none kV4 dc4 pm4 an4 cd4 ct4), sl4⟩) (c4 : PySem.W.codeIn K cd4 "steps_between" = true) (k4 : PySem.W.keepIn K (.ref f4) = true)
    (m5 : PySem.W.nsIn K mainGlobals "axis_of" = some (some (.ref f5)))
    (l5 : K.lookup f5 = some ⟨oc5, od5, .func (PySem.W.fnOf "axis_of" "axis_of" (defArgs s_axis_of) (defBody s_axis_of) (defScope s_axis_of) .none kV5 dc5 pm5 an5 cd5 ct5), sl5⟩) (c5 : PySem.W.codeIn K cd5 "axis_of" = true) (k5 : PySem.W.keepIn K (.ref f5) = true)
    (m6 : PySem.W.findIn K (.ref a_lk) "__init__" = some (some (.ref f6))) (i6 : PySem.W.isFn K (.ref f6) = true)
    (l6 : K.lookup f6 = some ⟨oc6, od6, .func (PySem.W.fnOf "__init__" "Look.__init__" (defArgs s_Look_init) (defBody s_Look_init) (defScope s_Look_init) .none kV6 dc6 pm6 an6 cd6 ct6), sl6⟩) (c6 : PySem.W.codeIn K cd6 "Look.__init__" = true) (k6 : PySem.W.keepIn K (.ref f6) = true)
    (m7 : PySem.W.findIn K (.ref a_lk) "is_allowed" = some (some (.ref f7))) (i7 : PySem.W.isFn K (.ref f7) = true)
    (l7 : K.lookup f7 = some ⟨oc7, od7, .func (PySem.W.fnOf "is_allowed" "Look.is_allowed" (defArgs s_Look_is_allowed) (defBody s_Look_is_allowed) (defScope s_Look_is_allowed) .none kV7 dc7 pm7 an7 cd7 ct7), sl7⟩) (c7 : PySem.W.codeIn K cd7 "Look.is_allowed" = true) (k7 : PySem.W.keepIn K (.ref f7) = true)
    (m8 : PySem.W.findIn K (.ref a_lk) "band_of" = some (some (.ref f8))) (i8 : PySem.W.isFn K (.ref f8) = true)
    (l8 : K.lookup f8 = some ⟨oc8, od8, .func (PySem.W.fnOf "band_of" "Look.band_of" (defArgs s_Look_band_of) (defBody s_Look_band_of) (defScope s_Look_band_of) .none kV8 dc8 pm8 an8 cd8 ct8), sl8⟩) (c8 : PySem.W.codeIn K cd8 "Look.band_of" = true) (k8 : PySem.W.keepIn K (.ref f8) = true)
    (m9 : PySem.W.findIn K (.ref a_ch) "__init__" = some (some (.ref f9))) (i9 : PySem.W.isFn K (.ref f9) = true)
    (l9 : K.lookup f9 = some ⟨oc9, od9, .func (PySem.W.fnOf "__init__" "Chart.__init__" (defArgs s_Chart_init) (defBody s_Chart_init) (defScope s_Chart_init) .none kV9 dc9 pm9 an9 cd9 ct9), sl9⟩) (c9 : PySem.W.codeIn K cd9 "Chart.__init__" = true) (k9 : PySem.W.keepIn K (.ref f9) = true)
    (m10 : PySem.W.findIn K (.ref a_ch) "begin_anew" = some (some (.ref f10))) (i10 : PySem.W.isFn K (.ref f10) = true)
    (l10 : K.lookup f10 = some ⟨oc10, od10, .func (PySem.W.fnOf "begin_anew" "Chart.begin_anew" (defArgs s_Chart_begin_anew) (defBody s_Chart_begin_anew) (defScope s_Chart_begin_anew) .none kV10 dc10 pm10 an10 cd10 ct10), sl10⟩) (c10 : PySem.W.codeIn K cd10 "Chart.begin_anew" = true) (k10 : PySem.W.keepIn K (.ref f10) = true)
    (m11 : PySem.W.findIn K (.ref a_ch) "columns" = some (some (.ref f11))) (i11 : PySem.W.isFn K (.ref f11) = true)
    (l11 : K.lookup f11 = some ⟨oc11, od11, .func (PySem.W.fnOf "columns" "Chart.columns" (defArgs s_Chart_columns) (defBody s_Chart_columns) (defScope s_Chart_columns) .none kV11 dc11 pm11 an11 cd11 ct11), sl11⟩) (c11 : PySem.W.codeIn K cd11 "Chart.columns" = true) (k11 : PySem.W.keepIn K (.ref f11) = true)
    (m12 : PySem.W.findIn K (.ref a_ch) "number_at" = some (some (.ref f12))) (i12 : PySem.W.isFn K (.ref f12) = true)
    (l12 : K.lookup f12 = some ⟨oc12, od12, .func (PySem.W.fnOf "number_at" "Chart.number_at" (defArgs s_Chart_number_at) (defBody s_Chart_number_at) (defScope s_Chart_number_at) .none kV12 dc12 pm12 an12 cd12 ct12), sl12⟩) (c12 : PySem.W.codeIn K cd12 "Chart.number_at" = true) (k12 : PySem.W.keepIn K (.ref f12) = true)
    (m13 : PySem.W.findIn K (.ref a_ch) "upright_axis" = some (some (.ref f13))) (i13 : PySem.W.isFn K (.ref f13) = true)
    (l13 : K.lookup f13 = some ⟨oc13, od13, .func (PySem.W.fnOf "upright_axis" "Chart.upright_axis" (defArgs s_Chart_upright_axis) (defBody s_Chart_upright_axis) (defScope s_Chart_upright_axis) .none kV13 dc13 pm13 an13 cd13 ct13), sl13⟩) (c13 : PySem.W.codeIn K cd13 "Chart.upright_axis" = true) (k13 : PySem.W.keepIn K (.ref f13) = true)
    (m14 : PySem.W.findIn K (.ref a_ch) "along_axis" = some (some (.ref f14))) (i14 : PySem.W.isFn K (.ref f14) = true)
    (l14 : K.lookup f14 = some ⟨oc14, od14, .func (PySem.W.fnOf "along_axis" "Chart.along_axis" (defArgs s_Chart_along_axis) (defBody s_Chart_along_axis) (defScope s_Chart_along_axis) .none kV14 dc14 pm14 an14 cd14 ct14), sl14⟩) (c14 : PySem.W.codeIn K cd14 "Chart.along_axis" = true) (k14 : PySem.W.keepIn K (.ref f14) = true)
    (m15 : PySem.W.nsIn K mainGlobals "are_rows" = some (some (.ref f15)))
    (l15 : K.lookup f15 = some ⟨oc15, od15, .func (PySem.W.fnOf "are_rows" "are_rows" (defArgs s_are_rows) (defBody s_are_rows) (defScope s_are_rows) .none kV15 dc15 pm15 an15 cd15 ct15), sl15⟩) (c15 : PySem.W.codeIn K cd15 "are_rows" = true) (k15 : PySem.W.keepIn K (.ref f15) = true)
    (m16 : PySem.W.nsIn K mainGlobals "numbers_there" = some (some (.ref f16)))
    (l16 : K.lookup f16 = some ⟨oc16, od16, .func (PySem.W.fnOf "numbers_there" "numbers_there" (defArgs s_numbers_there) (defBody s_numbers_there) (defScope s_numbers_there) .none kV16 dc16 pm16 an16 cd16 ct16), sl16⟩) (c16 : PySem.W.codeIn K cd16 "numbers_there" = true) (k16 : PySem.W.keepIn K (.ref f16) = true)
    (m17 : PySem.W.nsIn K mainGlobals "all_numbers" = some (some (.ref f17)))
    (l17 : K.lookup f17 = some ⟨oc17, od17, .func (PySem.W.fnOf "all_numbers" "all_numbers" (defArgs s_all_numbers) (defBody s_all_numbers) (defScope s_all_numbers) .none kV17 dc17 pm17 an17 cd17 ct17), sl17⟩) (c17 : PySem.W.codeIn K cd17 "all_numbers" = true) (k17 : PySem.W.keepIn K (.ref f17) = true)
    (m18 : PySem.W.nsIn K mainGlobals "column_sums" = some (some (.ref f18)))
    (l18 : K.lookup f18 = some ⟨oc18, od18, .func (PySem.W.fnOf "column_sums" "column_sums" (defArgs s_column_sums) (defBody s_column_sums) (defScope s_column_sums) .none kV18 dc18 pm18 an18 cd18 ct18), sl18⟩) (c18 : PySem.W.codeIn K cd18 "column_sums" = true) (k18 : PySem.W.keepIn K (.ref f18) = true)
    (m19 : PySem.W.nsIn K mainGlobals "upright_numbers" = some (some (.ref f19)))
    (l19 : K.lookup f19 = some ⟨oc19, od19, .func (PySem.W.fnOf "upright_numbers" "upright_numbers" (defArgs s_upright_numbers) (defBody s_upright_numbers) (defScope s_upright_numbers) .none kV19 dc19 pm19 an19 cd19 ct19), sl19⟩) (c19 : PySem.W.codeIn K cd19 "upright_numbers" = true) (k19 : PySem.W.keepIn K (.ref f19) = true)
    (m20 : PySem.W.findIn K (.ref a_ba) "__init__" = some (some (.ref f20))) (i20 : PySem.W.isFn K (.ref f20) = true)
    (l20 : K.lookup f20 = some ⟨oc20, od20, .func (PySem.W.fnOf "__init__" "Bars.__init__" (defArgs s_Bars_init) (defBody s_Bars_init) (defScope s_Bars_init) .none kV20 dc20 pm20 an20 cd20 ct20), sl20⟩) (c20 : PySem.W.codeIn K cd20 "Bars.__init__" = true) (k20 : PySem.W.keepIn K (.ref f20) = true)
    (m21 : PySem.W.findIn K (.ref a_ba) "place_of" = some (some (.ref f21))) (i21 : PySem.W.isFn K (.ref f21) = true)
    (l21 : K.lookup f21 = some ⟨oc21, od21, .func (PySem.W.fnOf "place_of" "Bars.place_of" (defArgs s_Bars_place_of) (defBody s_Bars_place_of) (defScope s_Bars_place_of) .none kV21 dc21 pm21 an21 cd21 ct21), sl21⟩) (c21 : PySem.W.codeIn K cd21 "Bars.place_of" = true) (k21 : PySem.W.keepIn K (.ref f21) = true)
    (m22 : PySem.W.findIn K (.ref a_ba) "one_at" = some (some (.ref f22))) (i22 : PySem.W.isFn K (.ref f22) = true)
    (l22 : K.lookup f22 = some ⟨oc22, od22, .func (PySem.W.fnOf "one_at" "Bars.one_at" (defArgs s_Bars_one_at) (defBody s_Bars_one_at) (defScope s_Bars_one_at) .none kV22 dc22 pm22 an22 cd22 ct22), sl22⟩) (c22 : PySem.W.codeIn K cd22 "Bars.one_at" = true) (k22 : PySem.W.keepIn K (.ref f22) = true)
    (m23 : PySem.W.findIn K (.ref a_ba) "one_within" = some (some (.ref f23))) (i23 : PySem.W.isFn K (.ref f23) = true)
    (l23 : K.lookup f23 = some ⟨oc23, od23, .func (PySem.W.fnOf "one_within" "Bars.one_within" (defArgs s_Bars_one_within) (defBody s_Bars_one_within) (defScope s_Bars_one_within) .none kV23 dc23 pm23 an23 cd23 ct23), sl23⟩) (c23 : PySem.W.codeIn K cd23 "Bars.one_within" = true) (k23 : PySem.W.keepIn K (.ref f23) = true)
    (m24 : PySem.W.findIn K (.ref a_ba) "sides_of" = some (some (.ref f24))) (i24 : PySem.W.isFn K (.ref f24) = true)
    (l24 : K.lookup f24 = some ⟨oc24, od24, .func (PySem.W.fnOf "sides_of" "Bars.sides_of" (defArgs s_Bars_sides_of) (defBody s_Bars_sides_of) (defScope s_Bars_sides_of) .none kV24 dc24 pm24 an24 cd24 ct24), sl24⟩) (c24 : PySem.W.codeIn K cd24 "Bars.sides_of" = true) (k24 : PySem.W.keepIn K (.ref f24) = true)
    (m25 : PySem.W.findIn K (.ref a_ba) "ends_of" = some (some (.ref f25))) (i25 : PySem.W.isFn K (.ref f25) = true)
    (l25 : K.lookup f25 = some ⟨oc25, od25, .func (PySem.W.fnOf "ends_of" "Bars.ends_of" (defArgs s_Bars_ends_of) (defBody s_Bars_ends_of) (defScope s_Bars_ends_of) .none kV25 dc25 pm25 an25 cd25 ct25), sl25⟩) (c25 : PySem.W.codeIn K cd25 "Bars.ends_of" = true) (k25 : PySem.W.keepIn K (.ref f25) = true)
    (m26 : PySem.W.findIn K (.ref a_ba) "base_of" = some (some (.ref f26))) (i26 : PySem.W.isFn K (.ref f26) = true)
    (l26 : K.lookup f26 = some ⟨oc26, od26, .func (PySem.W.fnOf "base_of" "Bars.base_of" (defArgs s_Bars_base_of) (defBody s_Bars_base_of) (defScope s_Bars_base_of) .none kV26 dc26 pm26 an26 cd26 ct26), sl26⟩) (c26 : PySem.W.codeIn K cd26 "Bars.base_of" = true) (k26 : PySem.W.keepIn K (.ref f26) = true)
    (m27 : PySem.W.findIn K (.ref a_po) "__init__" = some (some (.ref f27))) (i27 : PySem.W.isFn K (.ref f27) = true)
    (l27 : K.lookup f27 = some ⟨oc27, od27, .func (PySem.W.fnOf "__init__" "Points.__init__" (defArgs s_Points_init) (defBody s_Points_init) (defScope s_Points_init) .none kV27 dc27 pm27 an27 cd27 ct27), sl27⟩) (c27 : PySem.W.codeIn K cd27 "Points.__init__" = true) (k27 : PySem.W.keepIn K (.ref f27) = true)
    (m28 : PySem.W.findIn K (.ref a_po) "place_of" = some (some (.ref f28))) (i28 : PySem.W.isFn K (.ref f28) = true)
    (l28 : K.lookup f28 = some ⟨oc28, od28, .func (PySem.W.fnOf "place_of" "Points.place_of" (defArgs s_Points_place_of) (defBody s_Points_place_of) (defScope s_Points_place_of) .none kV28 dc28 pm28 an28 cd28 ct28), sl28⟩) (c28 : PySem.W.codeIn K cd28 "Points.place_of" = true) (k28 : PySem.W.keepIn K (.ref f28) = true)
    (m29 : PySem.W.findIn K (.ref a_po) "one_at" = some (some (.ref f29))) (i29 : PySem.W.isFn K (.ref f29) = true)
    (l29 : K.lookup f29 = some ⟨oc29, od29, .func (PySem.W.fnOf "one_at" "Points.one_at" (defArgs s_Points_one_at) (defBody s_Points_one_at) (defScope s_Points_one_at) .none kV29 dc29 pm29 an29 cd29 ct29), sl29⟩) (c29 : PySem.W.codeIn K cd29 "Points.one_at" = true) (k29 : PySem.W.keepIn K (.ref f29) = true)
    (m30 : PySem.W.nsIn K mainGlobals "column_dots" = some (some (.ref f30)))
    (l30 : K.lookup f30 = some ⟨oc30, od30, .func (PySem.W.fnOf "column_dots" "column_dots" (defArgs s_column_dots) (defBody s_column_dots) (defScope s_column_dots) .none kV30 dc30 pm30 an30 cd30 ct30), sl30⟩) (c30 : PySem.W.codeIn K cd30 "column_dots" = true) (k30 : PySem.W.keepIn K (.ref f30) = true)
    (m31 : PySem.W.findIn K (.ref a_re) "__init__" = some (some (.ref f31))) (i31 : PySem.W.isFn K (.ref f31) = true)
    (l31 : K.lookup f31 = some ⟨oc31, od31, .func (PySem.W.fnOf "__init__" "Reader.__init__" (defArgs s_Reader_init) (defBody s_Reader_init) (defScope s_Reader_init) .none kV31 dc31 pm31 an31 cd31 ct31), sl31⟩) (c31 : PySem.W.codeIn K cd31 "Reader.__init__" = true) (k31 : PySem.W.keepIn K (.ref f31) = true)
    (m32 : PySem.W.findIn K (.ref a_re) "at_end" = some (some (.ref f32))) (i32 : PySem.W.isFn K (.ref f32) = true)
    (l32 : K.lookup f32 = some ⟨oc32, od32, .func (PySem.W.fnOf "at_end" "Reader.at_end" (defArgs s_Reader_at_end) (defBody s_Reader_at_end) (defScope s_Reader_at_end) .none kV32 dc32 pm32 an32 cd32 ct32), sl32⟩) (c32 : PySem.W.codeIn K cd32 "Reader.at_end" = true) (k32 : PySem.W.keepIn K (.ref f32) = true)
    (m33 : PySem.W.findIn K (.ref a_re) "take" = some (some (.ref f33))) (i33 : PySem.W.isFn K (.ref f33) = true)
    (l33 : K.lookup f33 = some ⟨oc33, od33, .func (PySem.W.fnOf "take" "Reader.take" (defArgs s_Reader_take) (defBody s_Reader_take) (defScope s_Reader_take) .none kV33 dc33 pm33 an33 cd33 ct33), sl33⟩) (c33 : PySem.W.codeIn K cd33 "Reader.take" = true) (k33 : PySem.W.keepIn K (.ref f33) = true)
    (m34 : PySem.W.findIn K (.ref a_re) "take_list" = some (some (.ref f34))) (i34 : PySem.W.isFn K (.ref f34) = true)
    (l34 : K.lookup f34 = some ⟨oc34, od34, .func (PySem.W.fnOf "take_list" "Reader.take_list" (defArgs s_Reader_take_list) (defBody s_Reader_take_list) (defScope s_Reader_take_list) .none kV34 dc34 pm34 an34 cd34 ct34), sl34⟩) (c34 : PySem.W.codeIn K cd34 "Reader.take_list" = true) (k34 : PySem.W.keepIn K (.ref f34) = true)
    (m35 : PySem.W.findIn K (.ref a_re) "take_lists" = some (some (.ref f35))) (i35 : PySem.W.isFn K (.ref f35) = true)
    (l35 : K.lookup f35 = some ⟨oc35, od35, .func (PySem.W.fnOf "take_lists" "Reader.take_lists" (defArgs s_Reader_take_lists) (defBody s_Reader_take_lists) (defScope s_Reader_take_lists) .none kV35 dc35 pm35 an35 cd35 ct35), sl35⟩) (c35 : PySem.W.codeIn K cd35 "Reader.take_lists" = true) (k35 : PySem.W.keepIn K (.ref f35) = true)
    (m36 : PySem.W.nsIn K mainGlobals "row_numbers" = some (some (.ref f36)))
    (l36 : K.lookup f36 = some ⟨oc36, od36, .func (PySem.W.fnOf "row_numbers" "row_numbers" (defArgs s_row_numbers) (defBody s_row_numbers) (defScope s_row_numbers) .none kV36 dc36 pm36 an36 cd36 ct36), sl36⟩) (c36 : PySem.W.codeIn K cd36 "row_numbers" = true) (k36 : PySem.W.keepIn K (.ref f36) = true)
    (m37 : PySem.W.findIn K (.ref a_ri) "__init__" = some (some (.ref f37))) (i37 : PySem.W.isFn K (.ref f37) = true)
    (l37 : K.lookup f37 = some ⟨oc37, od37, .func (PySem.W.fnOf "__init__" "Ring.__init__" (defArgs s_Ring_init) (defBody s_Ring_init) (defScope s_Ring_init) .none kV37 dc37 pm37 an37 cd37 ct37), sl37⟩) (c37 : PySem.W.codeIn K cd37 "Ring.__init__" = true) (k37 : PySem.W.keepIn K (.ref f37) = true)
    (m38 : PySem.W.findIn K (.ref a_ri) "place_of" = some (some (.ref f38))) (i38 : PySem.W.isFn K (.ref f38) = true)
    (l38 : K.lookup f38 = some ⟨oc38, od38, .func (PySem.W.fnOf "place_of" "Ring.place_of" (defArgs s_Ring_place_of) (defBody s_Ring_place_of) (defScope s_Ring_place_of) .none kV38 dc38 pm38 an38 cd38 ct38), sl38⟩) (c38 : PySem.W.codeIn K cd38 "Ring.place_of" = true) (k38 : PySem.W.keepIn K (.ref f38) = true)
    (m39 : PySem.W.findIn K (.ref a_ri) "one_at" = some (some (.ref f39))) (i39 : PySem.W.isFn K (.ref f39) = true)
    (l39 : K.lookup f39 = some ⟨oc39, od39, .func (PySem.W.fnOf "one_at" "Ring.one_at" (defArgs s_Ring_one_at) (defBody s_Ring_one_at) (defScope s_Ring_one_at) .none kV39 dc39 pm39 an39 cd39 ct39), sl39⟩) (c39 : PySem.W.codeIn K cd39 "Ring.one_at" = true) (k39 : PySem.W.keepIn K (.ref f39) = true)
    (m40 : PySem.W.nsIn K mainGlobals "far_round" = some (some (.ref f40)))
    (l40 : K.lookup f40 = some ⟨oc40, od40, .func (PySem.W.fnOf "far_round" "far_round" (defArgs s_far_round) (defBody s_far_round) (defScope s_far_round) .none kV40 dc40 pm40 an40 cd40 ct40), sl40⟩) (c40 : PySem.W.codeIn K cd40 "far_round" = true) (k40 : PySem.W.keepIn K (.ref f40) = true)
    (m41 : PySem.W.nsIn K mainGlobals "ring_parts" = some (some (.ref f41)))
    (l41 : K.lookup f41 = some ⟨oc41, od41, .func (PySem.W.fnOf "ring_parts" "ring_parts" (defArgs s_ring_parts) (defBody s_ring_parts) (defScope s_ring_parts) .none kV41 dc41 pm41 an41 cd41 ct41), sl41⟩) (c41 : PySem.W.codeIn K cd41 "ring_parts" = true) (k41 : PySem.W.keepIn K (.ref f41) = true)
    (m42 : PySem.W.nsIn K mainGlobals "shares_of" = some (some (.ref f42)))
    (l42 : K.lookup f42 = some ⟨oc42, od42, .func (PySem.W.fnOf "shares_of" "shares_of" (defArgs s_shares_of) (defBody s_shares_of) (defScope s_shares_of) .none kV42 dc42 pm42 an42 (.ref cd) ct42), sl42⟩) (c42 : PySem.W.codeIn K (.ref cd) "shares_of" = true) (k42 : PySem.W.keepIn K (.ref f42) = true)
    (m43 : PySem.W.nsIn K mainGlobals "begins" = some (some (.ref f43)))
    (l43 : K.lookup f43 = some ⟨oc43, od43, .func (PySem.W.fnOf "begins" "begins" (defArgs s_begins) (defBody s_begins) (defScope s_begins) .none kV43 dc43 pm43 an43 cd43 ct43), sl43⟩) (c43 : PySem.W.codeIn K cd43 "begins" = true) (k43 : PySem.W.keepIn K (.ref f43) = true)
    (m44 : PySem.W.nsIn K mainGlobals "data" = some (some (.ref f44)))
    (l44 : K.lookup f44 = some ⟨oc44, od44, .func (PySem.W.fnOf "data" "data" (defArgs s_data) (defBody s_data) (defScope s_data) .none kV44 dc44 pm44 an44 cd44 ct44), sl44⟩) (c44 : PySem.W.codeIn K cd44 "data" = true) (k44 : PySem.W.keepIn K (.ref f44) = true)
    (m45 : PySem.W.nsIn K mainGlobals "look" = some (some (.ref f45)))
    (l45 : K.lookup f45 = some ⟨oc45, od45, .func (PySem.W.fnOf "look" "look" (defArgs s_look) (defBody s_look) (defScope s_look) .none kV45 dc45 pm45 an45 cd45 ct45), sl45⟩) (c45 : PySem.W.codeIn K cd45 "look" = true) (k45 : PySem.W.keepIn K (.ref f45) = true)
    (m46 : PySem.W.nsIn K mainGlobals "axis" = some (some (.ref f46)))
    (l46 : K.lookup f46 = some ⟨oc46, od46, .func (PySem.W.fnOf "axis" "axis" (defArgs s_axis) (defBody s_axis) (defScope s_axis) .none kV46 dc46 pm46 an46 cd46 ct46), sl46⟩) (c46 : PySem.W.codeIn K cd46 "axis" = true) (k46 : PySem.W.keepIn K (.ref f46) = true)
    (m47 : PySem.W.nsIn K mainGlobals "told_axis" = some (some (.ref f47)))
    (l47 : K.lookup f47 = some ⟨oc47, od47, .func (PySem.W.fnOf "told_axis" "told_axis" (defArgs s_told_axis) (defBody s_told_axis) (defScope s_told_axis) .none kV47 dc47 pm47 an47 cd47 ct47), sl47⟩) (c47 : PySem.W.codeIn K cd47 "told_axis" = true) (k47 : PySem.W.keepIn K (.ref f47) = true)
    (m48 : PySem.W.nsIn K mainGlobals "place" = some (some (.ref f48)))
    (l48 : K.lookup f48 = some ⟨oc48, od48, .func (PySem.W.fnOf "place" "place" (defArgs s_place) (defBody s_place) (defScope s_place) .none kV48 dc48 pm48 an48 cd48 ct48), sl48⟩) (c48 : PySem.W.codeIn K cd48 "place" = true) (k48 : PySem.W.keepIn K (.ref f48) = true)
    (m49 : PySem.W.nsIn K mainGlobals "click" = some (some (.ref f49)))
    (l49 : K.lookup f49 = some ⟨oc49, od49, .func (PySem.W.fnOf "click" "click" (defArgs s_click) (defBody s_click) (defScope s_click) .none kV49 dc49 pm49 an49 cd49 ct49), sl49⟩) (c49 : PySem.W.codeIn K cd49 "click" = true) (k49 : PySem.W.keepIn K (.ref f49) = true)
    (m50 : PySem.W.nsIn K mainGlobals "drawn" = some (some (.ref f50)))
    (l50 : K.lookup f50 = some ⟨oc50, od50, .func (PySem.W.fnOf "drawn" "drawn" (defArgs s_drawn) (defBody s_drawn) (defScope s_drawn) .none kV50 dc50 pm50 an50 cd50 ct50), sl50⟩) (c50 : PySem.W.codeIn K cd50 "drawn" = true) (k50 : PySem.W.keepIn K (.ref f50) = true)
    (m51 : PySem.W.nsIn K mainGlobals "shares" = some (some (.ref f51)))
    (l51 : K.lookup f51 = some ⟨oc51, od51, .func (PySem.W.fnOf "shares" "shares" (defArgs s_shares) (defBody s_shares) (defScope s_shares) .none kV51 dc51 pm51 an51 cd51 ct51), sl51⟩) (c51 : PySem.W.codeIn K cd51 "shares" = true) (k51 : PySem.W.keepIn K (.ref f51) = true)
    (m52 : PySem.W.nsIn K mainGlobals "answers" = some (some (.ref f52)))
    (l52 : K.lookup f52 = some ⟨oc52, od52, .func (PySem.W.fnOf "answers" "answers" (defArgs s_answers) (defBody s_answers) (defScope s_answers) .none kV52 dc52 pm52 an52 cd52 ct52), sl52⟩) (c52 : PySem.W.codeIn K cd52 "answers" = true) (k52 : PySem.W.keepIn K (.ref f52) = true)
    (g_SIDE_BY_SIDE : PySem.W.nsIn K mainGlobals "SIDE_BY_SIDE" = some (some (.int 0 t_SIDE_BY_SIDE)))
    (g_STACKED : PySem.W.nsIn K mainGlobals "STACKED" = some (some (.int 1 t_STACKED)))
    (g_LINES : PySem.W.nsIn K mainGlobals "LINES" = some (some (.int 2 t_LINES)))
    (g_POINTS : PySem.W.nsIn K mainGlobals "POINTS" = some (some (.int 3 t_POINTS)))
    (g_RING : PySem.W.nsIn K mainGlobals "RING" = some (some (.int 4 t_RING)))
    (g_FARTHEST : PySem.W.nsIn K mainGlobals "FARTHEST" = some (some (.int 64 t_FARTHEST)))
    (g_UPRIGHT : PySem.W.nsIn K mainGlobals "UPRIGHT" = some (some (.int 0 t_UPRIGHT)))
    (g_ALONG : PySem.W.nsIn K mainGlobals "ALONG" = some (some (.int 1 t_ALONG)))
    (b_len : PySem.W.nsIn K mainGlobals "len" = some none)
    (b_min : PySem.W.nsIn K mainGlobals "min" = some none)
    (b_max : PySem.W.nsIn K mainGlobals "max" = some none)
    (b_abs : PySem.W.nsIn K mainGlobals "abs" = some none)
    (b_any : PySem.W.nsIn K mainGlobals "any" = some none)
    (b_sum : PySem.W.nsIn K mainGlobals "sum" = some none)
    (b_sorted : PySem.W.nsIn K mainGlobals "sorted" = some none)
    (b_range : PySem.W.nsIn K mainGlobals "range" = some none)
    (nT : PySem.W.nsIn K mainGlobals "CALLS" = some (some (.ref cT)))
    (lT : K.lookup cT = some ⟨.type "tuple", odT, .seq #[.ref f43, .ref f44, .ref f45, .ref f46, .ref f48, .ref f49, .ref f51] nTT, slT⟩)
    (lcd : K.lookup cd = some ⟨occ, odc, .fields vsc, slc⟩) (h11 : vsc[11]? = some (.ref tb)) (ltb : K.lookup tb = none) (htb : PySem.W.tabIn K "shares_of" = some (cd, tb))
    (ndf : ([f43, f44, f45, f46, f48, f49, f51] : List Addr).Nodup) (ndc : ([a_ba, a_po, a_ri] : List Addr).Nodup)
    : ∃ (fd : FuncData) (cd tb : Addr), K.lookup tb = none ∧ PySem.W.tabIn K "shares_of" = some (cd, tb) ∧ (∀ (s : Shared) (us : List Value), us.length = (["calls"] : List Str).length → BindsTo s fd ⟨us, []⟩ ((["calls"] : List Str).zip us)) ∧
      ∀ base : Heap, K.In base → base.Ns mainGlobals mg → LamX.TabB base mg cd tb → FnOk P w K mg base CX0 10 fa fd ["calls"] (sp_answers K tb) := by
  have efa := hfa.symm.trans (PySem.W.mg_of X G m52)
  cases efa
  obtain ⟨c, hc⟩ : ∃ c : Cs, c = ⟨a_ax, a_lk, a_ch, a_ba, a_po, a_re, a_ri, tb⟩ := ⟨_, rfl⟩
  have ec_ax : c.ax = a_ax := by rw [hc]
  have ec_lk : c.lk = a_lk := by rw [hc]
  have ec_ch : c.ch = a_ch := by rw [hc]
  have ec_ba : c.ba = a_ba := by rw [hc]
  have ec_po : c.po = a_po := by rw [hc]
  have ec_re : c.re = a_re := by rw [hc]
  have ec_ri : c.ri = a_ri := by rw [hc]
  have ec_tb : c.tb = tb := by rw [hc]
  have T : Txt K mg c := by
    rw [hc]
    exact ⟨⟨pg_ax, hd_ax, po_ax, sa_ax⟩, ⟨pg_lk, hd_lk, po_lk, sa_lk⟩, ⟨pg_ch, hd_ch, po_ch, sa_ch⟩, ⟨pg_ba, hd_ba, po_ba, sa_ba⟩, ⟨pg_po, hd_po, po_po, sa_po⟩, ⟨pg_re, hd_re, po_re, sa_re⟩, ⟨pg_ri, hd_ri, po_ri, sa_ri⟩, na_ax_start, na_ax_step, na_ax_steps, na_lk_kind, na_lk_wide, na_lk_high, na_lk_steps, na_ch_rows, na_ch_look, na_ba_chart, na_ba_upright, na_po_chart, na_po_upright, na_po_first, na_po_alongs, na_re_told, na_re_at, na_ri_look, na_ri_bounds, PySem.W.mg_none_of X G b_len, PySem.W.mg_none_of X G b_min, PySem.W.mg_none_of X G b_max, PySem.W.mg_none_of X G b_abs, PySem.W.mg_none_of X G b_any, PySem.W.mg_none_of X G b_sum, PySem.W.mg_none_of X G b_sorted, PySem.W.mg_none_of X G b_range, ⟨_, PySem.W.mg_of X G g_SIDE_BY_SIDE, ⟨_, rfl⟩⟩, ⟨_, PySem.W.mg_of X G g_STACKED, ⟨_, rfl⟩⟩, ⟨_, PySem.W.mg_of X G g_LINES, ⟨_, rfl⟩⟩, ⟨_, PySem.W.mg_of X G g_POINTS, ⟨_, rfl⟩⟩, ⟨_, PySem.W.mg_of X G g_RING, ⟨_, rfl⟩⟩, ⟨_, PySem.W.mg_of X G g_FARTHEST, ⟨_, rfl⟩⟩, ⟨_, PySem.W.mg_of X G g_UPRIGHT, ⟨_, rfl⟩⟩, ⟨_, PySem.W.mg_of X G g_ALONG, ⟨_, rfl⟩⟩⟩
  have F0 := fun_mk (st := s_Axis_init) l0 c0 k0
  have B0 := F0.binds (ps := ["self", "start", "step", "steps"]) fun _ _ _ _ _ _ us hl => match us, hl with | [_, _, _, _], _ => rfl
  have F1 := fun_mk (st := s_Axis_dot_of) l1 c1 k1
  have B1 := F1.binds (ps := ["self", "number", "dots"]) fun _ _ _ _ _ _ us hl => match us, hl with | [_, _, _], _ => rfl
  have F2 := fun_mk (st := s_Axis_step_dots) l2 c2 k2
  have B2 := F2.binds (ps := ["self", "dots"]) fun _ _ _ _ _ _ us hl => match us, hl with | [_, _], _ => rfl
  have F3 := fun_mk (st := s_good_steps) l3 c3 k3
  have B3 := F3.binds (ps := []) fun _ _ _ _ _ _ us hl => match us, hl with | [], _ => rfl
  have F4 := fun_mk (st := s_steps_between) l4 c4 k4
  have B4 := F4.binds (ps := ["low", "high", "step"]) fun _ _ _ _ _ _ us hl => match us, hl with | [_, _, _], _ => rfl
  have F5 := fun_mk (st := s_axis_of) l5 c5 k5
  have B5 := F5.binds (ps := ["numbers", "most"]) fun _ _ _ _ _ _ us hl => match us, hl with | [_, _], _ => rfl
  have F6 := fun_mk (st := s_Look_init) l6 c6 k6
  have B6 := F6.binds (ps := ["self", "kind", "wide", "high", "steps"]) fun _ _ _ _ _ _ us hl => match us, hl with | [_, _, _, _, _], _ => rfl
  have F7 := fun_mk (st := s_Look_is_allowed) l7 c7 k7
  have B7 := F7.binds (ps := ["self"]) fun _ _ _ _ _ _ us hl => match us, hl with | [_], _ => rfl
  have F8 := fun_mk (st := s_Look_band_of) l8 c8 k8
  have B8 := F8.binds (ps := ["self", "column", "columns"]) fun _ _ _ _ _ _ us hl => match us, hl with | [_, _, _], _ => rfl
  have F9 := fun_mk (st := s_Chart_init) l9 c9 k9
  have B9 := F9.binds (ps := ["self"]) fun _ _ _ _ _ _ us hl => match us, hl with | [_], _ => rfl
  have F10 := fun_mk (st := s_Chart_begin_anew) l10 c10 k10
  have B10 := F10.binds (ps := ["self"]) fun _ _ _ _ _ _ us hl => match us, hl with | [_], _ => rfl
  have F11 := fun_mk (st := s_Chart_columns) l11 c11 k11
  have B11 := F11.binds (ps := ["self"]) fun _ _ _ _ _ _ us hl => match us, hl with | [_], _ => rfl
  have F12 := fun_mk (st := s_Chart_number_at) l12 c12 k12
  have B12 := F12.binds (ps := ["self", "row", "column"]) fun _ _ _ _ _ _ us hl => match us, hl with | [_, _, _], _ => rfl
  have F13 := fun_mk (st := s_Chart_upright_axis) l13 c13 k13
  have B13 := F13.binds (ps := ["self"]) fun _ _ _ _ _ _ us hl => match us, hl with | [_], _ => rfl
  have F14 := fun_mk (st := s_Chart_along_axis) l14 c14 k14
  have B14 := F14.binds (ps := ["self"]) fun _ _ _ _ _ _ us hl => match us, hl with | [_], _ => rfl
  have F15 := fun_mk (st := s_are_rows) l15 c15 k15
  have B15 := F15.binds (ps := ["length", "rows"]) fun _ _ _ _ _ _ us hl => match us, hl with | [_, _], _ => rfl
  have F16 := fun_mk (st := s_numbers_there) l16 c16 k16
  have B16 := F16.binds (ps := ["row"]) fun _ _ _ _ _ _ us hl => match us, hl with | [_], _ => rfl
  have F17 := fun_mk (st := s_all_numbers) l17 c17 k17
  have B17 := F17.binds (ps := ["rows"]) fun _ _ _ _ _ _ us hl => match us, hl with | [_], _ => rfl
  have F18 := fun_mk (st := s_column_sums) l18 c18 k18
  have B18 := F18.binds (ps := ["rows"]) fun _ _ _ _ _ _ us hl => match us, hl with | [_], _ => rfl
  have F19 := fun_mk (st := s_upright_numbers) l19 c19 k19
  have B19 := F19.binds (ps := ["kind", "rows"]) fun _ _ _ _ _ _ us hl => match us, hl with | [_, _], _ => rfl
  have F20 := fun_mk (st := s_Bars_init) l20 c20 k20
  have B20 := F20.binds (ps := ["self", "chart"]) fun _ _ _ _ _ _ us hl => match us, hl with | [_, _], _ => rfl
  have F21 := fun_mk (st := s_Bars_place_of) l21 c21 k21
  have B21 := F21.binds (ps := ["self", "row", "column"]) fun _ _ _ _ _ _ us hl => match us, hl with | [_, _, _], _ => rfl
  have F22 := fun_mk (st := s_Bars_one_at) l22 c22 k22
  have B22 := F22.binds (ps := ["self", "x", "y"]) fun _ _ _ _ _ _ us hl => match us, hl with | [_, _, _], _ => rfl
  have F23 := fun_mk (st := s_Bars_one_within) l23 c23 k23
  have B23 := F23.binds (ps := ["self", "column", "x", "y"]) fun _ _ _ _ _ _ us hl => match us, hl with | [_, _, _, _], _ => rfl
  have F24 := fun_mk (st := s_Bars_sides_of) l24 c24 k24
  have B24 := F24.binds (ps := ["self", "row", "column"]) fun _ _ _ _ _ _ us hl => match us, hl with | [_, _, _], _ => rfl
  have F25 := fun_mk (st := s_Bars_ends_of) l25 c25 k25
  have B25 := F25.binds (ps := ["self", "row", "column"]) fun _ _ _ _ _ _ us hl => match us, hl with | [_, _, _], _ => rfl
  have F26 := fun_mk (st := s_Bars_base_of) l26 c26 k26
  have B26 := F26.binds (ps := ["self", "row", "column"]) fun _ _ _ _ _ _ us hl => match us, hl with | [_, _, _], _ => rfl
  have F27 := fun_mk (st := s_Points_init) l27 c27 k27
  have B27 := F27.binds (ps := ["self", "chart"]) fun _ _ _ _ _ _ us hl => match us, hl with | [_, _], _ => rfl
  have F28 := fun_mk (st := s_Points_place_of) l28 c28 k28
  have B28 := F28.binds (ps := ["self", "row", "column"]) fun _ _ _ _ _ _ us hl => match us, hl with | [_, _, _], _ => rfl
  have F29 := fun_mk (st := s_Points_one_at) l29 c29 k29
  have B29 := F29.binds (ps := ["self", "x", "y"]) fun _ _ _ _ _ _ us hl => match us, hl with | [_, _, _], _ => rfl
  have F30 := fun_mk (st := s_column_dots) l30 c30 k30
  have B30 := F30.binds (ps := ["chart"]) fun _ _ _ _ _ _ us hl => match us, hl with | [_], _ => rfl
  have F31 := fun_mk (st := s_Reader_init) l31 c31 k31
  have B31 := F31.binds (ps := ["self", "told"]) fun _ _ _ _ _ _ us hl => match us, hl with | [_, _], _ => rfl
  have F32 := fun_mk (st := s_Reader_at_end) l32 c32 k32
  have B32 := F32.binds (ps := ["self"]) fun _ _ _ _ _ _ us hl => match us, hl with | [_], _ => rfl
  have F33 := fun_mk (st := s_Reader_take) l33 c33 k33
  have B33 := F33.binds (ps := ["self"]) fun _ _ _ _ _ _ us hl => match us, hl with | [_], _ => rfl
  have F34 := fun_mk (st := s_Reader_take_list) l34 c34 k34
  have B34 := F34.binds (ps := ["self"]) fun _ _ _ _ _ _ us hl => match us, hl with | [_], _ => rfl
  have F35 := fun_mk (st := s_Reader_take_lists) l35 c35 k35
  have B35 := F35.binds (ps := ["self"]) fun _ _ _ _ _ _ us hl => match us, hl with | [_], _ => rfl
  have F36 := fun_mk (st := s_row_numbers) l36 c36 k36
  have B36 := F36.binds (ps := ["told"]) fun _ _ _ _ _ _ us hl => match us, hl with | [_], _ => rfl
  have F37 := fun_mk (st := s_Ring_init) l37 c37 k37
  have B37 := F37.binds (ps := ["self", "parts", "look"]) fun _ _ _ _ _ _ us hl => match us, hl with | [_, _, _], _ => rfl
  have F38 := fun_mk (st := s_Ring_place_of) l38 c38 k38
  have B38 := F38.binds (ps := ["self", "row", "column"]) fun _ _ _ _ _ _ us hl => match us, hl with | [_, _, _], _ => rfl
  have F39 := fun_mk (st := s_Ring_one_at) l39 c39 k39
  have B39 := F39.binds (ps := ["self", "x", "y"]) fun _ _ _ _ _ _ us hl => match us, hl with | [_, _, _], _ => rfl
  have F40 := fun_mk (st := s_far_round) l40 c40 k40
  have B40 := F40.binds (ps := ["u", "v", "r"]) fun _ _ _ _ _ _ us hl => match us, hl with | [_, _, _], _ => rfl
  have F41 := fun_mk (st := s_ring_parts) l41 c41 k41
  have B41 := F41.binds (ps := ["row"]) fun _ _ _ _ _ _ us hl => match us, hl with | [_], _ => rfl
  have F42 := fun_mk (st := s_shares_of) l42 c42 k42
  have B42 := F42.binds (ps := ["parts", "whole"]) fun _ _ _ _ _ _ us hl => match us, hl with | [_, _], _ => rfl
  have F43 := fun_mk (st := s_begins) l43 c43 k43
  have B43 := F43.binds (ps := ["chart", "given", "lists"]) fun _ _ _ _ _ _ us hl => match us, hl with | [_, _, _], _ => rfl
  have F44 := fun_mk (st := s_data) l44 c44 k44
  have B44 := F44.binds (ps := ["chart", "given", "lists"]) fun _ _ _ _ _ _ us hl => match us, hl with | [_, _, _], _ => rfl
  have F45 := fun_mk (st := s_look) l45 c45 k45
  have B45 := F45.binds (ps := ["chart", "given", "lists"]) fun _ _ _ _ _ _ us hl => match us, hl with | [_, _, _], _ => rfl
  have F46 := fun_mk (st := s_axis) l46 c46 k46
  have B46 := F46.binds (ps := ["chart", "given", "lists"]) fun _ _ _ _ _ _ us hl => match us, hl with | [_, _, _], _ => rfl
  have F47 := fun_mk (st := s_told_axis) l47 c47 k47
  have B47 := F47.binds (ps := ["shown", "dots"]) fun _ _ _ _ _ _ us hl => match us, hl with | [_, _], _ => rfl
  have F48 := fun_mk (st := s_place) l48 c48 k48
  have B48 := F48.binds (ps := ["chart", "given", "lists"]) fun _ _ _ _ _ _ us hl => match us, hl with | [_, _, _], _ => rfl
  have F49 := fun_mk (st := s_click) l49 c49 k49
  have B49 := F49.binds (ps := ["chart", "given", "lists"]) fun _ _ _ _ _ _ us hl => match us, hl with | [_, _, _], _ => rfl
  have F50 := fun_mk (st := s_drawn) l50 c50 k50
  have B50 := F50.binds (ps := ["chart"]) fun _ _ _ _ _ _ us hl => match us, hl with | [_], _ => rfl
  have F51 := fun_mk (st := s_shares) l51 c51 k51
  have B51 := F51.binds (ps := ["chart", "given", "lists"]) fun _ _ _ _ _ _ us hl => match us, hl with | [_, _, _], _ => rfl
  have F52 := fun_mk (st := s_answers) l52 c52 k52
  have B52 := F52.binds (ps := ["calls"]) fun _ _ _ _ _ _ us hl => match us, hl with | [_], _ => rfl
  refine ⟨PySem.W.fnOf "answers" "answers" (defArgs s_answers) (defBody s_answers) (defScope s_answers) .none kV52 dc52 pm52 an52 cd52 ct52, cd, tb, ltb, htb, fun s us hu => match us, hu with | [_], _ => .of_eq rfl, fun base KB NB TB => ?_⟩
  rw [← ec_tb] at TB ⊢
  have c_Axis : C8.Mak P w K mg base 1 "Axis" c.ax (sp_Axis c) [] := by
    have G0 := (ok_Axis_init (P := P) (w := w) (base := base) (mg := mg) T F0)
    rw [ec_ax]
    exact ⟨f0, _, _, [], ⟨mk_ax, m0, i0, kc_ax⟩, G0, PySem.W.mg_of X G n_a_ax, B0, .nil⟩
  have c_Axis_dot_of : C8.Met P w K mg base 1 c.ax "dot_of" (sp_dot_of c) [] := by
    have G1 := (ok_Axis_dot_of (P := P) (w := w) (base := base) (mg := mg) T F1)
    have C1 := T.c_ax
    rw [ec_ax] at C1 ⊢
    exact ⟨f1, _, _, [], C1, ⟨m1, i1, k1⟩, G1, B1, .nil⟩
  have c_good_steps : C8.Cal P w K mg base 1 "good_steps" (sp_good_steps) [] := ⟨f3, _, _, [], (ok_good_steps (P := P) (w := w) (base := base) (mg := mg) T F3), PySem.W.mg_of X G m3, k3, B3, .nil⟩
  have c_steps_between : C8.Cal P w K mg base 1 "steps_between" (sp_between) [] := ⟨f4, _, _, [], (ok_steps_between (P := P) (w := w) (base := base) (mg := mg) T F4), PySem.W.mg_of X G m4, k4, B4, .nil⟩
  have c_Look : C8.Mak P w K mg base 1 "Look" c.lk (sp_Look c) [] := by
    have G6 := (ok_Look_init (P := P) (w := w) (base := base) (mg := mg) T F6)
    rw [ec_lk]
    exact ⟨f6, _, _, [], ⟨mk_lk, m6, i6, kc_lk⟩, G6, PySem.W.mg_of X G n_a_lk, B6, .nil⟩
  have c_Look_is_allowed : C8.Met P w K mg base 1 c.lk "is_allowed" (sp_allowed c) [] := by
    have G7 := (ok_Look_is_allowed (P := P) (w := w) (base := base) (mg := mg) T F7)
    have C7 := T.c_lk
    rw [ec_lk] at C7 ⊢
    exact ⟨f7, _, _, [], C7, ⟨m7, i7, k7⟩, G7, B7, .nil⟩
  have c_Look_band_of : C8.Met P w K mg base 1 c.lk "band_of" (sp_band c) [] := by
    have G8 := (ok_Look_band_of (P := P) (w := w) (base := base) (mg := mg) T F8)
    have C8 := T.c_lk
    rw [ec_lk] at C8 ⊢
    exact ⟨f8, _, _, [], C8, ⟨m8, i8, k8⟩, G8, B8, .nil⟩
  have c_Chart_columns : C8.Met P w K mg base 1 c.ch "columns" (sp_columns c) [] := by
    have G11 := (ok_Chart_columns (P := P) (w := w) (base := base) (mg := mg) T F11)
    have C11 := T.c_ch
    rw [ec_ch] at C11 ⊢
    exact ⟨f11, _, _, [], C11, ⟨m11, i11, k11⟩, G11, B11, .nil⟩
  have c_numbers_there : C8.Cal P w K mg base 1 "numbers_there" (sp_there) [] := ⟨f16, _, _, [], (ok_numbers_there (P := P) (w := w) (base := base) (mg := mg) T F16), PySem.W.mg_of X G m16, k16, B16, .nil⟩
  have c_Reader : C8.Mak P w K mg base 1 "Reader" c.re (sp_Reader c) [] := by
    have G31 := (ok_Reader_init (P := P) (w := w) (base := base) (mg := mg) T F31)
    rw [ec_re]
    exact ⟨f31, _, _, [], ⟨mk_re, m31, i31, kc_re⟩, G31, PySem.W.mg_of X G n_a_re, B31, .nil⟩
  have c_Reader_at_end : C8.Met P w K mg base 1 c.re "at_end" (sp_at_end K c) [] := by
    have G32 := (ok_Reader_at_end (P := P) (w := w) (base := base) (mg := mg) T F32)
    have C32 := T.c_re
    rw [ec_re] at C32 ⊢
    exact ⟨f32, _, _, [], C32, ⟨m32, i32, k32⟩, G32, B32, .nil⟩
  have c_Reader_take : C8.Met P w K mg base 1 c.re "take" (sp_take K c) [] := by
    have G33 := (ok_Reader_take (P := P) (w := w) (base := base) (mg := mg) T F33)
    have C33 := T.c_re
    rw [ec_re] at C33 ⊢
    exact ⟨f33, _, _, [], C33, ⟨m33, i33, k33⟩, G33, B33, .nil⟩
  have c_Ring : C8.Mak P w K mg base 1 "Ring" c.ri (sp_Ring c) [] := by
    have G37 := (ok_Ring_init (P := P) (w := w) (base := base) (mg := mg) T F37)
    rw [ec_ri]
    exact ⟨f37, _, _, [], ⟨mk_ri, m37, i37, kc_ri⟩, G37, PySem.W.mg_of X G n_a_ri, B37, .nil⟩
  have c_Ring_place_of : C8.Met P w K mg base 1 c.ri "place_of" (sp_ring_place c) [] := by
    have G38 := (ok_Ring_place_of (P := P) (w := w) (base := base) (mg := mg) T F38)
    have C38 := T.c_ri
    rw [ec_ri] at C38 ⊢
    exact ⟨f38, _, _, [], C38, ⟨m38, i38, k38⟩, G38, B38, .nil⟩
  have c_far_round : C8.Cal P w K mg base 1 "far_round" (sp_far) [] := ⟨f40, _, _, [], (ok_far_round (P := P) (w := w) (base := base) (mg := mg) T F40), PySem.W.mg_of X G m40, k40, B40, .nil⟩
  have c_ring_parts : C8.Cal P w K mg base 1 "ring_parts" (sp_ring_parts) [] := ⟨f41, _, _, [], (ok_ring_parts (P := P) (w := w) (base := base) (mg := mg) T F41), PySem.W.mg_of X G m41, k41, B41, .nil⟩
  have c_shares_of : C8.Cal P w K mg base 1 "shares_of" (sp_shares_of c) [] := ⟨f42, _, _, [], (ok_shares_of (P := P) (w := w) (base := base) T TB l42 c42), PySem.W.mg_of X G m42, k42, B42, .nil⟩
  have c_Axis_step_dots : C8.Met P w K mg base 2 c.ax "step_dots" (sp_step_dots c) [] := by
    have G2 := (ok_Axis_step_dots (P := P) (w := w) (base := base) (mg := mg) T F2 c_Axis_dot_of)
    have C2 := T.c_ax
    rw [ec_ax] at C2 ⊢
    exact ⟨f2, _, _, [], C2, ⟨m2, i2, k2⟩, G2, B2, .nil⟩
  have c_Chart_number_at : C8.Met P w K mg base 2 c.ch "number_at" (sp_number_at c) [] := by
    have G12 := (ok_Chart_number_at (P := P) (w := w) (base := base) (mg := mg) T F12 c_Chart_columns)
    have C12 := T.c_ch
    rw [ec_ch] at C12 ⊢
    exact ⟨f12, _, _, [], C12, ⟨m12, i12, k12⟩, G12, B12, .nil⟩
  have c_are_rows : C8.Cal P w K mg base 2 "are_rows" (sp_are_rows) [] := ⟨f15, _, _, [], (ok_are_rows (P := P) (w := w) (base := base) (mg := mg) T F15 c_numbers_there), PySem.W.mg_of X G m15, k15, B15, .nil⟩
  have c_all_numbers : C8.Cal P w K mg base 2 "all_numbers" (sp_all_numbers) [] := ⟨f17, _, _, [], (ok_all_numbers (P := P) (w := w) (base := base) (mg := mg) T F17 c_numbers_there), PySem.W.mg_of X G m17, k17, B17, .nil⟩
  have c_column_sums : C8.Cal P w K mg base 2 "column_sums" (sp_sums) [] := ⟨f18, _, _, [], (ok_column_sums (P := P) (w := w) (base := base) (mg := mg) T F18 c_numbers_there), PySem.W.mg_of X G m18, k18, B18, .nil⟩
  have c_Bars_sides_of : C8.Met P w K mg base 2 c.ba "sides_of" (sp_sides c) [] := by
    have G24 := (ok_Bars_sides_of (P := P) (w := w) (base := base) (mg := mg) T F24 c_Look_band_of c_Chart_columns)
    have C24 := T.c_ba
    rw [ec_ba] at C24 ⊢
    exact ⟨f24, _, _, [], C24, ⟨m24, i24, k24⟩, G24, B24, .nil⟩
  have c_Reader_take_list : C8.Met P w K mg base 2 c.re "take_list" (sp_take_list K c) [] := by
    have G34 := (ok_Reader_take_list (P := P) (w := w) (base := base) (mg := mg) T F34 c_Reader_take)
    have C34 := T.c_re
    rw [ec_re] at C34 ⊢
    exact ⟨f34, _, _, [], C34, ⟨m34, i34, k34⟩, G34, B34, .nil⟩
  have c_Ring_one_at : C8.Met P w K mg base 2 c.ri "one_at" (sp_ring_at c) [] := by
    have G39 := (ok_Ring_one_at (P := P) (w := w) (base := base) (mg := mg) T F39 c_far_round)
    have C39 := T.c_ri
    rw [ec_ri] at C39 ⊢
    exact ⟨f39, _, _, [], C39, ⟨m39, i39, k39⟩, G39, B39, .nil⟩
  have H_shares : Held P w K mg base 9 f51 (sp_call c of_shares) := ⟨_, _, FnOk.mono (ok_shares (P := P) (w := w) (base := base) (mg := mg) T F51 c_ring_parts c_shares_of) (by decide), k51, B51⟩
  have c_axis_of : C8.Cal P w K mg base 3 "axis_of" (sp_axis_of c) [] := ⟨f5, _, _, [], (ok_axis_of (P := P) (w := w) (base := base) (mg := mg) T F5 c_good_steps c_steps_between c_Axis), PySem.W.mg_of X G m5, k5, B5, .nil⟩
  have c_Chart_begin_anew : C8.Met P w K mg base 3 c.ch "begin_anew" (sp_begin c) [] := by
    have G10 := (ok_Chart_begin_anew (P := P) (w := w) (base := base) (mg := mg) T F10 c_Look)
    have C10 := T.c_ch
    rw [ec_ch] at C10 ⊢
    exact ⟨f10, _, _, [], C10, ⟨m10, i10, k10⟩, G10, B10, .nil⟩
  have c_upright_numbers : C8.Cal P w K mg base 3 "upright_numbers" (sp_upright_numbers) [] := ⟨f19, _, _, [], (ok_upright_numbers (P := P) (w := w) (base := base) (mg := mg) T F19 c_all_numbers c_column_sums), PySem.W.mg_of X G m19, k19, B19, .nil⟩
  have c_Bars_base_of : C8.Met P w K mg base 3 c.ba "base_of" (sp_base c) [] := by
    have G26 := (ok_Bars_base_of (P := P) (w := w) (base := base) (mg := mg) T F26 c_Chart_number_at c_numbers_there)
    have C26 := T.c_ba
    rw [ec_ba] at C26 ⊢
    exact ⟨f26, _, _, [], C26, ⟨m26, i26, k26⟩, G26, B26, .nil⟩
  have c_Points_place_of : C8.Met P w K mg base 3 c.po "place_of" (sp_point_place c) [] := by
    have G28 := (ok_Points_place_of (P := P) (w := w) (base := base) (mg := mg) T F28 c_Chart_number_at c_Axis_dot_of)
    have C28 := T.c_po
    rw [ec_po] at C28 ⊢
    exact ⟨f28, _, _, [], C28, ⟨m28, i28, k28⟩, G28, B28, .nil⟩
  have c_Reader_take_lists : C8.Met P w K mg base 3 c.re "take_lists" (sp_take_lists K c) [] := by
    have G35 := (ok_Reader_take_lists (P := P) (w := w) (base := base) (mg := mg) T F35 c_Reader_take c_Reader_take_list)
    have C35 := T.c_re
    rw [ec_re] at C35 ⊢
    exact ⟨f35, _, _, [], C35, ⟨m35, i35, k35⟩, G35, B35, .nil⟩
  have c_row_numbers : C8.Cal P w K mg base 3 "row_numbers" (sp_row_numbers) [] := ⟨f36, _, _, [], (ok_row_numbers (P := P) (w := w) (base := base) (mg := mg) T F36 c_Reader c_Reader_at_end c_Reader_take), PySem.W.mg_of X G m36, k36, B36, .nil⟩
  have H_look : Held P w K mg base 9 f45 (sp_call c of_look) := ⟨_, _, FnOk.mono (ok_look (P := P) (w := w) (base := base) (mg := mg) T F45 c_Look c_Look_is_allowed) (by decide), k45, B45⟩
  have c_told_axis : C8.Cal P w K mg base 3 "told_axis" (sp_told_axis c) [] := ⟨f47, _, _, [], (ok_told_axis (P := P) (w := w) (base := base) (mg := mg) T F47 c_Axis_step_dots), PySem.W.mg_of X G m47, k47, B47, .nil⟩
  have c_Chart : C8.Mak P w K mg base 4 "Chart" c.ch (sp_Chart c) [] := by
    have G9 := (ok_Chart_init (P := P) (w := w) (base := base) (mg := mg) T F9 c_Chart_begin_anew)
    rw [ec_ch]
    exact ⟨f9, _, _, [], ⟨mk_ch, m9, i9, kc_ch⟩, G9, PySem.W.mg_of X G n_a_ch, B9, .nil⟩
  have c_Chart_upright_axis : C8.Met P w K mg base 4 c.ch "upright_axis" (sp_axis false c) [] := by
    have G13 := (ok_Chart_upright_axis (P := P) (w := w) (base := base) (mg := mg) T F13 c_axis_of c_upright_numbers)
    have C13 := T.c_ch
    rw [ec_ch] at C13 ⊢
    exact ⟨f13, _, _, [], C13, ⟨m13, i13, k13⟩, G13, B13, .nil⟩
  have c_Chart_along_axis : C8.Met P w K mg base 4 c.ch "along_axis" (sp_axis true c) [] := by
    have G14 := (ok_Chart_along_axis (P := P) (w := w) (base := base) (mg := mg) T F14 c_axis_of c_numbers_there)
    have C14 := T.c_ch
    rw [ec_ch] at C14 ⊢
    exact ⟨f14, _, _, [], C14, ⟨m14, i14, k14⟩, G14, B14, .nil⟩
  have c_Bars_ends_of : C8.Met P w K mg base 4 c.ba "ends_of" (sp_ends c) [] := by
    have G25 := (ok_Bars_ends_of (P := P) (w := w) (base := base) (mg := mg) T F25 c_Bars_base_of c_Chart_number_at c_Axis_dot_of)
    have C25 := T.c_ba
    rw [ec_ba] at C25 ⊢
    exact ⟨f25, _, _, [], C25, ⟨m25, i25, k25⟩, G25, B25, .nil⟩
  have c_Points_one_at : C8.Met P w K mg base 4 c.po "one_at" (sp_point_at c) [] := by
    have G29 := (ok_Points_one_at (P := P) (w := w) (base := base) (mg := mg) T F29 c_Chart_columns c_Points_place_of)
    have C29 := T.c_po
    rw [ec_po] at C29 ⊢
    exact ⟨f29, _, _, [], C29, ⟨m29, i29, k29⟩, G29, B29, .nil⟩
  have H_begins : Held P w K mg base 9 f43 (sp_call c of_begins) := ⟨_, _, FnOk.mono (ok_begins (P := P) (w := w) (base := base) (mg := mg) T F43 c_Chart_begin_anew) (by decide), k43, B43⟩
  have H_data : Held P w K mg base 9 f44 (sp_call c of_data) := ⟨_, _, FnOk.mono (ok_data (P := P) (w := w) (base := base) (mg := mg) T F44 c_row_numbers c_are_rows) (by decide), k44, B44⟩
  have c_Bars : C8.Mak P w K mg base 5 "Bars" c.ba (sp_Bars c) [] := by
    have G20 := (ok_Bars_init (P := P) (w := w) (base := base) (mg := mg) T F20 c_Chart_upright_axis)
    rw [ec_ba]
    exact ⟨f20, _, _, [], ⟨mk_ba, m20, i20, kc_ba⟩, G20, PySem.W.mg_of X G n_a_ba, B20, .nil⟩
  have c_Bars_place_of : C8.Met P w K mg base 5 c.ba "place_of" (sp_bar_place c) [] := by
    have G21 := (ok_Bars_place_of (P := P) (w := w) (base := base) (mg := mg) T F21 c_Chart_number_at c_Bars_sides_of c_Bars_ends_of)
    have C21 := T.c_ba
    rw [ec_ba] at C21 ⊢
    exact ⟨f21, _, _, [], C21, ⟨m21, i21, k21⟩, G21, B21, .nil⟩
  have c_column_dots : C8.Cal P w K mg base 5 "column_dots" (sp_column_dots c) [] := ⟨f30, _, _, [], (ok_column_dots (P := P) (w := w) (base := base) (mg := mg) T F30 c_Chart_along_axis c_Axis_dot_of c_Chart_columns c_Look_band_of), PySem.W.mg_of X G m30, k30, B30, .nil⟩
  have H_axis : Held P w K mg base 9 f46 (sp_call c of_axis) := ⟨_, _, FnOk.mono (ok_axis (P := P) (w := w) (base := base) (mg := mg) T F46 c_told_axis c_Chart_along_axis c_Chart_upright_axis) (by decide), k46, B46⟩
  have c_Bars_one_within : C8.Met P w K mg base 6 c.ba "one_within" (sp_bar_within c) [] := by
    have G23 := (ok_Bars_one_within (P := P) (w := w) (base := base) (mg := mg) T F23 c_Bars_place_of)
    have C23 := T.c_ba
    rw [ec_ba] at C23 ⊢
    exact ⟨f23, _, _, [], C23, ⟨m23, i23, k23⟩, G23, B23, .nil⟩
  have c_Points : C8.Mak P w K mg base 6 "Points" c.po (sp_Points c) [] := by
    have G27 := (ok_Points_init (P := P) (w := w) (base := base) (mg := mg) T F27 c_Chart_upright_axis c_column_dots)
    rw [ec_po]
    exact ⟨f27, _, _, [], ⟨mk_po, m27, i27, kc_po⟩, G27, PySem.W.mg_of X G n_a_po, B27, .nil⟩
  have c_Bars_one_at : C8.Met P w K mg base 7 c.ba "one_at" (sp_bar_at c) [] := by
    have G22 := (ok_Bars_one_at (P := P) (w := w) (base := base) (mg := mg) T F22 c_Chart_columns c_Look_band_of c_Bars_one_within)
    have C22 := T.c_ba
    rw [ec_ba] at C22 ⊢
    exact ⟨f22, _, _, [], C22, ⟨m22, i22, k22⟩, G22, B22, .nil⟩
  have c_drawn : C8.Cal P w K mg base 8 "drawn" (sp_drawn c) [] := ⟨f50, _, _, [], (ok_drawn (P := P) (w := w) (base := base) (mg := mg) T F50 c_Points c_Ring c_ring_parts c_Bars), PySem.W.mg_of X G m50, k50, B50, .nil⟩
  have Ap : Apart c := by
    rw [hc]
    exact ⟨ne_of_nodup ndc (i := 1) (j := 0) rfl rfl (by decide), ne_of_nodup ndc (i := 2) (j := 0) rfl rfl (by decide), ne_of_nodup ndc (i := 2) (j := 1) rfl rfl (by decide)⟩
  have M_place : ∀ C sp, S_place c C = some sp → C8.Met P w K mg base 5 C "place_of" sp [] := by
    intro C sp hC
    unfold S_place at hC
    split at hC
    · rename_i e
      cases hC
      rw [e]
      exact met_mono c_Bars_place_of (by decide)
    split at hC
    · rename_i e
      cases hC
      rw [e]
      exact met_mono c_Points_place_of (by decide)
    split at hC
    · rename_i e
      cases hC
      rw [e]
      exact met_mono c_Ring_place_of (by decide)
    · cases hC
  have H_place : Held P w K mg base 9 f48 (sp_call c of_place) := ⟨_, _, FnOk.mono (ok_place (P := P) (w := w) (base := base) T F48 Ap M_place c_drawn) (by decide), k48, B48⟩
  have M_click : ∀ C sp, S_at c C = some sp → C8.Met P w K mg base 7 C "one_at" sp [] := by
    intro C sp hC
    unfold S_at at hC
    split at hC
    · rename_i e
      cases hC
      rw [e]
      exact met_mono c_Bars_one_at (by decide)
    split at hC
    · rename_i e
      cases hC
      rw [e]
      exact met_mono c_Points_one_at (by decide)
    split at hC
    · rename_i e
      cases hC
      rw [e]
      exact met_mono c_Ring_one_at (by decide)
    · cases hC
  have H_click : Held P w K mg base 9 f49 (sp_call c of_click) := ⟨_, _, FnOk.mono (ok_click (P := P) (w := w) (base := base) T F49 Ap M_click c_drawn) (by decide), k49, B49⟩
  obtain ⟨fs, hfs⟩ : ∃ fs : Nat → Addr, fs = fun i => match i with | 0 => f43 | 1 => f44 | 2 => f45 | 3 => f46 | 4 => f48 | 5 => f49 | _ => f51 := ⟨_, rfl⟩
  have e0 : fs 0 = f43 := by rw [hfs] <;> rfl
  have e1 : fs 1 = f44 := by rw [hfs] <;> rfl
  have e2 : fs 2 = f45 := by rw [hfs] <;> rfl
  have e3 : fs 3 = f46 := by rw [hfs] <;> rfl
  have e4 : fs 4 = f48 := by rw [hfs] <;> rfl
  have e5 : fs 5 = f49 := by rw [hfs] <;> rfl
  have e6 : fs 6 = f51 := by rw [hfs] <;> rfl
  have MA : ∀ f sp, S_calls c fs f = some sp → Held P w K mg base 9 f sp := by
    intro f sp hS
    unfold S_calls at hS
    split at hS
    · rename_i e
      cases hS
      rw [e, e0]
      exact H_begins
    split at hS
    · rename_i e
      cases hS
      rw [e, e1]
      exact H_data
    split at hS
    · rename_i e
      cases hS
      rw [e, e2]
      exact H_look
    split at hS
    · rename_i e
      cases hS
      rw [e, e3]
      exact H_axis
    split at hS
    · rename_i e
      cases hS
      rw [e, e4]
      exact H_place
    split at hS
    · rename_i e
      cases hS
      rw [e, e5]
      exact H_click
    split at hS
    · rename_i e
      cases hS
      rw [e, e6]
      exact H_shares
    · cases hS
  have hT : ∀ H, SqT K H cT (fsV fs) := fun H => by
    refine Or.inr ⟨_, _, _, lT, rfl, rfl, (by show 7 ≤ sizeLine; decide), ?_⟩
    unfold fsV
    rw [e0, e1, e2, e3, e4, e5, e6]
    exact .cons rfl (.cons rfl (.cons rfl (.cons rfl (.cons rfl (.cons rfl (.cons rfl .nil))))))
  have at_ : ∀ i, i < 7 → ([f43, f44, f45, f46, f48, f49, f51] : List Addr)[i]? = some (fs i) := fun i hi => by
    match i, hi with
    | 0, _ => rw [e0] <;> rfl
    | 1, _ => rw [e1] <;> rfl
    | 2, _ => rw [e2] <;> rfl
    | 3, _ => rw [e3] <;> rfl
    | 4, _ => rw [e4] <;> rfl
    | 5, _ => rw [e5] <;> rfl
    | 6, _ => rw [e6] <;> rfl
  have dd : ∀ i j, i < 7 → j < 7 → i ≠ j → fs i ≠ fs j := fun i j hi hj n => ne_of_nodup ndf (at_ i hi) (at_ j hj) n
  exact ok_answers T F52 MA ⟨_, PySem.W.mg_of X G nT, rfl⟩ hT dd c_Chart c_Reader c_Reader_at_end c_Reader_take c_Reader_take_list c_Reader_take_lists
/-- the request is what the promise asks, the answer what the specification says -/
theorem end_say (K : PySem.W.Frag) (tb : Addr) (l : List Int) {H : Hp} {p : Addr} (hs : SqL K H p (l.map V.int)) (hT : LamX.TabS H tb lamQ) (hl : l.length ≤ 8000) (hask : PySi28.answers_asked l = true) : sp_answers K tb [.ref p] H (fun v H' => Dw K H' v (.list ((PySi28.answers l).map PySem.W.WData.int))) fun _ _ _ => False := by
  unfold PySi28.answers_asked at hask
  cases hc : PySi28.calls l with
  | none => rw [hc] at hask; cases hask
  | some cs =>
    rw [hc] at hask
    simp only [Bool.and_eq_true] at hask
    obtain ⟨⟨⟨⟨_, _⟩, _⟩, h4⟩, h5⟩ := hask
    have h6 : cs.all Si28Neutral.asked1 = true := by
      unfold Si28Neutral.asked at h4
      exact (Bool.and_eq_true_iff.mp h4).1
    have h7 : (PySi28.answers l).length ≤ 10000000 := of_decide_eq_true h5
    exact ⟨p, l, cs, rfl, hs, hT, hl, hc, h6, h7, fun t H' ht => .lst (SqL.of ht) (dw_ints _)⟩
end DC
open PySem PySem.W PyProof.Rows
set_option maxRecDepth 100000 in
set_option maxHeartbeats 16000000 in
theorem PySem.Challenge.cw_dotcharts_s01_answers_holds : PySem.Challenge.rw_dotcharts_s01_answers.Holds := by
  w_on; k_headS; (case hw => exact ⟨[.list [.int 0, .int 0, .int 0]], by decide +kernel, by decide +kernel⟩)
  k_fillS
  refine DC.walk_tabbed (r := PySem.Challenge.rw_dotcharts_s01_answers) (k := 10) (ps := ["calls"]) (sp := DC.sp_answers) (x := "shares_of") (by decide +kernel) rfl rfl ⟨rfl, by decide, by decide⟩ rfl (fun w h Y => PySem.W.kIn_of Y) ?F ?S
  case F =>
    intro w mg fa h Y KX G hmg
    refine' DC.all_mk KX G hmg ?n_a_ax ?n_a_lk ?n_a_ch ?n_a_ba ?n_a_po ?n_a_re ?n_a_ri ?pg_ax ?hd_ax ?po_ax ?sa_ax ?mk_ax ?kc_ax ?na_ax_start ?na_ax_step ?na_ax_steps ?pg_lk ?hd_lk ?po_lk ?sa_lk ?mk_lk ?kc_lk ?na_lk_kind ?na_lk_wide ?na_lk_high ?na_lk_steps ?pg_ch ?hd_ch ?po_ch ?sa_ch ?mk_ch ?kc_ch ?na_ch_rows ?na_ch_look ?pg_ba ?hd_ba ?po_ba ?sa_ba ?mk_ba ?kc_ba ?na_ba_chart ?na_ba_upright ?pg_po ?hd_po ?po_po ?sa_po ?mk_po ?kc_po ?na_po_chart ?na_po_upright ?na_po_first ?na_po_alongs ?pg_re ?hd_re ?po_re ?sa_re ?mk_re ?kc_re ?na_re_told ?na_re_at ?pg_ri ?hd_ri ?po_ri ?sa_ri ?mk_ri ?kc_ri ?na_ri_look ?na_ri_bounds ?m0 ?i0 ?l0 ?c0 ?k0 ?m1 ?i1 ?l1 ?c1 ?k1 ?m2 ?i2 ?l2 ?c2 ?k2 ?m3 ?l3 ?c3 ?k3 ?m4 ?l4 ?c4 ?k4 ?m5 ?l5 ?c5 ?k5 ?m6 ?i6 ?l6 ?c6 ?k6 ?m7 ?i7 ?l7 ?c7 ?k7 ?m8 ?i8 ?l8 ?c8 ?k8 ?m9 ?i9 ?l9 ?c9 ?k9 ?m10 ?i10 ?l10 ?c10 ?k10 ?m11 ?i11 ?l11 ?c11 ?k11 ?m12 ?i12 ?l12 ?c12 ?k12 ?m13 ?i13 ?l13 ?c13 ?k13 ?m14 ?i14 ?l14 ?c14 ?k14 ?m15 ?l15 ?c15 ?k15 ?m16 ?l16 ?c16 ?k16 ?m17 ?l17 ?c17 ?k17 ?m18 ?l18 ?c18 ?k18 ?m19 ?l19 ?c19 ?k19 ?m20 ?i20 ?l20 ?c20 ?k20 ?m21 ?i21 ?l21 ?c21 ?k21 ?m22 ?i22 ?l22 ?c22 ?k22 ?m23 ?i23 ?l23 ?c23 ?k23 ?m24 ?i24 ?l24 ?c24 ?k24 ?m25 ?i25 ?l25 ?c25 ?k25 ?m26 ?i26 ?l26 ?c26 ?k26 ?m27 ?i27 ?l27 ?c27 ?k27 ?m28 ?i28 ?l28 ?c28 ?k28 ?m29 ?i29 ?l29 ?c29 ?k29 ?m30 ?l30 ?c30 ?k30 ?m31 ?i31 ?l31 ?c31 ?k31 ?m32 ?i32 ?l32 ?c32 ?k32 ?m33 ?i33 ?l33 ?c33 ?k33 ?m34 ?i34 ?l34 ?c34 ?k34 ?m35 ?i35 ?l35 ?c35 ?k35 ?m36 ?l36 ?c36 ?k36 ?m37 ?i37 ?l37 ?c37 ?k37 ?m38 ?i38 ?l38 ?c38 ?k38 ?m39 ?i39 ?l39 ?c39 ?k39 ?m40 ?l40 ?c40 ?k40 ?m41 ?l41 ?c41 ?k41 ?m42 ?l42 ?c42 ?k42 ?m43 ?l43 ?c43 ?k43 ?m44 ?l44 ?c44 ?k44 ?m45 ?l45 ?c45 ?k45 ?m46 ?l46 ?c46 ?k46 ?m47 ?l47 ?c47 ?k47 ?m48 ?l48 ?c48 ?k48 ?m49 ?l49 ?c49 ?k49 ?m50 ?l50 ?c50 ?k50 ?m51 ?l51 ?c51 ?k51 ?m52 ?l52 ?c52 ?k52 ?g_SIDE_BY_SIDE ?g_STACKED ?g_LINES ?g_POINTS ?g_RING ?g_FARTHEST ?g_UPRIGHT ?g_ALONG ?b_len ?b_min ?b_max ?b_abs ?b_any ?b_sum ?b_sorted ?b_range ?nT ?lT ?lcd ?h11 ?ltb ?htb ?ndf ?ndc
    (case n_a_ax => k_is)
    (case n_a_lk => k_is)
    (case n_a_ch => k_is)
    (case n_a_ba => k_is)
    (case n_a_po => k_is)
    (case n_a_re => k_is)
    (case n_a_ri => k_is)
    (case pg_ax => k_is)
    (case hd_ax => k_is)
    (case po_ax => k_is)
    (case sa_ax => k_is)
    (case mk_ax => k_is)
    (case kc_ax => k_is)
    (case na_ax_start => k_is)
    (case na_ax_step => k_is)
    (case na_ax_steps => k_is)
    (case pg_lk => k_is)
    (case hd_lk => k_is)
    (case po_lk => k_is)
    (case sa_lk => k_is)
    (case mk_lk => k_is)
    (case kc_lk => k_is)
    (case na_lk_kind => k_is)
    (case na_lk_wide => k_is)
    (case na_lk_high => k_is)
    (case na_lk_steps => k_is)
    (case pg_ch => k_is)
    (case hd_ch => k_is)
    (case po_ch => k_is)
    (case sa_ch => k_is)
    (case mk_ch => k_is)
    (case kc_ch => k_is)
    (case na_ch_rows => k_is)
    (case na_ch_look => k_is)
    (case pg_ba => k_is)
    (case hd_ba => k_is)
    (case po_ba => k_is)
    (case sa_ba => k_is)
    (case mk_ba => k_is)
    (case kc_ba => k_is)
    (case na_ba_chart => k_is)
    (case na_ba_upright => k_is)
    (case pg_po => k_is)
    (case hd_po => k_is)
    (case po_po => k_is)
    (case sa_po => k_is)
    (case mk_po => k_is)
    (case kc_po => k_is)
    (case na_po_chart => k_is)
    (case na_po_upright => k_is)
    (case na_po_first => k_is)
    (case na_po_alongs => k_is)
    (case pg_re => k_is)
    (case hd_re => k_is)
    (case po_re => k_is)
    (case sa_re => k_is)
    (case mk_re => k_is)
    (case kc_re => k_is)
    (case na_re_told => k_is)
    (case na_re_at => k_is)
    (case pg_ri => k_is)
    (case hd_ri => k_is)
    (case po_ri => k_is)
    (case sa_ri => k_is)
    (case mk_ri => k_is)
    (case kc_ri => k_is)
    (case na_ri_look => k_is)
    (case na_ri_bounds => k_is)
    (case m0 => k_is)
    (case i0 => k_is)
    (case l0 => k_is)
    (case c0 => k_is)
    (case k0 => k_is)
    (case m1 => k_is)
    (case i1 => k_is)
    (case l1 => k_is)
    (case c1 => k_is)
    (case k1 => k_is)
    (case m2 => k_is)
    (case i2 => k_is)
    (case l2 => k_is)
    (case c2 => k_is)
    (case k2 => k_is)
    (case m3 => k_is)
    (case l3 => k_is)
    (case c3 => k_is)
    (case k3 => k_is)
    (case m4 => k_is)
    (case l4 => k_is)
    (case c4 => k_is)
    (case k4 => k_is)
    (case m5 => k_is)
    (case l5 => k_is)
    (case c5 => k_is)
    (case k5 => k_is)
    (case m6 => k_is)
    (case i6 => k_is)
    (case l6 => k_is)
    (case c6 => k_is)
    (case k6 => k_is)
    (case m7 => k_is)
    (case i7 => k_is)
    (case l7 => k_is)
    (case c7 => k_is)
    (case k7 => k_is)
    (case m8 => k_is)
    (case i8 => k_is)
    (case l8 => k_is)
    (case c8 => k_is)
    (case k8 => k_is)
    (case m9 => k_is)
    (case i9 => k_is)
    (case l9 => k_is)
    (case c9 => k_is)
    (case k9 => k_is)
    (case m10 => k_is)
    (case i10 => k_is)
    (case l10 => k_is)
    (case c10 => k_is)
    (case k10 => k_is)
    (case m11 => k_is)
    (case i11 => k_is)
    (case l11 => k_is)
    (case c11 => k_is)
    (case k11 => k_is)
    (case m12 => k_is)
    (case i12 => k_is)
    (case l12 => k_is)
    (case c12 => k_is)
    (case k12 => k_is)
    (case m13 => k_is)
    (case i13 => k_is)
    (case l13 => k_is)
    (case c13 => k_is)
    (case k13 => k_is)
    (case m14 => k_is)
    (case i14 => k_is)
    (case l14 => k_is)
    (case c14 => k_is)
    (case k14 => k_is)
    (case m15 => k_is)
    (case l15 => k_is)
    (case c15 => k_is)
    (case k15 => k_is)
    (case m16 => k_is)
    (case l16 => k_is)
    (case c16 => k_is)
    (case k16 => k_is)
    (case m17 => k_is)
    (case l17 => k_is)
    (case c17 => k_is)
    (case k17 => k_is)
    (case m18 => k_is)
    (case l18 => k_is)
    (case c18 => k_is)
    (case k18 => k_is)
    (case m19 => k_is)
    (case l19 => k_is)
    (case c19 => k_is)
    (case k19 => k_is)
    (case m20 => k_is)
    (case i20 => k_is)
    (case l20 => k_is)
    (case c20 => k_is)
    (case k20 => k_is)
    (case m21 => k_is)
    (case i21 => k_is)
    (case l21 => k_is)
    (case c21 => k_is)
    (case k21 => k_is)
    (case m22 => k_is)
    (case i22 => k_is)
    (case l22 => k_is)
    (case c22 => k_is)
    (case k22 => k_is)
    (case m23 => k_is)
    (case i23 => k_is)
    (case l23 => k_is)
    (case c23 => k_is)
    (case k23 => k_is)
    (case m24 => k_is)
    (case i24 => k_is)
    (case l24 => k_is)
    (case c24 => k_is)
    (case k24 => k_is)
    (case m25 => k_is)
    (case i25 => k_is)
    (case l25 => k_is)
    (case c25 => k_is)
    (case k25 => k_is)
    (case m26 => k_is)
    (case i26 => k_is)
    (case l26 => k_is)
    (case c26 => k_is)
    (case k26 => k_is)
    (case m27 => k_is)
    (case i27 => k_is)
    (case l27 => k_is)
    (case c27 => k_is)
    (case k27 => k_is)
    (case m28 => k_is)
    (case i28 => k_is)
    (case l28 => k_is)
    (case c28 => k_is)
    (case k28 => k_is)
    (case m29 => k_is)
    (case i29 => k_is)
    (case l29 => k_is)
    (case c29 => k_is)
    (case k29 => k_is)
    (case m30 => k_is)
    (case l30 => k_is)
    (case c30 => k_is)
    (case k30 => k_is)
    (case m31 => k_is)
    (case i31 => k_is)
    (case l31 => k_is)
    (case c31 => k_is)
    (case k31 => k_is)
    (case m32 => k_is)
    (case i32 => k_is)
    (case l32 => k_is)
    (case c32 => k_is)
    (case k32 => k_is)
    (case m33 => k_is)
    (case i33 => k_is)
    (case l33 => k_is)
    (case c33 => k_is)
    (case k33 => k_is)
    (case m34 => k_is)
    (case i34 => k_is)
    (case l34 => k_is)
    (case c34 => k_is)
    (case k34 => k_is)
    (case m35 => k_is)
    (case i35 => k_is)
    (case l35 => k_is)
    (case c35 => k_is)
    (case k35 => k_is)
    (case m36 => k_is)
    (case l36 => k_is)
    (case c36 => k_is)
    (case k36 => k_is)
    (case m37 => k_is)
    (case i37 => k_is)
    (case l37 => k_is)
    (case c37 => k_is)
    (case k37 => k_is)
    (case m38 => k_is)
    (case i38 => k_is)
    (case l38 => k_is)
    (case c38 => k_is)
    (case k38 => k_is)
    (case m39 => k_is)
    (case i39 => k_is)
    (case l39 => k_is)
    (case c39 => k_is)
    (case k39 => k_is)
    (case m40 => k_is)
    (case l40 => k_is)
    (case c40 => k_is)
    (case k40 => k_is)
    (case m41 => k_is)
    (case l41 => k_is)
    (case c41 => k_is)
    (case k41 => k_is)
    (case m42 => k_is)
    (case l42 => k_is)
    (case c42 => k_is)
    (case k42 => k_is)
    (case m43 => k_is)
    (case l43 => k_is)
    (case c43 => k_is)
    (case k43 => k_is)
    (case m44 => k_is)
    (case l44 => k_is)
    (case c44 => k_is)
    (case k44 => k_is)
    (case m45 => k_is)
    (case l45 => k_is)
    (case c45 => k_is)
    (case k45 => k_is)
    (case m46 => k_is)
    (case l46 => k_is)
    (case c46 => k_is)
    (case k46 => k_is)
    (case m47 => k_is)
    (case l47 => k_is)
    (case c47 => k_is)
    (case k47 => k_is)
    (case m48 => k_is)
    (case l48 => k_is)
    (case c48 => k_is)
    (case k48 => k_is)
    (case m49 => k_is)
    (case l49 => k_is)
    (case c49 => k_is)
    (case k49 => k_is)
    (case m50 => k_is)
    (case l50 => k_is)
    (case c50 => k_is)
    (case k50 => k_is)
    (case m51 => k_is)
    (case l51 => k_is)
    (case c51 => k_is)
    (case k51 => k_is)
    (case m52 => k_is)
    (case l52 => k_is)
    (case c52 => k_is)
    (case k52 => k_is)
    (case g_SIDE_BY_SIDE => k_is)
    (case g_STACKED => k_is)
    (case g_LINES => k_is)
    (case g_POINTS => k_is)
    (case g_RING => k_is)
    (case g_FARTHEST => k_is)
    (case g_UPRIGHT => k_is)
    (case g_ALONG => k_is)
    (case b_len => k_is)
    (case b_min => k_is)
    (case b_max => k_is)
    (case b_abs => k_is)
    (case b_any => k_is)
    (case b_sum => k_is)
    (case b_sorted => k_is)
    (case b_range => k_is)
    (case nT => k_is)
    (case lT => k_is)
    (case lcd => k_is)
    (case h11 => rfl)
    (case ltb => first | k_is | rfl | kernel_rfl)
    (case htb => first | kernel_rfl | k_is | rfl)
    (case ndf => decide)
    (case ndc => decide)
  case S =>
    intro K tb H0 H xs a h01 htb hwi hask hx
    cases hx with
    | cons h1 h2 =>
      cases h2
      cases h1 with
      | lst hs ha =>
        have e := L2.ints_dw a.1 _ ha
        subst e
        have q : ((Codec.inLen 0 8000 a.1 && a.1.all (Codec.inInt (Int.negSucc 170141183460469231731687303715884105727) (Int.ofNat 170141183460469231731687303715884105727))) && true) = true := hwi
        rw [Bool.and_eq_true, Bool.and_eq_true] at q
        exact DC.end_say K tb a.1 (Evl.ex_l h01 hs) (LamX.TabS.nil htb) (Codec.inNat_iff.mp q.1.1).2 hask
