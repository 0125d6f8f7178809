import PyProof.Rows.All
import Wide.All
import OpenK.AllK
import Wide.FinOn
import KE.KStateDown
import HandS.ForMost
import HandS.ForExc
import HandS.Defaults
import HandS.Lambda
import HandS.EndTab
import HandS.HeadWalk
import HandS.Head0
import HandS.Head1
import HandS.Head2
import HandS.HeadEnd
import HandS.HeadHook1
import HandS.HeadHook2
import HandS.HeadHook3
import HandS.HeadHook4
import HandS.ExcInit
import HandS.ExcIs
import HandS.ExcField
import HandS.ExcValue
import HandS.IsInst
import HandS.Wide
import HandS.Evl
import HandS.ClsMeth
import HandS.RaiseMore
import HandS.Flow
import HandS.TupAny
import HandS.Style
import HandS.Dict
import KE.KeyNested
import PySem.Challenge.RW_firstwrong_k01_sorts_and_values
set_option Elab.async false
set_option linter.all false
set_option maxRecDepth 100000
set_option maxHeartbeats 0
/-! # FwExc: own errors below an own error: told by facts, made, caught, kept as a value -/
namespace Fw
open PySem PySem.Spec PyProof.Rows L2

/-! ## what the written part says of an error's class -/
def oexClsB (K : PySem.W.Frag) (C : Addr) : Bool := match K.lookup C with
  | some ⟨.type "type", _, .cls cd, sl⟩ => (match cd.mro, sl.toList with
    | .ref C' :: bm, [_, _, _, _, some (.builtin n), _] =>
      C' == C && (n == "ValueError.__new__" && (!cd.hasDel && (cd.hasDict && PySem.HandSPX.refsVE bm)))
    | _, _ => false)
  | _ => false
theorem oexCls_ok {K : PySem.W.Frag} {C : Addr} (q : oexClsB K C = true) :
    ∃ nm q N bs bm sn sub ab col dd k0 k1 k2 k3 k5,
      K.lookup C = some (excClassObj nm q C N bs bm true sn sub ab col dd k0 k1 k2 k3 k5 "ValueError.__new__") ∧
        PySem.HandSPX.refsVE bm = true := by
  unfold oexClsB at q
  split at q
  case h_2 => cases q
  case h_1 dd cd sl ho =>
    split at q
    case h_2 => cases q
    case h_1 C' bm k0 k1 k2 k3 n k5 hm hs =>
      obtain ⟨nm, bs, mro, ns, qn, hd, sn, sub, ab, col, del⟩ := cd
      dsimp only at hm q
      simp only [Bool.and_eq_true, beq_iff_eq, Bool.not_eq_true'] at q
      obtain ⟨rfl, rfl, rfl, rfl, hv⟩ := q
      subst hm
      obtain ⟨l⟩ := sl
      dsimp only at hs
      subst hs
      exact ⟨nm, qn, ns, bs, bm, sn, sub, ab, col, dd, k0, k1, k2, k3, k5, ho, hv⟩

/-- all that is asked of an error's class at C -/
structure XC (K : PySem.W.Frag) (C : Addr) : Prop where
  ox : OexC K C
  xf : XfC K C
  is : ExcC K C
def xcB (K : PySem.W.Frag) (C : Addr) : Bool :=
  oexClsB K C && (xfB K C &&
  (decide (PySem.W.findIn K (.ref C) "__setattr__" = some (some (.builtin "object.__setattr__"))) &&
  (decide (PySem.W.typeIn K (.ref C) = some (.type "type")) && (PySem.W.keepIn K (.ref C) &&
  (decide (PySem.W.findIn K (.ref C) "__class__" = some (some (.builtin "object.__class__"))) &&
  (decide (PySem.W.specialIn K (.builtin "object.__class__") "__get__" = some (some (.builtin "getset_descriptor.__get__"))) &&
  (decide (PySem.W.takesIn K (.builtin "object.__class__") = some true) &&
  decide (PySem.W.mroIn K C (.type "object") = some true))))))))
theorem xc_ok {K : PySem.W.Frag} {C : Addr} (h : xcB K C = true) : XC K C := by
  unfold xcB at h
  simp only [Bool.and_eq_true, decide_eq_true_eq] at h
  obtain ⟨h1, h2, h3, h4, h5, h6, h7, h8, h9⟩ := h
  have f := xfB_ok h2
  exact ⟨⟨oexCls_ok h1, h3, f.exC, h4, h5⟩, f, ⟨f.ga, f.gg, f.exC, f.hdC, h6, h7, h8, h9⟩⟩

/-- the class at C has its own __init__ at f -/
def xiB (K : PySem.W.Frag) (C f : Addr) : Bool :=
  decide (PySem.W.findIn K (.ref C) "__init__" = some (some (.ref f))) && decide (PySem.W.typeIn K (.ref f) = some (.type "function"))
theorem xi_ok {K : PySem.W.Frag} {C f : Addr} (h : xiB K C f = true) :
    PySem.W.findIn K (.ref C) "__init__" = some (some (.ref f)) ∧ PySem.W.typeIn K (.ref f) = some (.type "function") := by
  unfold xiB at h
  simpa only [Bool.and_eq_true, decide_eq_true_eq] using h

/-- the class at C is read as an object: what its __init__ is (a built-in one) -/
structure XB (K : PySem.W.Frag) (C : Addr) : Prop where
  rd : PySem.W.readsIn K C (.type "type") = true
  sp : PySem.W.specialIn K (.ref C) "__getattribute__" = some (some (.builtin "type.__getattribute__"))
  fi : PySem.W.findCls K (.ref C) (.type "type") "__init__" = some (.val (.builtin "ValueError.__init__"))
def isVal (o : Option PySem.W.CFound) (v : Value) : Bool := match o with
  | some (.val u) => u == v
  | _ => false
theorem isVal_ok {o : Option PySem.W.CFound} {v : Value} (h : isVal o v = true) : o = some (.val v) := by
  unfold isVal at h
  split at h
  · rw [beq_iff_eq] at h
    rw [h]
  · cases h
def xbB (K : PySem.W.Frag) (C : Addr) : Bool := PySem.W.readsIn K C (.type "type") &&
  (decide (PySem.W.specialIn K (.ref C) "__getattribute__" = some (some (.builtin "type.__getattribute__"))) &&
  isVal (PySem.W.findCls K (.ref C) (.type "type") "__init__") (.builtin "ValueError.__init__"))
theorem xb_ok {K : PySem.W.Frag} {C : Addr} (h : xbB K C = true) : XB K C := by
  unfold xbB at h
  simp only [Bool.and_eq_true, decide_eq_true_eq] at h
  exact ⟨h.1, h.2.1, isVal_ok h.2.2⟩
end Fw
/-! # FwHook: the head's facts, read off what the module's names and the statics reach -/
namespace Fw
open PySem PySem.Spec PyProof.Rows L2
def asY (g : Addr → Option Obj) : Nat → List Addr
  | 0 => [mainGlobals, PySem.cStatics]
  | n + 1 => He.growD g (asY g n)
def fragY (n : Nat) (g : Addr → Option Obj) : PySem.W.Frag := He.frT g (asY g n)
abbrev AlY : Type := He.AlD × Bool
def obsY (n : Nat) (fa : List He.Fa) (fn : List He.DefD) (tf : List He.Defn) (ex : PySem.W.Frag → Bool) (g : Addr → Option Obj) : AlY :=
  (He.obsD fa fn (fragY n g), ex (fragY n g) && He.tabsB g tf (fragY n g))
/-- what is told of a fragment K of the heap h -/
structure SaysY (fa : List He.Fa) (fn : List He.DefD) (tf : List He.Defn) (ex : PySem.W.Frag → Bool) (h : Heap) (K : PySem.W.Frag) : Prop where
  d : He.SaysD fa fn K
  more : ex K = true
  hd : ∀ p ∈ tf, PySem.W.codeHdIn K (He.cT K p).1 (He.cT K p).2 = true
  out : ∀ p ∈ tf, K.lookup (He.cT K p).2 = none
  empty : ∀ p ∈ tf, h.get? (He.cT K p).2 = some { cls := .none, data := .fields #[] }
theorem saysY_of {n : Nat} {fa : List He.Fa} {fn : List He.DefD} {tf : List He.Defn} {ex : PySem.W.Frag → Bool} {h : Heap}
    (e : obsY n fa fn tf ex h.get? = (He.valD fn, true)) : SaysY fa fn tf ex h (fragY n h.get?) := by
  have e1 : He.obsD fa fn (fragY n h.get?) = He.valD fn := (Prod.mk.inj e).1
  have e2 : (ex (fragY n h.get?) && He.tabsB h.get? tf (fragY n h.get?)) = true := (Prod.mk.inj e).2
  have ⟨m, tb⟩ := Bool.and_eq_true_iff.mp e2
  have each (p) (hp : p ∈ tf) := Bool.and_eq_true_iff.mp (List.all_eq_true.mp tb p hp)
  have look (p) (hp : p ∈ tf) : ∃ o, h.get? (He.cT (fragY n h.get?) p).2 = some o ∧ He.emptyTab o = true := by
    have z := (each p hp).2
    split at z
    · exact ⟨_, by assumption, z⟩
    · cases z
  refine ⟨e1, m, fun p hp => (each p hp).1, fun p hp => ?_, fun p hp => ?_⟩
  · obtain ⟨o, q, z⟩ := look p hp
    exact He.frT_none q z
  · obtain ⟨o, q, z⟩ := look p hp
    rw [q, He.emptyTab_eq z]
def hookY (n : Nat) (fa : List He.Fa) (fn : List He.DefD) (tf : List He.Defn) (ex : PySem.W.Frag → Bool) : PySem.W.Hook where
  α := AlY
  obs := fun s => obsY n fa fn tf ex s.heap.get?
  val := fun _ => (He.valD fn, true)
  says := fun _ h => ∃ K : PySem.W.Frag, K.In h ∧ SaysY fa fn tf ex h K
  of := fun _ _ e => ⟨_, He.frT_in, saysY_of e⟩
  keeps := fun _ _ _ ⟨K, hK, c⟩ k => ⟨K, hK.keeps k, ⟨c.d, c.more, c.hd, c.out, fun p hp => k _ _ (c.empty p hp)⟩⟩
theorem obsY_eq {n : Nat} {fa : List He.Fa} {fn : List He.DefD} {tf : List He.Defn} {ex : PySem.W.Frag → Bool} {g : Addr → Option Obj} {s : Shared}
    (h : ∀ a, g a = s.heap.get? a) : obsY n fa fn tf ex g = (hookY n fa fn tf ex).obs s := by
  rw [show g = s.heap.get? from funext h]
  rfl
end Fw
/-! # FwRules: rules of my own over the hand layer -/
namespace Fw
open PySem PySem.Spec PyProof.Rows L2

/-! ## a def called by keywords alone -/
section
variable {X : Cx} {CX : CXT} {k : Nat} {f : Addr} {fd : FuncData} {ps ks : List Str} {sp : Sp} {E : XK} {x : Str} {p pos : Pos}
  {kws : List Keyword} {tk : TA} {g : List Value → List Value → List Value} {gV : List V → List V → List V}
theorem pe_callN0 (F : FnOk X.prog X.w X.K X.mg X.base CX k f fd ps sp) (hr : Room k X.A) (hg : Gl X x)
    (hm : X.mg x = some (.ref f)) (hk : PySem.W.keepIn X.K (.ref f) = true) (hb : KBn X.K fd ps 0 ks g gV)
    (hx : Passes CX X E) (hkw : PK X kws tk)
    (hall : (backToKw pos (keywordEach kws X.env)).all (·.1.isSome) = true := by rfl)
    (hks : (backToKw pos (keywordEach kws X.env)).filterMap (·.1) = ks := by rfl)
    (hdb : (x == ("__debug__" : Str)) = false := by decide)
    (hpl : ((backTo pos (starEach [] X.env)).any (·.1) || (backToKw pos (keywordEach kws X.env)).any (·.1.isNone)) = false := by rfl) :
    PE X (.Call (.Name x p) [] kws pos) (tCallN 0 ks.length sp gV E tNil tk) := by
  constructor
  intro pins s σ H Q I h
  refine wpAny_Call_Name_kw (ld_glob I hg hm ?_ hdb)
  refine PySem.W.callWith_KW0 (h₀ := X.base) I.ok.mod.kin hk hall ?_ hpl
  refine thn (hkw.run pos pins s σ H _ I h) ?_
  rintro ws s2 ⟨zs, H2, I2, rz, q1, q2, q3⟩
  refine ⟨I2.kIn, ?_⟩
  rw [hks]
  exact run_fnN (us := []) (vs := []) F hr hb hx I2 .nil rz q1 q2 q3
end

/-! ## Base.__init__(self, ..), Base an own class -/
section
variable {X : Cx} {e : Expr} {es : List Expr} {ta : TA} {x : Str} {C0 : Addr} {p1 p2 pos : Pos}
theorem pe_winit {pl : Sem Bool} (hg : Gl X x) (hm : X.mg x = some (.ref C0)) (B : XB X.K C0) (ha : PA X (e :: es) ta)
    (hdb : (x == ("__debug__" : Str)) = false := by decide)
    (hc : eval (.Call (.Attribute (.Name x p1) "__init__" p2) (e :: es) [] pos) X.env = (do
      let ov ← eval (.Name x p1) X.env
      standAt p2.atName
      let (f, first) ← holding [ov] (getMethod ov "__init__" pl)
      callWith pos f first (backTo pos (starEach (e :: es) X.env)) (backToKw pos (keywordEach [] X.env))) := by rfl)
    (he : starEach (e :: es) X.env = (false, eval e X.env) :: starEach es X.env := by rfl)
    (hpl : (backTo pos (starEach es X.env)).any (·.1) = false := by rfl) :
    PE X (.Call (.Attribute (.Name x p1) "__init__" p2) (e :: es) [] pos) (tVeI X.K ta) := by
  constructor
  intro pins s σ H Q I h
  refine PySem.W.methodCall_KW (ld_glob I hg hm ?_ hdb) hc
  refine PySem.W.method_cls I.kIn B.sp (PySem.W.cls_value I.kIn B.rd B.fi rfl ?_)
  show wpAny _ _ (callWith pos (Value.builtin "ValueError.__init__") [] (backTo pos (starEach (e :: es) X.env)) []) _ _ _
  refine PyProof.Rows.callWith_method1 (thn (ha.run pos pins _ σ H _ (I.tok _) h) ?_) he hpl
  rintro us s1 ⟨vs, H1, I1, r1, a, C, ws, rfl, hl, T, ea, q⟩
  cases r1
  case cons u0 ur ra rw' =>
    cases ra
    refine oinit_ok T I1 ea ?_ fun s' J => ⟨.non, H1, J, rfl, q⟩
    have := Paired.length rw'
    rw [sizeLine_eq]
    omega
end

/-! ## an error with one attribute: its __init__, and its raising -/
def spXi (C : Addr) (f : Str) : Sp := fun vs H Q _ => ∃ a v, vs = [.ref a, v] ∧ H a = some (exo a C none) ∧
  ∀ dx, H dx = none → dx ≠ a → Q .non (upd (upd H dx (exd dx [(f, v)])) a (exo a C (some dx)))
def tRz1 (C : Addr) (f : Str) (W : WX) (ta : TA) : TS := fun _ σ H => ta σ H fun vs H1 => ∃ v, vs = [v] ∧
  ∀ dx, H1 dx = none → W (.ref C) (some dx) σ (upd H1 dx (.xd [(f, v)]))
theorem heap_rz {H1 : Hp} {a dx : Addr} {C : Addr} {f : Str} {v : V} {o : HO} (ha : H1 a = none) (hne : dx ≠ a) :
    upd (del (upd (upd (upd H1 a o) dx (exd dx [(f, v)])) a (exo a C (some dx))) a) dx (.xd [(f, v)]) = upd H1 dx (.xd [(f, v)]) := by
  funext b
  by_cases h1 : b = dx
  · subst h1
    rw [upd_same, upd_same]
  · rw [upd_ne h1, upd_ne h1]
    by_cases h2 : b = a
    · subst h2
      rw [del_same, ha]
    · rw [del_ne h2, upd_ne h2, upd_ne h1, upd_ne h2]
theorem pa_up {X : Cx} {es : List Expr} {ta : TA} (ha : PA X es ta) :
    PA X es (fun σ H Q => ∃ Q1, ta σ H Q1 ∧ ∀ vs H1, Q1 vs H1 → Q vs H1) := by
  constructor
  rintro pos pins s σ H Q I ⟨Q1, h, up⟩
  refine wpAny_mono (ha.run pos pins s σ H Q1 I h) ?_ fun _ _ z => z
  rintro us s1 ⟨vs, H1, I1, r, q⟩
  exact ⟨vs, H1, I1, r, up vs H1 q⟩
section
variable {X : Cx} {CX : CXT} {x f : Str} {C fI : Addr} {k : Nat} {fd : FuncData} {ps : List Str} {e : Expr} {ta : TA} {W : WX} {p pos pos2 : Pos}
theorem pmk_rz1 (T : XC X.K C) (iC : PySem.W.findIn X.K (.ref C) "__init__" = some (some (.ref fI)))
    (tI : PySem.W.typeIn X.K (.ref fI) = some (.type "function"))
    (F1 : FnOk X.prog X.w X.K X.mg X.base CX k fI fd ps (spXi C f)) (hr : Room (k + 1) X.A) (hb : Binds X.K fd ps [])
    (hx : Passes CX X (fun _ _ _ => False)) (hg : Gl X x) (hm : X.mg x = some (.ref C)) (ha : PA X [e] ta)
    (hdb : (x == ("__debug__" : Str)) = false := by decide)
    (he : starEach [e] X.env = (false, eval e X.env) :: starEach [] X.env := by rfl)
    (hpl : (backTo pos (starEach [] X.env)).any (·.1) = false := by rfl) :
    PMk X (.Call (.Name x p) [e] [] pos) (fun σ H Q => ta σ H fun vs H1 => ∃ v, vs = [v] ∧ ∀ dx, H1 dx = none → Q (.ref C) (some dx) (upd H1 dx (.xd [(f, v)]))) := by
  intro pins s σ H Q I h
  refine pmk_oex (dvs := []) T.ox iC tI F1 hr hb .nil hx hg hm (pa_up ha) hdb he hpl pins s σ H Q I ?_
  refine ⟨_, h, ?_⟩
  rintro vs H1 ⟨v, rfl, q⟩
  refine ⟨(by show 1 ≤ 1000; decide), fun a ha0 => ⟨a, v, rfl, upd_same, fun dx hd hne => ⟨rfl, dx, [(f, v)], upd_same, ?_, ?_, ?_⟩⟩⟩
  · rw [upd_ne hne, upd_same]
  · rw [upd_ne hne] at hd
    exact hd
  · rw [upd_ne hne] at hd
    rw [heap_rz ha0 hne]
    exact q dx hd
theorem ps_rz1 (hc : X.calm = true) (tk : Takes X W) (T : XC X.K C) (iC : PySem.W.findIn X.K (.ref C) "__init__" = some (some (.ref fI)))
    (tI : PySem.W.typeIn X.K (.ref fI) = some (.type "function"))
    (F1 : FnOk X.prog X.w X.K X.mg X.base CX k fI fd ps (spXi C f)) (hr : Room (k + 1) X.A) (hb : Binds X.K fd ps [])
    (hx : Passes CX X (fun _ _ _ => False)) (hg : Gl X x) (hm : X.mg x = some (.ref C)) (ha : PA X [e] ta)
    (hdb : (x == ("__debug__" : Str)) = false := by decide)
    (he : starEach [e] X.env = (false, eval e X.env) :: starEach [] X.env := by rfl)
    (hpl : (backTo pos (starEach [] X.env)).any (·.1) = false := by rfl) :
    PS X (.Raise (some (.Call (.Name x p) [e] [] pos)) none pos2) (tRz1 C f W ta) :=
  ps_raise hc tk (pmk_rz1 T iC tI F1 hr hb hx hg hm ha hdb he hpl)
end

/-! ## an error that was caught stays as a value -/
/-- at a: an error of the class cls, its dict at d -/
def ExV (cls : Value) (d : Option Addr) (a : Addr) : HO := .ext fun h => ∃ oe vs, h.get? a = some oe ∧ Zc cls d oe ∧ oe.data = .fields vs
theorem exV_ok {P : Program} {w : World} {H : Hp} {h : Heap} {a : Addr} {cls : Value} {d : Option Addr} {oe : Obj} {vs : Array Value}
    (e : h.get? a = some oe) (z : Zc cls d oe) (hd : oe.data = .fields vs) : ObjOk P w H h a (ExV cls d a) := by
  refine ⟨⟨oe, vs, e, z, hd⟩, ⟨oe, e⟩, ?_⟩
  rintro h1 h2 ⟨o, v, q, r⟩ k
  exact ⟨o, v, k o q, r⟩
section
variable {X : Cx} {pins : List (Addr × Obj)} {σ : L2.St} {H : Hp} {s : Shared}
/-- an object of ours that nobody tracks is tracked from now on -/
theorem track {a : Addr} {o : HO} {oe : Obj} {vs : Array Value} (I : Inv X pins σ H s) (ha : s.heap.get? a = some oe)
    (hd : oe.data = .fields vs) (n : H a = none) (n0 : X.s_0.heap.get? a = none) (nL : a ≠ X.env.locals)
    (np : ∀ p ∈ X.pn ++ pins, p.1 ≠ a) (ok : ObjOk X.prog X.w (upd H a o) s.heap a o) : Inv X pins σ (upd H a o) s := by
  have other {b : Addr} {u : HO} (e : H b = some u) : b ≠ a := ne_of_none e n
  have old {b : Addr} {u : Obj} (e : X.s_0.heap.get? b = some u) : b ≠ a := by
    rintro rfl
    rw [n0] at e
    cases e
  have B := I.base
  refine ⟨I.ok, I.os, I.bare, ⟨B.keep, B.slot, ?_, B.there, ?_, ?_, ?_⟩, I.loc, I.cell, ?_, ?_, ?_, ?_, I.len⟩
  · intro b u e1 e2 e3
    rw [upd_ne (old e1)]
    exact B.free b u e1 e2 e3
  · intro b xs e
    have q := B.tups b xs e
    rw [upd_ne (other q)]
    exact q
  · intro b u v e
    have q := B.frzs b u v e
    rw [upd_ne (other q)]
    exact q
  · intro b qs e
    obtain ⟨m, q⟩ := B.tbls b qs e
    refine ⟨m, ?_⟩
    rw [upd_ne (other q)]
    exact q
  · rw [upd_ne (Ne.symm nL)]
    exact I.free
  · intro y c e
    have nc : c ≠ a := by
      rintro rfl
      obtain ⟨v, oc, h1, h2⟩ := I.cell y c e
      rw [ha] at h1
      cases h1
      rw [hd] at h2
      cases h2
    rw [upd_ne nc]
    exact I.freeC y c e
  · intro p hp
    obtain ⟨e1, e2, e3, e4, e5⟩ := I.pin p hp
    refine ⟨e1, ?_, e3, e4, e5⟩
    rw [upd_ne (np p hp)]
    exact e2
  · intro b u e
    by_cases hb : b = a
    · subst hb
      rw [upd_same] at e
      cases e
      exact ok
    · rw [upd_ne hb] at e
      refine (I.hok b u e).stay (fun _ _ _ q => q) ?_ ?_
      · intro c q
        rw [upd_ne (other q)]
        exact q
      · intro c xs q
        rw [upd_ne (other q)]
        exact q
end

section
variable {X : Cx} {x n m : Str} {c : Value} {i j : Nat} {body : List Stmt} {np q1 q2 q3 pos pos' : Pos} {tb : WX → TS}
/-- what the clause wishes of an error of the body: it is the clause's, and is kept in slot j -/
def wKeep (K : PySem.W.Frag) (c : Value) (i j n : Nat) (D : Ends) : WX := fun cls d σ H =>
  PySem.W.exmOne K cls c = some true ∧ (σ.length = n → ∀ a, H a = none → D.nx (((σ.set i (some (.ref a))).set j (some (.ref a))).set i none) (upd H a (ExV cls d a)))
/-- try: body / except x as n: m = n -/
theorem ps_try_keep (hs : X.stack = X.env :: X.outer) (hf : X.env.frame = some X.env.locals) (hex : X.ex = [])
    (hN : X.N.Nodup) (hi : X.N[i]? = some n) (hln : X.env.kindOf n = some .local)
    (hj : X.N[j]? = some m) (hlm : X.env.kindOf m = some .local) (hc : Names X x c)
    (hdn : (n == ("__debug__" : Str)) = false := by decide) (hcn : (n == ("__classdict__" : Str)) = false := by decide)
    (hb : ∀ (W : WX) (pn : List (Addr × Obj)) (xe : Value → Shared → Prop), Takes (X.tr pn xe) W →
      PassesOwn (model X.prog X.w) X.A X.env xe → PSs (X.tr pn xe) body (tb W)) :
    PS X (.Try body [.ExceptHandler (some (.Name x np)) (some n) [.Assign [.Name m q1] (.Name n q2) q3] pos'] [] [] pos)
      (fun D σ H => tb (wKeep X.K c i j X.N.length D) D σ H) := by
  constructor
  intro pins s σ H D I h
  have ok := I.ok
  have hfr : X.A.frames = some (X.env :: X.outer) := by rw [ok.frames, hs]
  have hlocN : Loc X.env.scope n := Or.inl hln
  have hlocM : Loc X.env.scope m := Or.inl hlm
  refine wpAny_Try_except ?_
  have run := (hb (wKeep X.K c i j X.N.length D) (X.pn ++ pins) (fun e s₁ => wpAny (model X.prog X.w) X.A (noteFrame e X.env)
      (fun _ s₂ => wpAny (model X.prog X.w) X.A (setFlight e none) (fun _ s₃ =>
        wpAny (model X.prog X.w) X.A (handleBy e X.env [.ExceptHandler (some (.Name x np)) (some n) [.Assign [.Name m q1] (.Name n q2) q3] pos'])
          (SP X pins D) X.xe s₃) X.xe s₂) X.xe s₁) ?takes PassesOwn.looking).run [] s σ H D (I.toTry _) h
  case takes =>
    rintro u s' ⟨a, B, sI, pins', σ', H', cls, d, rfl, J0, nb, up, sky, na, os, ag, hb1, hyes⟩
    have J : Inv X pins σ' H' sI := J0.ofTry ok
    have sky' : Sky B (X.env :: X.outer) a (Zc cls d) X.env.locals s'.heap := by
      rw [← hs]
      exact sky
    show wpAny (model X.prog X.w) X.A (noteFrame (.ref a) X.env) _ _ _
    refine Sky.land Zc.steady hfr hf sky' fun h3 fl3 up3 => ?_
    have J3 : Inv X pins σ' H' { s' with heap := h3 } := J.landed nb fl3.1 (up.trans up3) os ag
    obtain ⟨oe3, vs3, he3, hz3, hd3⟩ := fl3.there
    have nfr : a ∉ frs (X.env :: X.outer) := by
      intro hm
      obtain ⟨_, o', e', hnf⟩ := fl3.2.2.1.mem hm
      rw [he3] at e'
      cases e'
      exact hnf _ hd3
    have nL : a ≠ X.env.locals := fun z => nfr (List.mem_filterMap.mpr ⟨X.env, List.mem_cons_self, by rw [hf, z]⟩)
    have nF : a ∉ X.fs := by
      intro hm
      obtain ⟨e, he, q⟩ := List.mem_filterMap.mp hm
      exact nfr (List.mem_filterMap.mpr ⟨e, List.mem_cons_of_mem _ he, q⟩)
    -- the error was not there at the entry, nor is it one of the pins
    have nI : sI.heap.get? a = none := by
      cases e : sI.heap.get? a with
      | none => rfl
      | some o =>
        have z := nb a o e (by rw [hs]; exact nfr)
        rw [fl3.2.1] at z
        cases z
    have n0 : X.s_0.heap.get? a = none := by
      cases e : X.s_0.heap.get? a with
      | none => rfl
      | some o =>
        obtain ⟨o', z⟩ := J.base.there a o e (by rw [hex]; exact List.not_mem_nil)
        rw [nI] at z
        cases z
    have nP : ∀ p ∈ X.pn ++ pins, p.1 ≠ a := by
      intro p hp z
      obtain ⟨e, _⟩ := J.pin p hp
      rw [z, nI] at e
      cases e
    have S3 := J3.suite he3 hd3 na nL nF
    refine wpAny_handleBy_cons (codeAny_handlers_test ?_) (by intro q; cases q)
    have LT : PySem.W.Looks (model X.prog X.w) h3 (typeOf (.ref a)) cls := by
      intro A Q E s k q
      exact wpAny_typeOf_ref (k _ _ he3) (by rw [hz3.1]; exact q)
    have LM := PySem.W.exm_one (M := model X.prog X.w) J3.kIn LT hb1
    have test {Q : Value → Shared → Prop} {E : Value → Shared → Prop} (q : Q c { s' with heap := h3 }) :
        wpAny (model X.prog X.w) (X.A.mark (some (.ref a))) (eval (.Name x np) X.env) Q E { s' with heap := h3 } := by
      obtain ⟨hg, hdbg, hm | ⟨hm, hv, hnn⟩⟩ := hc
      · exact ld_glob (X := X.suite a ((a, oe3) :: (X.pn ++ pins))) S3 hg hm q hdbg
      · exact ld_blt (X := X.suite a ((a, oe3) :: (X.pn ++ pins))) S3 hg hm hv q hnn hdbg
    refine test (LM.here ?_)
    refine codeAny_handlers_suite_as ?_
    refine HandSPX.lands_againZ fl3 fun h4 fl4 up4 => ?_
    have J4 : Inv X pins σ' H' { s' with heap := h4 } := J.landed nb fl4.1 ((up.trans up3).trans up4) os ag
    obtain ⟨oe4, vs4, he4, hz4, hd4⟩ := fl4.there
    have S4 := J4.suite he4 hd4 na nL nF
    refine store_ok (X := X.suite a ((a, oe4) :: (X.pn ++ pins))) (v := .ref a) S4 hN hi hlocN rfl (fun s5 S5 => ?_) (.inr hln)
    have hset : (σ'.set i (some (V.ref a)))[i]? = some (some (V.ref a)) := by
      have hlt : i < σ'.length := by
        rw [J4.len]
        exact (List.getElem?_eq_some_iff.mp hi).1
      simp [hlt]
    have suite : PSs (X.suite a ((a, oe4) :: (X.pn ++ pins))) [.Assign [.Name m q1] (.Name n q2) q3] (tAsg (tVar i) (gName j)) :=
      pss_one (ps_set (i := j) hN hj hlocM (pe_var hi (.inl hln) hdn hcn) (hf := Or.inr hlm))
    refine wpAny_mono (suite.run [] s5 _ H' { nx := fun σ6 H6 => σ6 = (σ'.set i (some (.ref a))).set j (some (.ref a)) ∧ H6 = H', rt := fun _ _ => False } S5
      ⟨_, hset, rfl, rfl⟩) (fun f s6 hsp => ?_) (fun _ _ z => False.elim z)
    cases f with
    | next =>
      obtain ⟨σ6, H6, S6, e1, e2⟩ := hsp
      subst e1 e2
      obtain ⟨g1, _⟩ := S6.pin (a, oe4) (List.mem_append_left _ List.mem_cons_self)
      have K6 := track (o := ExV cls d a) (S6.unsuite ok) g1 hd4 na n0 nL nP (exV_ok g1 hz4 hd4)
      exact gone_ok K6 hN hi hln fun s7 J7 => ⟨_, _, J7, hyes J.len a na⟩
    | brk => exact hsp.elim fun _ z => z.elim fun _ z => z.2.elim
    | cont => exact hsp.elim fun _ z => z.elim fun _ z => z.2.elim
    | ret u => exact hsp.elim fun _ z => z.elim fun _ z => z.elim fun _ z => z.2.2.elim
  refine wpAny_mono run (fun f s1 hsp => ?_) (fun e s1 he => he)
  cases f with
  | next => exact hsp.elim fun σ' z => z.elim fun H' z => wpAny_execs_nil ⟨σ', H', z.1.ofTry ok, z.2⟩
  | brk => exact hsp.elim fun σ' z => z.elim fun H' z => ⟨σ', H', z.1.ofTry ok, z.2⟩
  | cont => exact hsp.elim fun σ' z => z.elim fun H' z => ⟨σ', H', z.1.ofTry ok, z.2⟩
  | ret u => exact hsp.elim fun v z => z.elim fun σ' z => z.elim fun H' z => ⟨v, σ', H', z.1.ofTry ok, z.2⟩
end
end Fw
/-! # FwIs: what is asked of an error that is kept as a value: its class, its attributes -/
namespace Fw
open PySem PySem.Spec PySem.Calls PyProof.Rows L2 PySem.W
section
variable {prog : Program} {w : World} {A : Around} {E : Value → Shared → Prop} {s : Shared} {K : Frag} {x D : Addr} {ox : Obj} {od : Option Obj}
/-- e.__class__ by the machine's own reading -/
theorem class_read {Q : Option Value → Shared → Prop} (T : ExcC K D) (X : K.In s.heap) (I : InstAt s.heap x ox D od)
    (h : Q (some (.ref D)) { s with toks := s.toks + 1 }) : wpAny (model prog w) A (getAttr? (.ref x) "__class__") Q E s := by
  have ⟨cd, hcd, _⟩ := any_some T.hd
  have hf : findObj K D od "__class__" = some (.bind (.builtin "getset_descriptor.__get__") (.builtin "object.__class__")) := by
    unfold findObj
    rw [hcd, Option.bind_some, T.ha]
    simp [T.hn, T.ht]
  obtain ⟨hp, g, d, t, os⟩ := s
  have ty := I.type (M := model prog w)
  have ga := looks_findIn (M := model prog w) X T.hg
  have gg := looks_findIn (M := model prog w) X T.hk
  have fd := looks_find (M := model prog w) X I hf
  have sub : Looks (model prog w) hp (isInstance (.ref x) (.type "BaseException")) true :=
    ty.andThen (looks_subIn X T.hs)
  have no : (Value.builtin "BaseException.__getattribute__" == Value.builtin "object.__getattribute__") = false := by decide +kernel
  unfold getAttr? getAttrBy? getAttrBy
  refine wpAny_bind (wpAny_mkText (wpAny_bind (wpAny_attempt (wpAny_holding ?_))))
  refine wpAny_bind (ty.at (wpAny_bind (ga.at ?_)))
  show wpAny _ _ (if (onTheHeap (Value.ref D) && Value.builtin "BaseException.__getattribute__" ==
    Value.builtin "object.__getattribute__") = true then _ else _) _ _ _
  rw [no, Bool.and_false, if_neg Bool.false_ne_true]
  unfold getAttrByItsOwn hookBefore
  refine wpAny_bind ?_
  rw [if_pos (by rfl)]
  refine gg.at (wpAny_bind (wpAny_attempt (wpAny_holding ?_)))
  unfold callGetattribute
  rw [Bool.false_and, if_neg Bool.false_ne_true]
  unfold boundAndCalled
  rw [PySem.F.excAttr_ValueError.ga.bind (.ref x)]
  refine wpAny_bind (wpAny_pure ?_)
  show wpAny _ _ (call (.builtin "BaseException.__getattribute__") [.ref x, .str "__class__" t]) _ _ _
  refine wpAny_call (codeAny_call_builtin PySem.F.excAttr_ValueError.ga.plain PySem.F.entry_bexc_ga ?_)
  refine @check_slot (model prog w) _ _ ⟨hp, g, d, t + 1, os⟩ "BaseException.__getattribute__" "BaseException"
    "__getattribute__" (.ref x) [.str "__class__" t] [] _ (by decide +kernel) (by decide +kernel) sub
    (PySem.F.args_bexc_ga (.ref x) (.str "__class__" t)) ?_
  unfold Builtin.«object.__getattribute__»
  refine wpAny_bind (wpAny_of_eq (a := ((Value.ref x : Value), [Value.str "__class__" t])) (by
    first
      | rfl
      | (simp only [slotArgs]; rfl)) ?_)
  refine wpAny_bind (wpAny_pure (wpAny_bind (ty.at (wpAny_bind (fd.at ?_)))))
  show wpAny _ _ (holding [Value.builtin "object.__class__"] (call (.builtin "getset_descriptor.__get__")
    [.builtin "object.__class__", .ref x, .ref D]) >>= ret) _ _ _
  refine wpAny_bind (wpAny_holding (wpAny_call (class_get (s := ⟨hp, g, d, t + 1, os⟩) (ox := ox) (od := od) X I T.hm ?_)))
  refine wpAny_pure ?_
  show wpAny _ _ (handedOut (.ref D)) _ _ _
  rw [handedOut_of (v := .ref D) rfl]
  first
    | exact wpAny_pure (wpAny_pure h)
    | exact wpAny_pure h
    | exact wpAny_pure (wpAny_bind (wpAny_pure (wpAny_pure h)))
theorem kitx_exv (T : ExcC K D) : KitX K (.ref x) (.ref D) (fun h => ∃ ox od, InstAt h x ox D od) := by
  have ⟨cd, hcd, _⟩ := any_some T.hd
  unfold clsIn at hcd
  split at hcd
  case h_2 => cases hcd
  case h_1 c' d' cd' sl' ho =>
    refine ⟨?_, ?_, ?_, ?_⟩
    · rintro M h X ⟨ox, od, I⟩
      exact I.type
    · rintro M h X _ A' Q' E' s' k q
      unfold isType loadHead
      exact wpAny_bind (wpAny_loadPart (k _ _ (X _ _ ho)) (wpAny_pure q))
    · intro h tp dd its n sl X htp
      rw [beq_eq_false_iff_ne]
      intro q
      cases q
      have z := X _ _ ho
      rw [htp] at z
      cases z
    · rintro prog w A E Q s X ⟨ox, od, I⟩ k
      exact class_read T X I k
end
section
variable {X : Cx} {pins : List (Addr × Obj)} {σ : L2.St} {H : Hp} {s : Shared} {a C : Addr}
/-- the error at a, its dict at d with the attributes fs -/
structure ErrAt (H : Hp) (a C : Addr) (d : Option Addr) (fs : List (Str × V)) : Prop where
  at_ : H a = some (ExV (.ref C) d a)
  dict : (d = none ∧ fs = []) ∨ ∃ dd, d = some dd ∧ H dd = some (.xd fs)
theorem errAt_inst {d : Option Addr} {fs : List (Str × V)} (I : Inv X pins σ H s) (e : ErrAt H a C d fs) :
    ∃ ox od, InstAt s.heap a ox C od ∧ ox.dict = d := by
  obtain ⟨⟨oe, vs, ho, ⟨z1, z2⟩, hd⟩, _, _⟩ := I.hok a _ e.at_
  obtain ⟨oc, odc, oda, osl⟩ := oe
  dsimp only at z1 z2 hd
  subst z1 z2 hd
  rcases e.dict with ⟨rfl, _⟩ | ⟨dd, rfl, hdd⟩
  · exact ⟨_, none, ⟨ho, rfl, rfl, trivial⟩, rfl⟩
  · obtain ⟨mA, hns, hr⟩ := I.hok dd _ hdd
    obtain ⟨od, hod, _⟩ := lookIn_ns hns
    exact ⟨_, some od, ⟨ho, rfl, rfl, hod⟩, rfl⟩
/-- isinstance(e, c) -/
def rIsV (K : Frag) : List V → Hp → VK → Prop := fun xs H Q => ∃ (a C : Addr) (d : Option Addr) (fs : List (Str × V)) (c : V) (cv : Value) (b : Bool),
  xs = [.ref a, c] ∧ ErrAt H a C d fs ∧ ExcC K C ∧ (∀ u, RelV c u → u = cv) ∧ kitOne K (.ref C) cv = some b ∧ Q (.bl b) H
theorem call_isV : CallR X (.builtin "isinstance") (rIsV X.K) := by
  rintro pins s σ H xs us Q I r ⟨a, C, d, fs, c, cv, b, rfl, ea, T, hcv, e, q⟩
  obtain ⟨u1, u2, rfl, r1, r2⟩ := vals2 r
  cases (show u1 = Value.ref a from r1)
  obtain rfl := hcv _ r2
  obtain ⟨ox, od, J, _⟩ := errAt_inst I ea
  exact kia_one (kitx_exv T) I.kIn ⟨ox, od, J⟩ e (fun z => nomatch z) fun tk => ⟨.bl b, H, I.tok tk, rfl, q⟩
/-- e.f -/
def tExF (K : Frag) (f : Str) (te : TE) : TE := fun σ H Q => te σ H fun x H1 => ∃ (a C dd : Addr) (fs : List (Str × V)) (v : V),
  x = .ref a ∧ ErrAt H1 a C (some dd) fs ∧ XfC K C ∧ findIn K (.ref C) f = some none ∧ fs.lookup f = some v ∧ Q v H1
theorem pe_exf {e : Expr} {te : TE} {f : Str} {pos : Pos} (he : PE X e te)
    (hb : attributeBase e f X.env (eval e X.env) = eval e X.env := by rfl) : PE X (.Attribute e f pos) (tExF X.K f te) := by
  constructor
  intro pins s σ H Q I h
  refine attr_of hb (thn (he.run pins s σ H _ I h) ?_)
  rintro u s1 ⟨x, H1, I1, rx, a, C, dd, fs, v, rfl, ea, T, hno, l, q⟩
  cases (show u = Value.ref a from rx)
  obtain ⟨⟨oe, vs, ho, ⟨z1, z2⟩, hd⟩, _, _⟩ := I1.hok a _ ea.at_
  have hdd : H1 dd = some (.xd fs) := by
    rcases ea.dict with ⟨z, _⟩ | ⟨d2, z, q2⟩
    · cases z
    · cases z
      exact q2
  obtain ⟨mA, hns, hr⟩ := I1.hok dd _ hdd
  obtain ⟨od, hod, hl⟩ := lookIn_ns hns
  obtain ⟨u, hu, ru⟩ := RelO.some_of (v := v) (o := mA f) (by rw [← l]; exact hr f)
  have J : InstAt s1.heap a oe C (some od) := by
    refine ⟨ho, z1, ?_, ?_⟩
    · unfold notCls
      rw [hd]
    · rw [z2]
      exact hod
  refine HandSPX.exc_get I1.kIn J T.ga T.gg T.exC (findObj_own T.hdC hno rfl ?_) (handed_of ru) ⟨v, H1, I1.tok _, ru, q⟩
  rw [hl, hu]
end
end Fw
/-! # FwDsl: programs over data. What a piece of Python does with data, told without a heap (a wish over data),
and that the piece does so; every rule gives both at once -/
namespace Fw
open PySem PySem.Spec PyProof.Rows L2
open Evl (Ex)

/-! ## data -/
inductive D where
  | non | bl (b : Bool) | int (i : Int) | str (x : Str)
  | lst (ds : List D) | tup (ds : List D)
  | dic (ks : List Key) (ds : List D)
  | err (n : Str) (fs : List (Str × D))
  | drw
  | scr (ns : List Int)
/-- an error: the class's name, its attributes -/
abbrev EX := Str × List (Str × D)
/-- what stands by itself through a law: the draw (its dict, the lists in it), the tables of code objects -/
structure Wld where
  dr : Option (Addr × Addr × Addr)
  cells : List Int
  tb : List (Addr × Str)
  /-- what is being grown: where, what stands there now -/
  own : List (Addr × HO)
def drM : Option (Addr × Addr × Addr) → List Addr
  | some (d, l, c) => [d, l, c]
  | none => []
def Wld.M (W : Wld) : List Addr := W.own.map (·.1) ++ drM W.dr
/-- the draw's dict -/
def drK (l c : Addr) (r t : Int) : List (Key × V) := [(.inr "large", .ref l), (.inr "rest", .int r), (.inr "cells", .ref c), (.inr "turn", .int t)]
/-- the draw as it stands -/
def DrawOk (H : Hp) (d l c : Addr) (cells : List Int) : Prop := ∃ (r t : Int) (lg : List Int), H d = some (.dK (drK l c r t)) ∧ 0 ≤ r ∧ 0 ≤ t ∧
  H l = some (.lst (lg.map V.int)) ∧ (∀ x ∈ lg, 0 ≤ x) ∧ H c = some (.lst (cells.map V.int)) ∧ (∀ x ∈ cells, 0 ≤ x) ∧ l ≠ c
/-- what may grow -/
structure Own (o : HO) : Prop where
  tb : ∀ ps, o ≠ .tbl ps
  co : ∀ b q, o ≠ LamX.CodeO b q
theorem own_lst {xs : List V} : Own (.lst xs) := ⟨(fun _ z => nomatch z), fun b q z => by cases z⟩
theorem own_dK {kvs : List (Key × V)} : Own (.dK kvs) := ⟨(fun _ z => nomatch z), fun b q z => by cases z⟩
structure Wld.ok (W : Wld) (H : Hp) : Prop where
  dr : ∀ d l c, W.dr = some (d, l, c) → DrawOk H d l c W.cells
  tb : LamX.Tabs W.tb H
  own : ∀ q ∈ W.own, H q.1 = some q.2
  sep : ∀ q ∈ W.own, q.1 ∉ drM W.dr
  ownO : ∀ q ∈ W.own, Own q.2
/-- the heap without these -/
def Wld.cut (W : Wld) (H : Hp) : Hp := fun b => if b ∈ W.M then none else match H b with
  | some (.tbl _) => none
  | o => o
structure Wld.R (W : Wld) (H H' : Hp) : Prop where
  ok : W.ok H'
  ex : Ex (W.cut H) (W.cut H')
section
variable {W : Wld} {H H' H'' : Hp}
theorem cut_sub : Ex (W.cut H) H := by
  intro a o h
  unfold Wld.cut at h
  split at h
  · cases h
  · split at h
    · cases h
    · exact h
theorem Wld.R.refl (h : W.ok H) : W.R H H := ⟨h, Ex.refl _⟩
theorem Wld.R.trans (a : W.R H H') (b : W.R H' H'') : W.R H H'' := ⟨b.ok, a.ex.trans b.ex⟩
theorem mem_there (h : W.ok H) {b : Addr} (hb : b ∈ W.M) : ∃ o, H b = some o := by
  rcases List.mem_append.mp hb with hb | hb
  · obtain ⟨q, hq, rfl⟩ := List.mem_map.mp hb
    exact ⟨_, h.own q hq⟩
  · cases e : W.dr with
    | none =>
      rw [e] at hb
      cases hb
    | some p =>
      obtain ⟨d, l, c⟩ := p
      obtain ⟨r, t, lg, h1, _, _, h2, _, h3, _⟩ := h.dr d l c e
      rw [e] at hb
      simp only [drM, List.mem_cons, List.not_mem_nil, or_false] at hb
      rcases hb with rfl | rfl | rfl
      · exact ⟨_, h1⟩
      · exact ⟨_, h2⟩
      · exact ⟨_, h3⟩
theorem ok_ex (h : W.ok H) (e : Ex H H') : W.ok H' := by
  refine ⟨fun d l c hd => ?_, h.tb.ext e, fun q hq => e _ _ (h.own q hq), h.sep, h.ownO⟩
  obtain ⟨r, t, lg, h1, h2, h3, h4, h5, h6, h7⟩ := h.dr d l c hd
  exact ⟨r, t, lg, e _ _ h1, h2, h3, e _ _ h4, h5, e _ _ h6, h7⟩
/-- nothing that was tracked has changed -/
theorem R_ex (h : W.ok H) (e : Ex H H') : W.R H H' := by
  refine ⟨ok_ex h e, ?_⟩
  intro a o q
  unfold Wld.cut at q ⊢
  split at q
  · cases q
  · rename_i hm
    rw [if_neg hm]
    split at q
    · cases q
    · rename_i nt
      rw [e _ _ q]
      split
      · rename_i ps z
        cases z
        exact absurd q (nt ps)
      · rfl
theorem R_new (h : W.ok H) {p : Addr} {o : HO} (hp : H p = none) : W.R H (upd H p o) := R_ex h (Ex.new hp)
theorem cut_new (h : W.ok H) {p : Addr} {o : HO} (hp : H p = none) (nt : ∀ ps, o ≠ .tbl ps) : W.cut (upd H p o) p = some o := by
  unfold Wld.cut
  rw [if_neg, upd_same]
  · split
    · rename_i ps z
      cases z
      exact absurd rfl (nt ps)
    · rfl
  · intro hm
    obtain ⟨u, hu⟩ := mem_there h hm
    rw [hp] at hu
    cases hu
end

/-! ## a value stands for data -/
mutual
inductive Da (W : Wld) (K : PySem.W.Frag) (H : Hp) : V → D → Prop
  | non : Da W K H .non .non
  | bl (b : Bool) : Da W K H (.bl b) (.bl b)
  | int (i : Int) : Da W K H (.int i) (.int i)
  | str (x : Str) : Da W K H (.str x) (.str x)
  | lst {a : Addr} {xs : List V} {ds : List D} : H a = some (.lst xs) → Das W K H xs ds → Da W K H (.ref a) (.lst ds)
  | tup {a : Addr} {xs : List V} {ds : List D} : SqT K H a xs → Das W K H xs ds → Da W K H (.ref a) (.tup ds)
  | dic {a : Addr} {kvs : List (Key × V)} {ks : List Key} {ds : List D} : H a = some (.dK kvs) → kvs.map (·.1) = ks → Das W K H (kvs.map (·.2)) ds → Da W K H (.ref a) (.dic ks ds)
  | err {a : Addr} {dd : Option Addr} {n : Str} {xs : List V} {fs : List (Str × D)} : ErrAt H a (He.ga K n) dd ((fs.map (·.1)).zip xs) →
      Das W K H xs (fs.map (·.2)) → Da W K H (.ref a) (.err n fs)
  | drw {d l c : Addr} : W.dr = some (d, l, c) → Da W K H (.ref d) .drw
  | scr {a : Addr} {ns : List Int} : SqL K H a (ns.map V.int) → Da W K H (.ref a) (.scr ns)
inductive Das (W : Wld) (K : PySem.W.Frag) (H : Hp) : List V → List D → Prop
  | nil : Das W K H [] []
  | cons {v : V} {vs : List V} {d : D} {ds : List D} : Da W K H v d → Das W K H vs ds → Das W K H (v :: vs) (d :: ds)
end
theorem sqL_ex {K : PySem.W.Frag} {H H' : Hp} {a : Addr} {xs : List V} (e : Ex H H') (h : SqL K H a xs) : SqL K H' a xs := Evl.ex_l e h
theorem ErrAt.up {H H' : Hp} {a C : Addr} {d : Option Addr} {fs : List (Str × V)} (x : ErrAt H a C d fs) (e : Ex H H') : ErrAt H' a C d fs :=
  ⟨e _ _ x.at_, x.dict.imp id fun ⟨dd, h1, h2⟩ => ⟨dd, h1, e _ _ h2⟩⟩
mutual
theorem Da.up {W : Wld} {K : PySem.W.Frag} {H H' : Hp} (e : Ex H H') : ∀ {v : V} {d : D}, Da W K H v d → Da W K H' v d
  | _, _, .non => .non
  | _, _, .bl b => .bl b
  | _, _, .int i => .int i
  | _, _, .str x => .str x
  | _, _, .lst h r => .lst (e _ _ h) (Das.up e r)
  | _, _, .tup h r => .tup (Evl.ex_t e h) (Das.up e r)
  | _, _, .dic h1 h2 h3 => .dic (e _ _ h1) h2 (Das.up e h3)
  | _, _, .err h r => .err (h.up e) (Das.up e r)
  | _, _, .drw h => .drw h
  | _, _, .scr h => .scr (Evl.ex_l e h)
theorem Das.up {W : Wld} {K : PySem.W.Frag} {H H' : Hp} (e : Ex H H') : ∀ {vs : List V} {ds : List D}, Das W K H vs ds → Das W K H' vs ds
  | _, _, .nil => .nil
  | _, _, .cons h r => .cons (Da.up e h) (Das.up e r)
end
section
variable {W : Wld} {K : PySem.W.Frag} {H H' : Hp}
theorem Das.length {vs : List V} {ds : List D} (h : Das W K H vs ds) : vs.length = ds.length := by
  induction vs generalizing ds with
  | nil => cases h; rfl
  | cons v vs ih =>
    cases h with
    | cons _ r => exact congrArg Nat.succ (ih r)
theorem Das.app {vs ws : List V} {ds es : List D} (h : Das W K H vs ds) (k : Das W K H ws es) : Das W K H (vs ++ ws) (ds ++ es) := by
  induction vs generalizing ds with
  | nil => cases h; exact k
  | cons v vs ih =>
    cases h with
    | cons a r => exact .cons a (ih r)
theorem Das.get {vs : List V} {ds : List D} (h : Das W K H vs ds) {i : Nat} {v : V} (e : vs[i]? = some v) : ∃ d, ds[i]? = some d ∧ Da W K H v d := by
  induction vs generalizing ds i with
  | nil => cases e
  | cons x vs ih =>
    cases h with
    | cons a r =>
      cases i with
      | zero =>
        cases e
        exact ⟨_, rfl, a⟩
      | succ i => exact ih r e
theorem Das.getD {vs : List V} {ds : List D} (h : Das W K H vs ds) {i : Nat} {d : D} (e : ds[i]? = some d) : ∃ v, vs[i]? = some v ∧ Da W K H v d := by
  induction vs generalizing ds i with
  | nil => cases h; cases e
  | cons x vs ih =>
    cases h with
    | cons a r =>
      cases i with
      | zero =>
        cases e
        exact ⟨_, rfl, a⟩
      | succ i => exact ih r e
theorem Da.R {v : V} {d : D} (r : W.R H H') (h : Da W K (W.cut H) v d) : Da W K (W.cut H') v d := h.up r.ex
theorem Das.R {v : List V} {d : List D} (r : W.R H H') (h : Das W K (W.cut H) v d) : Das W K (W.cut H') v d := h.up r.ex
theorem Da.here {v : V} {d : D} (h : Da W K (W.cut H) v d) : Da W K H v d := h.up cut_sub
theorem Das.here {v : List V} {d : List D} (h : Das W K (W.cut H) v d) : Das W K H v d := h.up cut_sub
end

/-! ## wishes -/
/-- the names' data by slot -/
abbrev Env := List (Option D)
/-- an expression over data: what it must do with the names' data, for the wish behind it, and the wish for an error -/
abbrev EM := Env → (D → Prop) → (EX → Prop) → Prop
abbrev TM := Env → (Bool → Prop) → (EX → Prop) → Prop
abbrev AM := Env → (List D → Prop) → (EX → Prop) → Prop
/-- what is wished behind a statement -/
structure SE where
  nx : Env → Prop
  rt : D → Prop
  bk : Env → Prop := fun _ => False
  ct : Env → Prop := fun _ => False
  ex : EX → Prop := fun _ => False
abbrev SM := Env → SE → Prop
/-- a def over data -/
abbrev FM := List D → (D → Prop) → (EX → Prop) → Prop

/-- the tables of code objects that the law's lambdas come from, by the written part -/
class TabsOf where
  tb : PySem.W.Frag → List (Addr × Str)
/-- the slots hold these data -/
structure SL [TabsOf] (W : Wld) (K : PySem.W.Frag) (σ : L2.St) (H : Hp) (δ : Env) : Prop where
  len : σ.length = δ.length
  tb : W.tb = TabsOf.tb K
  at_ : ∀ (i : Nat) (d : D), δ[i]? = some (some d) → ∃ v, σ[i]? = some (some v) ∧ Da W K (W.cut H) v d
variable [TabsOf]
theorem SL.R {W : Wld} {K : PySem.W.Frag} {σ : L2.St} {H H' : Hp} {δ : Env} (r : W.R H H') (h : SL W K σ H δ) : SL W K σ H' δ :=
  ⟨h.len, h.tb, fun i d e => let ⟨v, h1, h2⟩ := h.at_ i d e; ⟨v, h1, h2.R r⟩⟩
theorem SL.set {W : Wld} {K : PySem.W.Frag} {σ : L2.St} {H : Hp} {δ : Env} {v : V} {d : D} (h : SL W K σ H δ) (i : Nat) (hv : Da W K (W.cut H) v d) :
    SL W K (σ.set i (some v)) H (δ.set i (some d)) := by
  refine ⟨by simp [h.len], h.tb, fun j e q => ?_⟩
  by_cases hj : i = j
  · subst hj
    by_cases hl : i < δ.length
    · rw [List.getElem?_set_self hl] at q
      cases q
      refine ⟨v, ?_, hv⟩
      rw [List.getElem?_set_self (by rw [h.len]; exact hl)]
    · rw [List.getElem?_eq_none (by simp; omega)] at q
      cases q
  · rw [List.getElem?_set_ne hj] at q ⊢
    exact h.at_ j e q
/-- an error has come out at H': its class at C, its dict at d -/
def ErrOut (W : Wld) (K : PySem.W.Frag) (H : Hp) (x : EX) (C : Value) (d : Option Addr) (H' : Hp) : Prop :=
  W.R H H' ∧ C = .ref (He.ga K x.1) ∧ ∃ xs : List V, Das W K (W.cut H') xs (x.2.map (·.2)) ∧
    ((d = none ∧ x.2 = []) ∨ ∃ dd, d = some dd ∧ W.cut H' dd = some (.xd ((x.2.map (·.1)).zip xs)))
/-- the wish for an error, on the heap -/
def XLink (W : Wld) (K : PySem.W.Frag) (H : Hp) (E : XK) (ex : EX → Prop) : Prop := ∀ x C d H', ErrOut W K H x C d H' → ex x → E C d H'
def EvO (W : Wld) (K : PySem.W.Frag) (E : XK) (t : TE) (m : EM) : Prop := ∀ σ H Q δ post ex, SL W K σ H δ → W.ok H → m δ post ex →
  (∀ v H' d, W.R H H' → Da W K (W.cut H') v d → post d → Q v H') → XLink W K H E ex → t σ H Q
def EvT (W : Wld) (K : PySem.W.Frag) (E : XK) (t : TT) (m : TM) : Prop := ∀ σ H Q δ post ex, SL W K σ H δ → W.ok H → m δ post ex →
  (∀ b H', W.R H H' → post b → Q b H') → XLink W K H E ex → t σ H Q
def EvA (W : Wld) (K : PySem.W.Frag) (E : XK) (t : TA) (m : AM) : Prop := ∀ σ H Q δ post ex, SL W K σ H δ → W.ok H → m δ post ex →
  (∀ vs H' ds, W.R H H' → Das W K (W.cut H') vs ds → post ds → Q vs H') → XLink W K H E ex → t σ H Q
structure SLink (W : Wld) (K : PySem.W.Frag) (E : XK) (H : Hp) (Z : Ends) (F : SE) : Prop where
  nx : ∀ σ' H' δ', W.R H H' → SL W K σ' H' δ' → F.nx δ' → Z.nx σ' H'
  rt : ∀ v H' d, W.R H H' → Da W K (W.cut H') v d → F.rt d → Z.rt v H'
  bk : ∀ σ' H' δ', W.R H H' → SL W K σ' H' δ' → F.bk δ' → Z.bk σ' H'
  ct : ∀ σ' H' δ', W.R H H' → SL W K σ' H' δ' → F.ct δ' → Z.ct σ' H'
  ex : XLink W K H E F.ex
def EvS (W : Wld) (K : PySem.W.Frag) (E : XK) (t : TS) (m : SM) : Prop := ∀ σ H Z δ F, SL W K σ H δ → W.ok H → m δ F → SLink W K E H Z F → t Z σ H
theorem XLink.R {W : Wld} {K : PySem.W.Frag} {H H' : Hp} {E : XK} {ex : EX → Prop} (r : W.R H H') (l : XLink W K H E ex) : XLink W K H' E ex :=
  fun x C d H2 ⟨r2, h⟩ => l x C d H2 ⟨r.trans r2, h⟩
theorem SLink.R {W : Wld} {K : PySem.W.Frag} {E : XK} {H H' : Hp} {Z : Ends} {F : SE} (r : W.R H H') (l : SLink W K E H Z F) : SLink W K E H' Z F :=
  ⟨fun σ' H2 δ' r2 => l.nx σ' H2 δ' (r.trans r2), fun v H2 d r2 => l.rt v H2 d (r.trans r2), fun σ' H2 δ' r2 => l.bk σ' H2 δ' (r.trans r2),
    fun σ' H2 δ' r2 => l.ct σ' H2 δ' (r.trans r2), l.ex.R r⟩

/-! ## a piece of Python and what it does -/
def PX (X : Cx) (E : XK) (e : Expr) (m : EM) : Prop := ∃ t, PE X e t ∧ ∀ W, EvO W X.K E t m
def TX (X : Cx) (E : XK) (e : Expr) (m : TM) : Prop := ∃ t, PT X e t ∧ ∀ W, EvT W X.K E t m
def AX (X : Cx) (E : XK) (es : List Expr) (m : AM) : Prop := ∃ t, PA X es t ∧ ∀ W, EvA W X.K E t m
def SX (X : Cx) (E : XK) (s : Stmt) (m : SM) : Prop := ∃ t, PS X s t ∧ ∀ W, EvS W X.K E t m
def BX (X : Cx) (E : XK) (ss : List Stmt) (m : SM) : Prop := ∃ t, PSs X ss t ∧ ∀ W, EvS W X.K E t m
end Fw
/-! # FwRun: the rules, expressions -/
namespace Fw
open PySem PySem.Spec PyProof.Rows L2
open Evl (Ex)
variable [TabsOf]
section
variable {X : Cx} {E : XK}

/-! ## names, constants -/
def mVar (i : Nat) : EM := fun δ post _ => ∃ d, δ[i]? = some (some d) ∧ post d
def mC (d : D) : EM := fun _ post _ => post d
theorem px_var (i : Nat) {x : Str} {pos : Pos} (hN : X.N[i]? = some x := by rfl)
    (hv : Vis X.env.scope x := by first | exact Or.inl rfl | exact Or.inr (Or.inl rfl) | exact Or.inr (Or.inr rfl))
    (hd : (x == ("__debug__" : Str)) = false := by decide) (hcd : (x == ("__classdict__" : Str)) = false := by decide) :
    PX X E (.Name x pos) (mVar i) := by
  refine ⟨tVar i, pe_var hN hv hd hcd, fun W σ H Q δ post ex hs ok ⟨d, e, p⟩ q _ => ?_⟩
  obtain ⟨v, h1, h2⟩ := hs.at_ i d e
  exact ⟨v, h1, q v H d (.refl ok) h2 p⟩
theorem evo_c {W : Wld} {K : PySem.W.Frag} {v : V} {d : D} (h : ∀ H, Da W K H v d) : EvO W K E (tC v) (mC d) :=
  fun _ H _ _ _ _ _ ok p q _ => q v H d (.refl ok) (h _) p
theorem px_int {i : Int} {j : Nat} {pos : Pos} : PX X E (.Constant (.int i) j pos) (mC (.int i)) := ⟨_, pe_int, fun _ => evo_c fun _ => .int i⟩
theorem px_str {x : Str} {j : Nat} {pos : Pos} : PX X E (.Constant (.str x) j pos) (mC (.str x)) := ⟨_, pe_str, fun _ => evo_c fun _ => .str x⟩
theorem px_bl {b : Bool} {j : Nat} {pos : Pos} : PX X E (.Constant (.bool b) j pos) (mC (.bl b)) := ⟨_, pe_bl, fun _ => evo_c fun _ => .bl b⟩
theorem px_non {j : Nat} {pos : Pos} : PX X E (.Constant .none j pos) (mC .non) := ⟨_, pe_non, fun _ => evo_c fun _ => .non⟩
/-- a constant of the module -/
theorem px_glob {x : Str} {v : V} {u : Value} {d : D} {pos : Pos} (hg : Gl X x) (hm : X.mg x = some u) (r : RelV v u) (h : ∀ W H, Da W X.K H v d)
    (hd : (x == ("__debug__" : Str)) = false := by decide) : PX X E (.Name x pos) (mC d) := ⟨_, pe_glob hg hm r (hd := hd), fun W => evo_c fun _ => h W _⟩

/-! ## operators on data -/
def OpD (W : Wld) (K : PySem.W.Frag) (r : R2) (f : D → D → D → Prop) : Prop := ∀ H x y a b z (Q : VK), W.ok H → Da W K (W.cut H) x a → Da W K (W.cut H) y b →
  f a b z → (∀ v H', W.R H H' → Da W K (W.cut H') v z → Q v H') → r x y H Q
def mOp (f : D → D → D → Prop) (a b : EM) : EM := fun δ post ex => a δ (fun x => b δ (fun y => ∃ z, f x y z ∧ post z) ex) ex
theorem evo_op {W : Wld} {K : PySem.W.Frag} {r : R2} {f : D → D → D → Prop} {ta tb : TE} {ma mb : EM} (ho : OpD W K r f) (ha : EvO W K E ta ma) (hb : EvO W K E tb mb) :
    EvO W K E (tOp r ta tb) (mOp f ma mb) := by
  intro σ H Q δ post ex hs ok h q lx
  refine ha σ H _ δ _ ex hs ok h ?_ lx
  intro v H1 a r1 hv h1
  refine hb σ H1 _ δ _ ex (hs.R r1) r1.ok h1 ?_ (lx.R r1)
  rintro u H2 b r2 hu ⟨z, hz, hp⟩
  refine ho H2 v u a b z Q r2.ok (hv.R r2) hu hz ?_
  exact fun w' H3 r3 hw => q w' H3 z ((r1.trans r2).trans r3) hw hp
section
variable {r : R2} {f : D → D → D → Prop} {a b : Expr} {ma mb : EM} {pos : Pos}
theorem px_op {op : Operator} (ho : OpR X (binaryOp op) r) (hf : ∀ W, OpD W X.K r f) (ha : PX X E a ma) (hb : PX X E b mb) : PX X E (.BinOp a op b pos) (mOp f ma mb) := by
  obtain ⟨ta, pa, ea⟩ := ha
  obtain ⟨tb, pb, eb⟩ := hb
  exact ⟨_, pe_op ho pa pb, fun W => evo_op (hf W) (ea W) (eb W)⟩
theorem px_cmp {op : CmpOp} (ho : OpR X (compareOp op) r) (hf : ∀ W, OpD W X.K r f) (ha : PX X E a ma) (hb : PX X E b mb) (hm : behindInMarks op b = false := by first | rfl | exact nomark _) :
    PX X E (.Compare a [op] [b] pos) (mOp f ma mb) := by
  obtain ⟨ta, pa, ea⟩ := ha
  obtain ⟨tb, pb, eb⟩ := hb
  exact ⟨_, pe_cmpR ho pa pb hm, fun W => evo_op (hf W) (ea W) (eb W)⟩
/-- of ints -/
theorem opD_I0 {W : Wld} {K : PySem.W.Frag} {g : Int → Int → V} {g' : Int → Int → D} (h : ∀ i j H, Da W K H (g i j) (g' i j)) :
    OpD W K (rI0 g) (fun a b z => ∃ i j, a = .int i ∧ b = .int j ∧ z = g' i j) := by
  rintro H x y _ _ _ Q ok hx hy ⟨i, j, rfl, rfl, rfl⟩ q
  cases hx
  cases hy
  exact ⟨i, j, rfl, rfl, q _ H (.refl ok) (h i j _)⟩
theorem opD_I {W : Wld} {K : PySem.W.Frag} {C : Int → Int → Prop} {g : Int → Int → V} {g' : Int → Int → D} (h : ∀ i j H, Da W K H (g i j) (g' i j)) :
    OpD W K (rI C g) (fun a b z => ∃ i j, a = .int i ∧ b = .int j ∧ C i j ∧ z = g' i j) := by
  rintro H x y _ _ _ Q ok hx hy ⟨i, j, rfl, rfl, c, rfl⟩ q
  cases hx
  cases hy
  exact ⟨i, j, rfl, rfl, c, q _ H (.refl ok) (h i j _)⟩
def fI (g : Int → Int → Int) (a b z : D) : Prop := ∃ i j, a = .int i ∧ b = .int j ∧ z = .int (g i j)
def fIB (g : Int → Int → Bool) (a b z : D) : Prop := ∃ i j, a = .int i ∧ b = .int j ∧ z = .bl (g i j)
def fIc (C : Int → Int → Prop) (g : Int → Int → Int) (a b z : D) : Prop := ∃ i j, a = .int i ∧ b = .int j ∧ C i j ∧ z = .int (g i j)
theorem px_sub (ha : PX X E a ma) (hb : PX X E b mb) : PX X E (.BinOp a .Sub b pos) (mOp (fI (· - ·)) ma mb) := px_op op_sub (fun W => opD_I0 fun i j _ => .int _) ha hb
theorem px_mul (ha : PX X E a ma) (hb : PX X E b mb) : PX X E (.BinOp a .Mult b pos) (mOp (fIc CMul (· * ·)) ma mb) := px_op op_mul (fun W => opD_I fun i j _ => .int _) ha hb
theorem px_fdiv (ha : PX X E a ma) (hb : PX X E b mb) : PX X E (.BinOp a .FloorDiv b pos) (mOp (fIc CDivW (· / ·)) ma mb) := px_op op_fdivW (fun W => opD_I fun i j _ => .int _) ha hb
theorem px_mod (ha : PX X E a ma) (hb : PX X E b mb) : PX X E (.BinOp a .Mod b pos) (mOp (fIc (fun _ j => 0 < j) (· % ·)) ma mb) := px_op op_mod (fun W => opD_I fun i j _ => .int _) ha hb
theorem px_pow (ha : PX X E a ma) (hb : PX X E b mb) : PX X E (.BinOp a .Pow b pos) (mOp (fIc CPow fun i j => i ^ j.toNat) ma mb) := px_op op_pow (fun W => opD_I fun i j _ => .int _) ha hb
theorem px_shr (ha : PX X E a ma) (hb : PX X E b mb) : PX X E (.BinOp a .RShift b pos) (mOp (fIc (fun _ j => 0 ≤ j) fun i j => i / 2 ^ j.toNat) ma mb) := px_op op_shr (fun W => opD_I fun i j _ => .int _) ha hb
theorem px_band (ha : PX X E a ma) (hb : PX X E b mb) : PX X E (.BinOp a .BitAnd b pos) (mOp (fI Builtin.bitAnd) ma mb) := px_op op_and (fun W => opD_I0 fun i j _ => .int _) ha hb
theorem px_bxor (ha : PX X E a ma) (hb : PX X E b mb) : PX X E (.BinOp a .BitXor b pos) (mOp (fI Builtin.bitXor) ma mb) := px_op op_xor (fun W => opD_I0 fun i j _ => .int _) ha hb
theorem px_lt (ha : PX X E a ma) (hb : PX X E b mb) : PX X E (.Compare a [.Lt] [b] pos) (mOp (fIB fun i j => decide (i < j)) ma mb) := px_cmp op_lt (fun W => opD_I0 fun i j _ => .bl _) ha hb
theorem px_le (ha : PX X E a ma) (hb : PX X E b mb) : PX X E (.Compare a [.LtE] [b] pos) (mOp (fIB fun i j => decide (i ≤ j)) ma mb) := px_cmp op_le (fun W => opD_I0 fun i j _ => .bl _) ha hb
theorem px_gt (ha : PX X E a ma) (hb : PX X E b mb) : PX X E (.Compare a [.Gt] [b] pos) (mOp (fIB fun i j => decide (j < i)) ma mb) := px_cmp op_gt (fun W => opD_I0 fun i j _ => .bl _) ha hb
theorem px_ge (ha : PX X E a ma) (hb : PX X E b mb) : PX X E (.Compare a [.GtE] [b] pos) (mOp (fIB fun i j => decide (j ≤ i)) ma mb) := px_cmp op_ge (fun W => opD_I0 fun i j _ => .bl _) ha hb
end
end

/-! ## + of ints, of lists, of tuples, of texts -/
section
variable {X : Cx} {E : XK}
def rAddU (K : PySem.W.Frag) : R2 := fun x y H Q =>
  (rI0 (fun i j => V.int (i + j)) x y H Q ∨ rCat x y H Q) ∨ (rCatA K x y H Q ∨ ∃ i j, x = .str i ∧ y = .str j ∧ i.length + j.length ≤ sizeLine ∧ Q (.str (i ++ j)) H)
theorem op_addU : OpR X (binaryOp .Add) (rAddU X.K) := by
  intro pins s σ H x y v u Q I rx ry hq
  rcases hq with (q | q) | (q | q)
  · exact op_add pins s σ H x y v u Q I rx ry q
  · exact op_cat pins s σ H x y v u Q I rx ry q
  · exact op_catA pins s σ H x y v u Q I rx ry q
  · exact op_add_str pins s σ H x y v u Q I rx ry q
def fAdd (a b z : D) : Prop := match a, b with
  | .int i, .int j => z = .int (i + j)
  | .lst xs, .lst ys => xs.length + ys.length ≤ 16777216 ∧ z = .lst (xs ++ ys)
  | .tup xs, .tup ys => xs.length + ys.length ≤ 16777216 ∧ z = .tup (xs ++ ys)
  | .str x, .str y => x.length + y.length ≤ 16777216 ∧ z = .str (x ++ y)
  | _, _ => False
theorem sizeLe {n : Nat} (h : n ≤ 16777216) : n ≤ sizeLine := by rw [sizeLine_eq]; exact h
theorem da_new {W : Wld} {K : PySem.W.Frag} {H : Hp} {p : Addr} {xs : List V} {ds : List D} (ok : W.ok H) (hp : H p = none) (h : Das W K (W.cut H) xs ds) :
    Da W K (W.cut (upd H p (.lst xs))) (.ref p) (.lst ds) := .lst (cut_new ok hp fun _ z => nomatch z) (h.R (R_new ok hp))
theorem da_newT {W : Wld} {K : PySem.W.Frag} {H : Hp} {p : Addr} {xs : List V} {ds : List D} (ok : W.ok H) (hp : H p = none) (h : Das W K (W.cut H) xs ds) :
    Da W K (W.cut (upd H p (.tup xs))) (.ref p) (.tup ds) := .tup (Evl.st_of (cut_new ok hp fun _ z => nomatch z)) (h.R (R_new ok hp))
theorem opD_add {W : Wld} {K : PySem.W.Frag} : OpD W K (rAddU K) fAdd := by
  intro H x y a b z Q ok hx hy hf q
  cases hx <;> cases hy <;> try (exact hf.elim)
  case int.int i j =>
    cases hf
    exact .inl (.inl ⟨i, j, rfl, rfl, q _ H (.refl ok) (.int _)⟩)
  case str.str i j =>
    obtain ⟨hl, rfl⟩ := hf
    exact .inr (.inr ⟨i, j, rfl, rfl, sizeLe hl, q _ H (.refl ok) (.str _)⟩)
  case lst.lst a xs ds h1 r1 b ys es h2 r2 =>
    obtain ⟨hl, rfl⟩ := hf
    refine .inl (.inr ⟨a, b, xs, ys, rfl, rfl, cut_sub _ _ h1, cut_sub _ _ h2, sizeLe (by rw [r1.length, r2.length]; exact hl), fun p hp => ?_⟩)
    exact q _ _ (R_new ok hp) (da_new ok hp (r1.app r2))
  case tup.tup a xs ds h1 r1 b ys es h2 r2 =>
    obtain ⟨hl, rfl⟩ := hf
    refine .inr (.inl ⟨a, b, xs, ys, rfl, rfl, Evl.ex_t cut_sub h1, Evl.ex_t cut_sub h2, sizeLe (by rw [r1.length, r2.length]; exact hl), ?_, ?_, ?_⟩)
    · rintro rfl
      cases r1
      exact q _ H (.refl ok) (.tup h2 r2)
    · rintro _ rfl
      cases r2
      rw [List.append_nil] at q
      exact q _ H (.refl ok) (.tup h1 r1)
    · intro _ _ p hp
      exact q _ _ (R_new ok hp) (da_newT ok hp (r1.app r2))
variable {a b : Expr} {ma mb : EM} {pos : Pos}
theorem px_add (ha : PX X E a ma) (hb : PX X E b mb) : PX X E (.BinOp a .Add b pos) (mOp fAdd ma mb) := px_op op_addU (fun _ => opD_add) ha hb

/-! ## == and != of data -/
mutual
def toP : D → PyData
  | .non => .none | .bl b => .bool b | .int i => .int i | .str x => .str x
  | .lst ds => .list (toPs ds) | .tup ds => .tuple (toPs ds)
  | .dic _ _ => .dict [] | .err _ _ => .dict [] | .drw => .dict [] | .scr _ => .dict []
def toPs : List D → List PyData
  | [] => []
  | d :: ds => toP d :: toPs ds
end
mutual
/-- plain data: what == compares -/
def pd : D → Bool
  | .non => true | .bl _ => true | .int _ => true | .str x => PyData.strOk x
  | .lst ds => pds ds | .tup ds => pds ds
  | .dic _ _ => false | .err _ _ => false | .drw => false | .scr _ => false
def pds : List D → Bool
  | [] => true
  | d :: ds => pd d && pds ds
end
mutual
theorem da_dp {W : Wld} {K : PySem.W.Frag} {H : Hp} : ∀ {d : D} {v : V}, pd d = true → Da W K H v d → Dp K H v (toP d)
  | _, _, _, .non => .non
  | _, _, _, .bl b => .bl b
  | _, _, _, .int i => .int i
  | _, _, _, .str x => .str x
  | .lst ds, _, h, .lst e r => .lst (Evl.sq_of e) (das_dp (by unfold pd at h; exact h) r)
  | .tup ds, _, h, .tup e r => .tup e (das_dp (by unfold pd at h; exact h) r)
  | .dic _ _, _, h, _ => by unfold pd at h; cases h
  | .err _ _, _, h, _ => by unfold pd at h; cases h
  | .drw, _, h, _ => by unfold pd at h; cases h
  | .scr _, _, h, _ => by unfold pd at h; cases h
theorem das_dp {W : Wld} {K : PySem.W.Frag} {H : Hp} : ∀ {ds : List D} {vs : List V}, pds ds = true → Das W K H vs ds → DpAll K H vs (toPs ds)
  | [], _, _, .nil => .nil
  | d :: ds, _, h, .cons e r => by
    unfold pds at h
    have := Bool.and_eq_true_iff.mp h
    exact .cons (da_dp this.1 e) (das_dp this.2 r)
end
/-- data that == takes: plain, not too deep -/
def eqOk (d : D) : Prop := pd d = true ∧ (toP d).depth ≤ 64
end
end Fw
/-! # FwRun2: comparisons, tests, displays, calls -/
namespace Fw
open PySem PySem.Spec PyProof.Rows L2
open Evl (Ex)
variable [TabsOf]
mutual
theorem canLay_pd : ∀ d : D, pd d = true → (toP d).canLay0 = true
  | .non, _ => rfl
  | .bl _, _ => rfl
  | .int _, _ => rfl
  | .str x, h => by unfold pd at h; unfold toP PyData.canLay0; exact h
  | .lst ds, h => by unfold pd at h; unfold toP PyData.canLay0; exact canLay_pds ds h
  | .tup ds, h => by unfold pd at h; unfold toP PyData.canLay0; exact canLay_pds ds h
  | .dic _ _, h => by unfold pd at h; cases h
  | .err _ _, h => by unfold pd at h; cases h
  | .drw, h => by unfold pd at h; cases h
  | .scr _, h => by unfold pd at h; cases h
theorem canLay_pds : ∀ ds : List D, pds ds = true → PyData.canLayAll0 (toPs ds) = true
  | [], _ => rfl
  | d :: ds, h => by
    unfold pds at h
    have := Bool.and_eq_true_iff.mp h
    unfold toPs PyData.canLayAll0
    rw [canLay_pd d this.1, canLay_pds ds this.2]
    rfl
end
theorem shaped_of {d : D} (h : eqOk d) : SeqAt.shaped (toP d) = true := by
  unfold SeqAt.shaped
  rw [canLay_pd d h.1, decide_eq_true h.2]
  rfl
section
variable {X : Cx} {E : XK} {a b : Expr} {ma mb : EM} {pos : Pos} {k : Nat}
def eqd (a b : D) : Bool := PyData.eqv (toP a) (toP b)
def fEq (a b z : D) : Prop := eqOk a ∧ eqOk b ∧ z = .bl (eqd a b)
def fNe (a b z : D) : Prop := eqOk a ∧ eqOk b ∧ z = .bl (!eqd a b)
theorem room64 {A : Around} (hr : Room k A) : A.units + 64 < cLine := by
  have := hr.un
  omega
theorem opD_eq {W : Wld} {K : PySem.W.Frag} : OpD W K (rEqD K) fEq := by
  rintro H x y a b z Q ok hx hy ⟨ha, hb, rfl⟩ q
  exact ⟨_, _, da_dp ha.1 hx.here, da_dp hb.1 hy.here, shaped_of ha, shaped_of hb, q _ H (.refl ok) (.bl _)⟩
theorem opD_ne {W : Wld} {K : PySem.W.Frag} : OpD W K (rNeD K) fNe := by
  rintro H x y a b z Q ok hx hy ⟨ha, hb, rfl⟩ q
  exact ⟨_, _, da_dp ha.1 hx.here, da_dp hb.1 hy.here, shaped_of ha, shaped_of hb, q _ H (.refl ok) (.bl _)⟩
theorem px_eq (hr : Room k X.A) (ha : PX X E a ma) (hb : PX X E b mb) (hm : behindInMarks .Eq b = false := by first | rfl | exact nomark _) :
    PX X E (.Compare a [.Eq] [b] pos) (mOp fEq ma mb) := px_cmp (op_eqD (room64 hr)) (fun _ => opD_eq) ha hb hm
theorem px_ne (hr : Room k X.A) (ha : PX X E a ma) (hb : PX X E b mb) (hm : behindInMarks .NotEq b = false := by first | rfl | exact nomark _) :
    PX X E (.Compare a [.NotEq] [b] pos) (mOp fNe ma mb) := px_cmp (op_neD (room64 hr)) (fun _ => opD_ne) ha hb hm

/-! ## is -/
def isNon : D → Bool
  | .non => true
  | _ => false
def fIsN (a b z : D) : Prop := b = .non ∧ z = .bl (isNon a)
def fNotN (a b z : D) : Prop := b = .non ∧ z = .bl (!isNon a)
theorem da_non {W : Wld} {K : PySem.W.Frag} {H : Hp} {v : V} {d : D} (h : Da W K H v d) : decide (v = .non) = isNon d := by
  cases h <;> first
    | rfl
    | exact decide_eq_false fun z => nomatch z
theorem px_isN (ha : PX X E a ma) (hb : PX X E b mb) (hm : behindInMarks .Is b = false := by first | rfl | exact nomark _) :
    PX X E (.Compare a [.Is] [b] pos) (mOp fIsN ma mb) := px_cmp op_isN (fun W => by
  rintro H x y c d z Q ok hx hy ⟨rfl, rfl⟩ q
  cases hy
  refine ⟨rfl, ?_⟩
  rw [da_non hx]
  exact q _ H (.refl ok) (.bl _)) ha hb hm
theorem px_notN (ha : PX X E a ma) (hb : PX X E b mb) (hm : behindInMarks .IsNot b = false := by first | rfl | exact nomark _) :
    PX X E (.Compare a [.IsNot] [b] pos) (mOp fNotN ma mb) := px_cmp op_notN (fun W => by
  rintro H x y c d z Q ok hx hy ⟨rfl, rfl⟩ q
  cases hy
  refine ⟨rfl, ?_⟩
  rw [da_non hx]
  exact q _ H (.refl ok) (.bl _)) ha hb hm
/-- is True, is False, of a truth value -/
def fIsB (a b z : D) : Prop := ∃ p q, a = .bl p ∧ b = .bl q ∧ z = .bl (decide (p = q))
def fNotB (a b z : D) : Prop := ∃ p q, a = .bl p ∧ b = .bl q ∧ z = .bl (!decide (p = q))
theorem px_isB (ha : PX X E a ma) (hb : PX X E b mb) (hm : behindInMarks .Is b = false := by first | rfl | exact nomark _) :
    PX X E (.Compare a [.Is] [b] pos) (mOp fIsB ma mb) := px_cmp op_isBl (fun W => by
  rintro H x y c d z Q ok hx hy ⟨p, r, rfl, rfl, rfl⟩ q
  cases hx
  cases hy
  exact ⟨p, r, rfl, rfl, q _ H (.refl ok) (.bl _)⟩) ha hb hm
theorem px_notB (ha : PX X E a ma) (hb : PX X E b mb) (hm : behindInMarks .IsNot b = false := by first | rfl | exact nomark _) :
    PX X E (.Compare a [.IsNot] [b] pos) (mOp fNotB ma mb) := px_cmp op_notBl (fun W => by
  rintro H x y c d z Q ok hx hy ⟨p, r, rfl, rfl, rfl⟩ q
  cases hx
  cases hy
  exact ⟨p, r, rfl, rfl, q _ H (.refl ok) (.bl _)⟩) ha hb hm
end

/-! ## x in written words -/
def flatD : D → Bool
  | .non => true | .bl _ => true | .int _ => true | .str _ => true
  | _ => false
def eqF : D → D → Bool
  | .non, .non => true
  | .bl a, .bl b => a == b
  | .bl a, .int b => (if a then 1 else 0) == b
  | .int a, .bl b => a == (if b then 1 else 0)
  | .int a, .int b => a == b
  | .str a, .str b => a == b
  | _, _ => false
def inD (x : D) (xs : List D) : Bool := xs.any fun y => eqF y x
theorem flat_of {W : Wld} {K : PySem.W.Frag} {H : Hp} {v : V} {d : D} (h : Da W K H v d) : flatV v = flatD d := by cases h <;> rfl
theorem eqF_of {W : Wld} {K : PySem.W.Frag} {H : Hp} {v u : V} {d e : D} (h : Da W K H v d) (k : Da W K H u e) (f : flatD d = true) (g : flatD e = true) : eqV v u = eqF d e := by
  cases h <;> first
    | (cases f; done)
    | (cases k <;> first
      | rfl
      | (cases g; done))
theorem flats_of {W : Wld} {K : PySem.W.Frag} {H : Hp} {vs : List V} {ds : List D} (h : Das W K H vs ds) : vs.all flatV = ds.all flatD := by
  induction vs generalizing ds with
  | nil => cases h; rfl
  | cons v vs ih =>
    cases h with
    | cons a r => rw [List.all_cons, List.all_cons, flat_of a, ih r]
theorem inV_of {W : Wld} {K : PySem.W.Frag} {H : Hp} {v : V} {d : D} {vs : List V} {ds : List D} (hv : Da W K H v d) (f : flatD d = true) (h : Das W K H vs ds) (g : ds.all flatD = true) : inV v vs = inD d ds := by
  unfold inV inD
  induction vs generalizing ds with
  | nil => cases h; rfl
  | cons x vs ih =>
    cases h with
    | cons a r =>
      rw [List.all_cons] at g
      have := Bool.and_eq_true_iff.mp g
      rw [List.any_cons, List.any_cons, eqF_of a hv this.1 f, ih r this.2]
def itemsD : D → Option (List D)
  | .lst ds => some ds
  | .tup ds => some ds
  | _ => none
def fIn (a b z : D) : Prop := ∃ ds, itemsD b = some ds ∧ flatD a = true ∧ ds.all flatD = true ∧ z = .bl (inD a ds)
def fNotIn (a b z : D) : Prop := ∃ ds, itemsD b = some ds ∧ flatD a = true ∧ ds.all flatD = true ∧ z = .bl (!inD a ds)
theorem opD_in {W : Wld} {K : PySem.W.Frag} {neg : Bool} : OpD W K (rIn K neg) (fun a b z => ∃ ds, itemsD b = some ds ∧ flatD a = true ∧ ds.all flatD = true ∧ z = .bl (if neg then !inD a ds else inD a ds)) := by
  rintro H x y a b z Q ok hx hy ⟨ds, hi, fa, fs, rfl⟩ q
  have fx : flatV x = true := by rw [flat_of hx, fa]
  cases hy <;> first
    | (cases hi; done)
    | skip
  case lst p xs es h r =>
    cases hi
    refine ⟨p, xs, rfl, .inl (Evl.sq_of (cut_sub _ _ h)), fx, by rw [flats_of r]; exact fs, ?_⟩
    rw [inV_of hx fa r fs]
    exact q _ H (.refl ok) (.bl _)
  case tup p xs es h r =>
    cases hi
    refine ⟨p, xs, rfl, .inr (Evl.ex_t cut_sub h), fx, by rw [flats_of r]; exact fs, ?_⟩
    rw [inV_of hx fa r fs]
    exact q _ H (.refl ok) (.bl _)
section
variable {X : Cx} {E : XK} {a b : Expr} {ma mb : EM} {pos : Pos}
theorem px_in (ha : PX X E a ma) (hb : PX X E b mb) (hm : behindInMarks .In b = false := by first | rfl | exact nomark _) :
    PX X E (.Compare a [.In] [b] pos) (mOp fIn ma mb) := px_cmp (op_in_seq) (fun _ => opD_in (neg := false)) ha hb hm
theorem px_notIn (ha : PX X E a ma) (hb : PX X E b mb) (hm : behindInMarks .NotIn b = false := by first | rfl | exact nomark _) :
    PX X E (.Compare a [.NotIn] [b] pos) (mOp fNotIn ma mb) := px_cmp (op_notIn_seq) (fun _ => opD_in (neg := true)) ha hb hm

/-! ## -x, not, and, or, the conditional -/
def mNeg (a : EM) : EM := fun δ post ex => a δ (fun x => ∃ i, x = .int i ∧ post (.int (-i))) ex
theorem px_neg (ha : PX X E a ma) : PX X E (.UnaryOp .USub a pos) (mNeg ma) := by
  obtain ⟨ta, pa, ea⟩ := ha
  refine ⟨_, pe_un un_neg pa, fun W σ H Q δ post ex hs ok h q lx => ea W σ H _ δ _ ex hs ok h ?_ lx⟩
  rintro v H1 d r1 hv ⟨i, rfl, p⟩
  cases hv
  exact ⟨i, rfl, q _ H1 _ r1 (.int _) p⟩
/-- a value as a test -/
def mTest (a : EM) : TM := fun δ post ex => a δ (fun x => ∃ b, x = .bl b ∧ post b) ex
def mOf (t : TM) : EM := fun δ post ex => t δ (fun b => post (.bl b)) ex
theorem evt_B {W : Wld} {K : PySem.W.Frag} {t : TE} {m : EM} (h : EvO W K E t m) : EvT W K E (tB t) (mTest m) := by
  intro σ H Q δ post ex hs ok hm q lx
  refine h σ H _ δ _ ex hs ok hm ?_ lx
  rintro v H1 d r1 hv ⟨b, rfl, p⟩
  cases hv
  exact ⟨b, rfl, q b H1 r1 p⟩
theorem tx_val (h : PX X E a ma) (he : ∀ whole, isTrue a X.env whole = (do let v ← whole; standAt a.pos; holding [v] (truthy v)) := by intro _; rfl) : TX X E a (mTest ma) := by
  obtain ⟨t, p, e⟩ := h
  exact ⟨_, pt_val p he, fun W => evt_B (e W)⟩
theorem tx_cmp {op : CmpOp} {r : R2} {f : D → D → D → Prop} (ho : OpR X (compareOp op) r) (hf : ∀ W, OpD W X.K r f) (ha : PX X E a ma) (hb : PX X E b mb) (hm : behindInMarks op b = false := by first | rfl | exact nomark _) :
    TX X E (.Compare a [op] [b] pos) (mTest (mOp f ma mb)) := by
  obtain ⟨ta, pa, ea⟩ := ha
  obtain ⟨tb, pb, eb⟩ := hb
  refine ⟨_, pt_cmpR ho pa pb hm, fun W => ?_⟩
  exact evt_B (evo_op (hf W) (ea W) (eb W))
variable {mt mu : TM}
def mNot (t : TM) : TM := fun δ post ex => t δ (fun b => post (!b)) ex
def mAnd (t u : TM) : TM := fun δ post ex => t δ (fun b => if b = true then u δ post ex else post false) ex
def mOr (t u : TM) : TM := fun δ post ex => t δ (fun b => if b = true then post true else u δ post ex) ex
theorem tx_not (h : TX X E a mt) : TX X E (.UnaryOp .Not a pos) (mNot mt) := by
  obtain ⟨t, p, e⟩ := h
  refine ⟨_, pt_not p, fun W σ H Q δ post ex hs ok hm q lx => ?_⟩
  exact e W σ H _ δ _ ex hs ok hm (fun b H1 r1 hb => q _ H1 r1 hb) lx
theorem evt_and {W : Wld} {K : PySem.W.Frag} {t u : TT} (h : EvT W K E t mt) (k : EvT W K E u mu) : EvT W K E (tAnd t u) (mAnd mt mu) := by
  intro σ H Q δ post ex hs ok hm q lx
  refine h σ H _ δ _ ex hs ok hm (fun b H1 r1 hb => ?_) lx
  cases b with
  | true =>
    rw [if_pos rfl] at hb ⊢
    exact k σ H1 Q δ post ex (hs.R r1) r1.ok hb (fun c H2 r2 hc => q c H2 (r1.trans r2) hc) (lx.R r1)
  | false =>
    rw [if_neg Bool.false_ne_true] at hb ⊢
    exact q _ H1 r1 hb
theorem evt_or {W : Wld} {K : PySem.W.Frag} {t u : TT} (h : EvT W K E t mt) (k : EvT W K E u mu) : EvT W K E (tOr t u) (mOr mt mu) := by
  intro σ H Q δ post ex hs ok hm q lx
  refine h σ H _ δ _ ex hs ok hm (fun b H1 r1 hb => ?_) lx
  cases b with
  | true =>
    rw [if_pos rfl] at hb ⊢
    exact q _ H1 r1 hb
  | false =>
    rw [if_neg Bool.false_ne_true] at hb ⊢
    exact k σ H1 Q δ post ex (hs.R r1) r1.ok hb (fun c H2 r2 hc => q c H2 (r1.trans r2) hc) (lx.R r1)
end
end Fw
/-! # FwRun3: and, or, conditionals, chains, displays, calls, items -/
namespace Fw
open PySem PySem.Spec PyProof.Rows L2
open Evl (Ex)
variable [TabsOf]
/-- a test whatever its whole is -/
def WX' (X : Cx) (E : XK) (e : Expr) (m : TM) : Prop := ∃ t, PW X e t ∧ ∀ W, EvT W X.K E t m
section
variable {X : Cx} {E : XK} {a b c : Expr} {ma mb mc : EM} {ta tb : TM} {pos : Pos} {k : Nat} {rest : List Expr}
theorem WX'.tx {e : Expr} {m : TM} (h : WX' X E e m) : TX X E e m := let ⟨t, p, e⟩ := h; ⟨t, p.pt, e⟩
theorem wx_and1 (h : TX X E a ta) : WX' X E (.BoolOp .And [a] pos) ta := let ⟨t, p, e⟩ := h; ⟨t, pw_and1 p, e⟩
theorem wx_or1 (h : TX X E a ta) : WX' X E (.BoolOp .Or [a] pos) ta := let ⟨t, p, e⟩ := h; ⟨t, pw_or1 p, e⟩
theorem wx_and (h : TX X E a ta) (k : WX' X E (.BoolOp .And (b :: rest) pos) tb) : WX' X E (.BoolOp .And (a :: b :: rest) pos) (mAnd ta tb) :=
  let ⟨_, p, e⟩ := h
  let ⟨_, q, f⟩ := k
  ⟨_, pw_and p q, fun W => evt_and (e W) (f W)⟩
theorem wx_or (h : TX X E a ta) (k : WX' X E (.BoolOp .Or (b :: rest) pos) tb) : WX' X E (.BoolOp .Or (a :: b :: rest) pos) (mOr ta tb) :=
  let ⟨_, p, e⟩ := h
  let ⟨_, q, f⟩ := k
  ⟨_, pw_or p q, fun W => evt_or (e W) (f W)⟩
/-- as values -/
def mAndV (a b : EM) : EM := fun δ post ex => a δ (fun x => ∃ p, x = .bl p ∧ if p = true then b δ post ex else post (.bl false)) ex
def mOrV (a b : EM) : EM := fun δ post ex => a δ (fun x => ∃ p, x = .bl p ∧ if p = true then post (.bl true) else b δ post ex) ex
def mNotV (a : EM) : EM := fun δ post ex => a δ (fun x => ∃ p, x = .bl p ∧ post (.bl (!p))) ex
def mIf (t : TM) (a b : EM) : EM := fun δ post ex => t δ (fun p => if p = true then a δ post ex else b δ post ex) ex
theorem px_one {op : BoolOp} (h : PX X E a ma) : PX X E (.BoolOp op [a] pos) ma := let ⟨_, p, e⟩ := h; ⟨_, pe_one p, e⟩
theorem px_and (h : PX X E a ma) (k : PX X E (.BoolOp .And (b :: rest) pos) mb) : PX X E (.BoolOp .And (a :: b :: rest) pos) (mAndV ma mb) := by
  obtain ⟨t, p, e⟩ := h
  obtain ⟨u, q, f⟩ := k
  refine ⟨_, pe_and p q, fun W σ H Q δ post ex hs ok hm hq lx => ?_⟩
  refine e W σ H _ δ _ ex hs ok hm ?_ lx
  rintro v H1 d r1 hv ⟨c, rfl, hc⟩
  cases hv
  refine ⟨c, rfl, ?_⟩
  cases c with
  | true =>
    rw [if_pos rfl] at hc ⊢
    exact f W σ H1 Q δ post ex (hs.R r1) r1.ok hc (fun v H2 d r2 => hq v H2 d (r1.trans r2)) (lx.R r1)
  | false =>
    rw [if_neg Bool.false_ne_true] at hc ⊢
    exact hq _ H1 _ r1 (.bl _) hc
theorem px_or (h : PX X E a ma) (k : PX X E (.BoolOp .Or (b :: rest) pos) mb) : PX X E (.BoolOp .Or (a :: b :: rest) pos) (mOrV ma mb) := by
  obtain ⟨t, p, e⟩ := h
  obtain ⟨u, q, f⟩ := k
  refine ⟨_, pe_or p q, fun W σ H Q δ post ex hs ok hm hq lx => ?_⟩
  refine e W σ H _ δ _ ex hs ok hm ?_ lx
  rintro v H1 d r1 hv ⟨c, rfl, hc⟩
  cases hv
  refine ⟨c, rfl, ?_⟩
  cases c with
  | true =>
    rw [if_pos rfl] at hc ⊢
    exact hq _ H1 _ r1 (.bl _) hc
  | false =>
    rw [if_neg Bool.false_ne_true] at hc ⊢
    exact f W σ H1 Q δ post ex (hs.R r1) r1.ok hc (fun v H2 d r2 => hq v H2 d (r1.trans r2)) (lx.R r1)
theorem px_not (h : PX X E a ma) : PX X E (.UnaryOp .Not a pos) (mNotV ma) := by
  obtain ⟨t, p, e⟩ := h
  refine ⟨_, pe_not p, fun W σ H Q δ post ex hs ok hm hq lx => ?_⟩
  refine e W σ H _ δ _ ex hs ok hm ?_ lx
  rintro v H1 d r1 hv ⟨c, rfl, hc⟩
  cases hv
  exact ⟨c, rfl, hq _ H1 _ r1 (.bl _) hc⟩
theorem px_if (h : TX X E c ta) (ha : PX X E a ma) (hb : PX X E b mb) : PX X E (.IfExp c a b pos) (mIf ta ma mb) := by
  obtain ⟨t, p, e⟩ := h
  obtain ⟨u, q, f⟩ := ha
  obtain ⟨w, r, g⟩ := hb
  refine ⟨_, pe_ifExp p q r, fun W σ H Q δ post ex hs ok hm hq lx => ?_⟩
  refine e W σ H _ δ _ ex hs ok hm ?_ lx
  intro c H1 r1 hc
  cases c with
  | true =>
    rw [if_pos rfl] at hc ⊢
    exact f W σ H1 Q δ post ex (hs.R r1) r1.ok hc (fun v H2 d r2 => hq v H2 d (r1.trans r2)) (lx.R r1)
  | false =>
    rw [if_neg Bool.false_ne_true] at hc ⊢
    exact g W σ H1 Q δ post ex (hs.R r1) r1.ok hc (fun v H2 d r2 => hq v H2 d (r1.trans r2)) (lx.R r1)
/-- a op b op' c -/
def mChain (f g : D → D → D → Prop) (a b c : EM) : EM := fun δ post ex => a δ (fun x => b δ (fun y => ∃ p, f x y (.bl p) ∧
  if p = true then c δ (fun z => ∃ w, g y z w ∧ post w) ex else post (.bl false)) ex) ex
theorem evo_chain {W : Wld} {K : PySem.W.Frag} {r r' : R2} {f g : D → D → D → Prop} {t1 t2 t3 : TE} (ho : OpD W K r f) (ho' : OpD W K r' g)
    (h1 : EvO W K E t1 ma) (h2 : EvO W K E t2 mb) (h3 : EvO W K E t3 mc) : EvO W K E (tChain r r' t1 t2 t3) (mChain f g ma mb mc) := by
  intro σ H Q δ post ex hs ok hm hq lx
  refine h1 σ H _ δ _ ex hs ok hm ?_ lx
  intro v H1 x r1 hv hm
  refine h2 σ H1 _ δ _ ex (hs.R r1) r1.ok hm ?_ (lx.R r1)
  rintro u H2 y r2 hu ⟨p, hf, hm⟩
  refine ho H2 v u x y _ _ r2.ok (hv.R r2) hu hf ?_
  intro z H3 r3 hz
  cases hz
  refine ⟨p, rfl, ?_⟩
  have r123 := (r1.trans r2).trans r3
  cases p with
  | false =>
    rw [if_neg Bool.false_ne_true] at hm ⊢
    exact hq _ H3 _ r123 (.bl _) hm
  | true =>
    rw [if_pos rfl] at hm ⊢
    refine h3 σ H3 _ δ _ ex (hs.R r123) r3.ok hm ?_ (lx.R r123)
    rintro w' H4 z r4 hw ⟨w2, hg, hp⟩
    refine ho' H4 u w' y z w2 _ r4.ok (hu.R (r3.trans r4)) hw hg ?_
    exact fun v5 H5 r5 h5 => hq v5 H5 w2 ((r123.trans r4).trans r5) h5 hp
theorem px_chain {op op' : CmpOp} {r r' : R2} {f g : D → D → D → Prop} (ho : OpR X (compareOp op) r) (hf : ∀ W, OpD W X.K r f) (ho' : OpR X (compareOp op') r') (hg : ∀ W, OpD W X.K r' g)
    (ha : PX X E a ma) (hb : PX X E b mb) (hc : PX X E c mc) (hm : lastMarks [op, op'] [b, c] = false := by with_unfolding_all rfl) :
    PX X E (.Compare a [op, op'] [b, c] pos) (mChain f g ma mb mc) := by
  obtain ⟨_, p, e⟩ := ha
  obtain ⟨_, q, e2⟩ := hb
  obtain ⟨_, r, e3⟩ := hc
  exact ⟨_, pe_chain ho ho' p q r hm, fun W => evo_chain (hf W) (hg W) (e W) (e2 W) (e3 W)⟩
theorem tx_chain {op op' : CmpOp} {r r' : R2} {f g : D → D → D → Prop} (ho : OpR X (compareOp op) r) (hf : ∀ W, OpD W X.K r f) (ho' : OpR X (compareOp op') r') (hg : ∀ W, OpD W X.K r' g)
    (ha : PX X E a ma) (hb : PX X E b mb) (hc : PX X E c mc) (hm : lastMarks [op, op'] [b, c] = false := by with_unfolding_all rfl) :
    TX X E (.Compare a [op, op'] [b, c] pos) (mTest (mChain f g ma mb mc)) := by
  obtain ⟨_, p, e⟩ := ha
  obtain ⟨_, q, e2⟩ := hb
  obtain ⟨_, r, e3⟩ := hc
  exact ⟨_, pt_chain ho ho' p q r hm, fun W => evt_B (evo_chain (hf W) (hg W) (e W) (e2 W) (e3 W))⟩
abbrev dLe (W : Wld) (K : PySem.W.Frag) : OpD W K (rI0 fun i j => .bl (decide (i ≤ j))) (fIB fun i j => decide (i ≤ j)) := opD_I0 fun i j _ => .bl _
abbrev dLt (W : Wld) (K : PySem.W.Frag) : OpD W K (rI0 fun i j => .bl (decide (i < j))) (fIB fun i j => decide (i < j)) := opD_I0 fun i j _ => .bl _
abbrev dGt (W : Wld) (K : PySem.W.Frag) : OpD W K (rI0 fun i j => .bl (decide (j < i))) (fIB fun i j => decide (j < i)) := opD_I0 fun i j _ => .bl _
abbrev dGe (W : Wld) (K : PySem.W.Frag) : OpD W K (rI0 fun i j => .bl (decide (j ≤ i))) (fIB fun i j => decide (j ≤ i)) := opD_I0 fun i j _ => .bl _

/-! ## arguments, displays -/
def mNil : AM := fun _ post _ => post []
def mCons (a : EM) (r : AM) : AM := fun δ post ex => a δ (fun x => r δ (fun xs => post (x :: xs)) ex) ex
variable {es : List Expr} {m : AM}
theorem ax_nil : AX X E [] mNil := ⟨_, pa_nil, fun W σ H Q δ post ex hs ok hm hq _ => hq [] H [] (.refl ok) .nil hm⟩
theorem ax_cons (h : PX X E a ma) (k : AX X E es m) (st : starEach (a :: es) X.env = (false, eval a X.env) :: starEach es X.env := by rfl) : AX X E (a :: es) (mCons ma m) := by
  obtain ⟨t, p, e⟩ := h
  obtain ⟨u, q, f⟩ := k
  refine ⟨_, pa_cons p q st, fun W σ H Q δ post ex hs ok hm hq lx => ?_⟩
  refine e W σ H _ δ _ ex hs ok hm ?_ lx
  intro v H1 d r1 hv hm
  refine f W σ H1 _ δ _ ex (hs.R r1) r1.ok hm ?_ (lx.R r1)
  intro vs H2 ds r2 hvs hp
  exact hq (v :: vs) H2 (d :: ds) (r1.trans r2) (.cons (hv.R r2) hvs) hp
def mTup (m : AM) : EM := fun δ post ex => m δ (fun ds => ds.length ≤ 16777216 ∧ post (.tup ds)) ex
def mLst (m : AM) : EM := fun δ post ex => m δ (fun ds => ds.length ≤ 16777216 ∧ post (.lst ds)) ex
theorem px_tup {j} (h : AX X E es m) : PX X E (.Tuple es j pos) (mTup m) := by
  obtain ⟨u, q, f⟩ := h
  refine ⟨_, pe_tup q, fun W σ H Q δ post ex hs ok hm hq lx => ?_⟩
  refine f W σ H _ δ _ ex hs ok hm ?_ lx
  rintro vs H1 ds r1 hv ⟨hl, hp⟩
  refine ⟨sizeLe (by rw [hv.length]; exact hl), fun p hpn => ?_⟩
  exact hq _ _ _ (r1.trans (R_new r1.ok hpn)) (da_newT r1.ok hpn hv) hp
theorem px_lst (h : AX X E es m) : PX X E (.List es pos) (mLst m) := by
  obtain ⟨u, q, f⟩ := h
  refine ⟨_, pe_lst q, fun W σ H Q δ post ex hs ok hm hq lx => ?_⟩
  refine f W σ H _ δ _ ex hs ok hm ?_ lx
  rintro vs H1 ds r1 hv ⟨hl, hp⟩
  refine ⟨sizeLe (by rw [hv.length]; exact hl), fun p hpn => ?_⟩
  exact hq _ _ _ (r1.trans (R_new r1.ok hpn)) (da_new r1.ok hpn hv) hp
end
end Fw
/-! # FwRun4: calls of built-ins, items, slices, comprehensions, attributes of errors -/
namespace Fw
open PySem PySem.Spec PyProof.Rows L2
open Evl (Ex)
variable [TabsOf]
def CaD (W : Wld) (K : PySem.W.Frag) (r : List V → Hp → VK → Prop) (f : List D → D → Prop) : Prop := ∀ H xs ds z (Q : VK), W.ok H → Das W K (W.cut H) xs ds → f ds z →
  (∀ v H', W.R H H' → Da W K (W.cut H') v z → Q v H') → r xs H Q
def mCB (f : List D → D → Prop) (m : AM) : EM := fun δ post ex => m δ (fun ds => ∃ z, f ds z ∧ post z) ex
theorem evo_cb {W : Wld} {K : PySem.W.Frag} {E : XK} {r : List V → Hp → VK → Prop} {f : List D → D → Prop} {t : TA} {m : AM} (hr : CaD W K r f) (h : EvA W K E t m) : EvO W K E (tCB r t) (mCB f m) := by
  intro σ H Q δ post ex hs ok hm hq lx
  refine h σ H _ δ _ ex hs ok hm ?_ lx
  rintro vs H1 ds r1 hv ⟨z, hf, hp⟩
  exact hr H1 vs ds z Q r1.ok hv hf fun v H2 r2 hw => hq v H2 z (r1.trans r2) hw hp
section
variable {X : Cx} {E : XK} {x : Str} {id T : String} {r : List V → Hp → VK → Prop} {f : List D → D → Prop} {e : Expr} {es : List Expr} {m : AM} {p pos : Pos}
theorem px_callB (hc : CallR X (.builtin id) r) (hr : ∀ W, CaD W X.K r f) (hg : Gl X x) (hm : X.mg x = none) (hv : bootBuiltins x = some (.builtin id)) (ha : AX X E (e :: es) m)
    (hn : x ≠ "__name__" := by decide) (hdb : (x == ("__debug__" : Str)) = false := by decide)
    (he : starEach (e :: es) X.env = (false, eval e X.env) :: starEach es X.env := by rfl) (hpl : (backTo pos (starEach es X.env)).any (·.1) = false := by rfl) :
    PX X E (.Call (.Name x p) (e :: es) [] pos) (mCB f m) := by
  obtain ⟨t, q, ev⟩ := ha
  exact ⟨_, pe_callB hc hg hm hv q hn hdb he hpl, fun W => evo_cb (hr W) (ev W)⟩
theorem px_callTy (hc : CallR X (.type T) r) (hr : ∀ W, CaD W X.K r f) (hg : Gl X x) (hm : X.mg x = none) (hv : bootBuiltins x = some (.type T)) (ha : AX X E (e :: es) m)
    (hn : x ≠ "__name__" := by decide) (hdb : (x == ("__debug__" : Str)) = false := by decide)
    (he : starEach (e :: es) X.env = (false, eval e X.env) :: starEach es X.env := by rfl) (hpl : (backTo pos (starEach es X.env)).any (·.1) = false := by rfl) :
    PX X E (.Call (.Name x p) (e :: es) [] pos) (mCB f m) := by
  obtain ⟨t, q, ev⟩ := ha
  exact ⟨_, pe_callTy hc hg hm hv q hn hdb he hpl, fun W => evo_cb (hr W) (ev W)⟩
end

/-! ## what type data are of -/
def tyn : D → String
  | .non => "NoneType" | .bl _ => "bool" | .int _ => "int" | .str _ => "str" | .lst _ => "list" | .tup _ => "tuple" | .dic _ _ => "dict" | .err _ _ => "" | .drw => "dict" | .scr _ => "list"
def isErr : D → Bool
  | .err _ _ => true
  | _ => false
theorem da_ty {W : Wld} {K : PySem.W.Frag} {H : Hp} {v : V} {d : D} (ok : W.ok H) (h : Da W K (W.cut H) v d) (ne : isErr d = false) : TyX K H v (.type (tyn d)) := by
  cases h with
  | non => exact .base .non
  | bl b => exact .base (.bl b)
  | int i => exact .base (.int i)
  | str x => exact .base (.str x)
  | lst h r => exact .base (.lst (cut_sub _ _ h))
  | tup h r =>
    rcases Evl.ex_t cut_sub h with (h | ⟨o, h⟩) | ⟨o, its, n, h, hc, _⟩
    · exact .base (.tup h)
    · exact .fTuple h
    · exact .kTuple h hc
  | dic h h2 h3 => exact .base (.dK (cut_sub _ _ h))
  | err h r => cases ne
  | drw h =>
    obtain ⟨_, _, _, hd, _⟩ := ok.dr _ _ _ h
    exact .base (.dK hd)
  | scr h =>
    rcases Evl.ex_l cut_sub h with (h | ⟨o, h⟩) | ⟨o, its, n, h, hc, _⟩
    · exact .base (.lst h)
    · exact .base (.frz h)
    · exact .kList h hc
/-- isinstance(x, T), T a built-in class -/
def mIsi (T : String) (a : EM) : EM := fun δ post ex => a δ (fun x => isErr x = false ∧ ∃ b, kitB (tyn x) T = some b ∧ post (.bl b)) ex
/-- isinstance(x, (T1, T2)) -/
def mIsi2 (T1 T2 : String) (a : EM) : EM := fun δ post ex => a δ (fun x => isErr x = false ∧ ∃ b c, kitB (tyn x) T1 = some b ∧ kitB (tyn x) T2 = some c ∧ post (.bl (b || c))) ex
section
variable {X : Cx} {E : XK} {a : Expr} {ma : EM} {y y2 : Str} {T T2 : String} {p p2 p3 p4 pos : Pos}
theorem px_isi (hg : Gl X "isinstance") (hm : X.mg "isinstance" = none) (hy : Gl X y) (my : X.mg y = none) (vy : bootBuiltins y = some (.type T)) (ha : PX X E a ma)
    (st : starEach [a, .Name y p2] X.env = (false, eval a X.env) :: starEach [.Name y p2] X.env := by rfl)
    (st2 : starEach [.Name y p2] X.env = (false, eval (.Name y p2) X.env) :: starEach [] X.env := by rfl)
    (hny : y ≠ "__name__" := by decide) (hdy : (y == ("__debug__" : Str)) = false := by decide)
    (hpl : (backTo pos (starEach [.Name y p2] X.env)).any (·.1) = false := by rfl) :
    PX X E (.Call (.Name "isinstance" p) [a, .Name y p2] [] pos) (mIsi T ma) := by
  obtain ⟨t, q, ev⟩ := ha
  refine ⟨_, pe_callB call_isi hg hm (by decide +kernel) (pa_cons q (pa_cons (pe_bltn hy my vy (v := .ty T) rfl (hn := hny) (hd := hdy)) pa_nil st2) st) (by decide) (by decide) st hpl, fun W σ H Q δ post ex hs ok hm hq lx => ?_⟩
  refine ev W σ H _ δ _ ex hs ok hm ?_ lx
  rintro v H1 d r1 hv ⟨ne, b, hb, hp⟩
  exact ⟨v, .ty T, _, _, b, rfl, .ty T, da_ty r1.ok hv ne, kit_ty hb, hq _ H1 _ r1 (.bl b) hp⟩
theorem px_isi2 {j} (hg : Gl X "isinstance") (hm : X.mg "isinstance" = none) (hy : Gl X y) (my : X.mg y = none) (vy : bootBuiltins y = some (.type T))
    (hy2 : Gl X y2) (my2 : X.mg y2 = none) (vy2 : bootBuiltins y2 = some (.type T2)) (ha : PX X E a ma)
    (st : starEach [a, .Tuple [.Name y p2, .Name y2 p3] j p4] X.env = (false, eval a X.env) :: starEach [.Tuple [.Name y p2, .Name y2 p3] j p4] X.env := by rfl)
    (st2 : starEach [.Tuple [.Name y p2, .Name y2 p3] j p4] X.env = (false, eval (.Tuple [.Name y p2, .Name y2 p3] j p4) X.env) :: starEach [] X.env := by rfl)
    (st3 : starEach [.Name y p2, .Name y2 p3] X.env = (false, eval (.Name y p2) X.env) :: starEach [.Name y2 p3] X.env := by rfl)
    (st4 : starEach [.Name y2 p3] X.env = (false, eval (.Name y2 p3) X.env) :: starEach [] X.env := by rfl)
    (hny : y ≠ "__name__" := by decide) (hdy : (y == ("__debug__" : Str)) = false := by decide)
    (hny2 : y2 ≠ "__name__" := by decide) (hdy2 : (y2 == ("__debug__" : Str)) = false := by decide)
    (hpl : (backTo pos (starEach [.Tuple [.Name y p2, .Name y2 p3] j p4] X.env)).any (·.1) = false := by rfl) :
    PX X E (.Call (.Name "isinstance" p) [a, .Tuple [.Name y p2, .Name y2 p3] j p4] [] pos) (mIsi2 T T2 ma) := by
  obtain ⟨t, q, ev⟩ := ha
  refine ⟨_, pe_callB call_isiT hg hm (by decide +kernel) (pa_cons q (pa_cons (pe_tup (pa_cons (pe_bltn hy my vy (v := .ty T) rfl (hn := hny) (hd := hdy)) (pa_cons (pe_bltn hy2 my2 vy2 (v := .ty T2) rfl (hn := hny2) (hd := hdy2)) pa_nil st4) st3)) pa_nil st2) st) (by decide) (by decide) st hpl, fun W σ H Q δ post ex hs ok hm hq lx => ?_⟩
  refine ev W σ H _ δ _ ex hs ok hm ?_ lx
  rintro v H1 d r1 hv ⟨ne, b, c, hb, hc, hp⟩
  refine ⟨by show 2 ≤ sizeLine; decide, fun tp htp => ?_⟩
  have r2 : W.R H1 (upd H1 tp (.tup [.ty T, .ty T2])) := R_new r1.ok htp
  refine ⟨v, tp, [.ty T, .ty T2], _, [.type T, .type T2], b || c, rfl, upd_same, .cons (.ty T) (.cons (.ty T2) .nil), da_ty r2.ok (hv.R r2) ne, ?_, hq _ _ _ (r1.trans r2) (.bl _) hp⟩
  refine kitAny_cons (kit_ty hb) (fun e => ?_) (fun e => by rw [e, Bool.true_or])
  subst e
  refine kitAny_cons (kit_ty hc) (fun e => ?_) (fun e => by rw [e, Bool.or_true])
  rw [e]
  exact kitAny_nil
end

/-! ## len, abs, int, min, max, all, any, tuple, list -/
def lenD : D → Option Nat
  | .lst ds => some ds.length
  | .tup ds => some ds.length
  | .scr ns => some ns.length
  | .str x => if x.length ≤ 16777216 then some x.length else none
  | _ => none
def fLen (ds : List D) (z : D) : Prop := ∃ x n, ds = [x] ∧ lenD x = some n ∧ z = .int (n : Nat)
theorem caD_len {W : Wld} {K : PySem.W.Frag} : CaD W K (fun xs H Q => ∃ x n, xs = [x] ∧ LenV K x H n ∧ Q (.int n) H) fLen := by
  rintro H xs ds z Q ok hx ⟨d, n, rfl, hl, rfl⟩ q
  cases hx with
  | cons h r =>
    cases r
    refine ⟨_, n, rfl, ?_, q _ H (.refl ok) (.int _)⟩
    cases h <;> first
      | (cases hl; done)
      | skip
    case str x =>
      have hl : (if x.length ≤ 16777216 then some x.length else none) = some n := hl
      split at hl
      · cases hl
        exact ⟨sizeLe (by assumption), rfl⟩
      · cases hl
    case lst h r =>
      cases hl
      exact .inl ⟨_, Evl.sq_of (cut_sub _ _ h), r.length.symm⟩
    case tup h r =>
      cases hl
      exact .inr ⟨_, Evl.ex_t cut_sub h, r.length.symm⟩
    case scr h =>
      cases hl
      exact .inl ⟨_, Evl.ex_l cut_sub h, by rw [List.length_map]⟩
def fAbs (ds : List D) (z : D) : Prop := ∃ i, ds = [.int i] ∧ z = .int (if i < 0 then -i else i)
def fInt (ds : List D) (z : D) : Prop := ∃ i, ds = [.int i] ∧ z = .int i
def fMin (ds : List D) (z : D) : Prop := ∃ i j, ds = [.int i, .int j] ∧ z = .int (if j < i then j else i)
def fMax (ds : List D) (z : D) : Prop := ∃ i j, ds = [.int i, .int j] ∧ z = .int (if j > i then j else i)
theorem das_int1 {W : Wld} {K : PySem.W.Frag} {H : Hp} {xs : List V} {i : Int} (h : Das W K H xs [.int i]) : xs = [.int i] := by
  cases h with
  | cons h r => cases r; cases h; rfl
theorem das_int2 {W : Wld} {K : PySem.W.Frag} {H : Hp} {xs : List V} {i j : Int} (h : Das W K H xs [.int i, .int j]) : xs = [.int i, .int j] := by
  cases h with
  | cons h r => rw [das_int1 r]; cases h; rfl
theorem das_bls {W : Wld} {K : PySem.W.Frag} {H : Hp} : ∀ {bs : List Bool} {xs : List V}, Das W K H xs (bs.map D.bl) → xs = bs.map V.bl
  | [], _, .nil => rfl
  | b :: bs, _, .cons h r => by
    cases h
    rw [das_bls r]
    rfl
def fAll (ds : List D) (z : D) : Prop := ∃ bs : List Bool, ds = [.lst (bs.map D.bl)] ∧ z = .bl (bs.all id)
def fAny (ds : List D) (z : D) : Prop := ∃ bs : List Bool, ds = [.lst (bs.map D.bl)] ∧ z = .bl (bs.any id)
def fTuple (ds : List D) (z : D) : Prop := ∃ x xs, ds = [x] ∧ itemsD x = some xs ∧ z = .tup xs
def fList (ds : List D) (z : D) : Prop := ∃ x xs, ds = [x] ∧ itemsD x = some xs ∧ z = .lst xs
section
variable {X : Cx} {E : XK} {e e2 : Expr} {m : AM} {p pos : Pos}
theorem px_len (hg : Gl X "len") (hm : X.mg "len" = none) (ha : AX X E [e] m) (he : starEach [e] X.env = (false, eval e X.env) :: starEach [] X.env := by rfl) (hpl : (backTo pos (starEach [] X.env)).any (·.1) = false := by rfl) :
    PX X E (.Call (.Name "len" p) [e] [] pos) (mCB fLen m) := px_callB call_len (fun _ => caD_len) hg hm (by decide +kernel) ha (by decide) (by decide) he hpl
theorem px_abs (hg : Gl X "abs") (hm : X.mg "abs" = none) (ha : AX X E [e] m) (he : starEach [e] X.env = (false, eval e X.env) :: starEach [] X.env := by rfl) (hpl : (backTo pos (starEach [] X.env)).any (·.1) = false := by rfl) :
    PX X E (.Call (.Name "abs" p) [e] [] pos) (mCB fAbs m) := px_callB call_abs (fun W => by
  rintro H xs ds z Q ok hx ⟨i, rfl, rfl⟩ q
  exact ⟨i, das_int1 hx, q _ H (.refl ok) (.int _)⟩) hg hm (by decide +kernel) ha (by decide) (by decide) he hpl
theorem px_toInt (hg : Gl X "int") (hm : X.mg "int" = none) (ha : AX X E [e] m) (he : starEach [e] X.env = (false, eval e X.env) :: starEach [] X.env := by rfl) (hpl : (backTo pos (starEach [] X.env)).any (·.1) = false := by rfl) :
    PX X E (.Call (.Name "int" p) [e] [] pos) (mCB fInt m) := px_callTy call_int1 (fun W => by
  rintro H xs ds z Q ok hx ⟨i, rfl, rfl⟩ q
  exact .inl ⟨i, das_int1 hx, q _ H (.refl ok) (.int _)⟩) hg hm (by decide +kernel) ha (by decide) (by decide) he hpl
theorem px_min (hc : X.calm = true) (hg : Gl X "min") (hm : X.mg "min" = none) (ha : AX X E [e, e2] m) (he : starEach [e, e2] X.env = (false, eval e X.env) :: starEach [e2] X.env := by rfl) (hpl : (backTo pos (starEach [e2] X.env)).any (·.1) = false := by rfl) :
    PX X E (.Call (.Name "min" p) [e, e2] [] pos) (mCB fMin m) := px_callB (call_min2 hc) (fun W => by
  rintro H xs ds z Q ok hx ⟨i, j, rfl, rfl⟩ q
  exact ⟨i, j, das_int2 hx, q _ H (.refl ok) (.int _)⟩) hg hm (by decide +kernel) ha (by decide) (by decide) he hpl
theorem px_max (hc : X.calm = true) (hg : Gl X "max") (hm : X.mg "max" = none) (ha : AX X E [e, e2] m) (he : starEach [e, e2] X.env = (false, eval e X.env) :: starEach [e2] X.env := by rfl) (hpl : (backTo pos (starEach [e2] X.env)).any (·.1) = false := by rfl) :
    PX X E (.Call (.Name "max" p) [e, e2] [] pos) (mCB fMax m) := px_callB (call_max2 hc) (fun W => by
  rintro H xs ds z Q ok hx ⟨i, j, rfl, rfl⟩ q
  exact ⟨i, j, das_int2 hx, q _ H (.refl ok) (.int _)⟩) hg hm (by decide +kernel) ha (by decide) (by decide) he hpl
theorem das_lst1 {W : Wld} {K : PySem.W.Frag} {H : Hp} {xs : List V} {ds : List D} (h : Das W K H xs [.lst ds]) : ∃ a ys, xs = [.ref a] ∧ H a = some (.lst ys) ∧ Das W K H ys ds := by
  cases h with
  | cons h r =>
    cases r
    cases h with
    | lst h1 h2 => exact ⟨_, _, rfl, h1, h2⟩
theorem px_all (hc : X.calm = true) (hg : Gl X "all") (hm : X.mg "all" = none) (ha : AX X E [e] m) (he : starEach [e] X.env = (false, eval e X.env) :: starEach [] X.env := by rfl) (hpl : (backTo pos (starEach [] X.env)).any (·.1) = false := by rfl) :
    PX X E (.Call (.Name "all" p) [e] [] pos) (mCB fAll m) := px_callB (cr_all hc) (fun W => by
  rintro H xs ds z Q ok hx ⟨bs, rfl, rfl⟩ q
  obtain ⟨a, ys, rfl, h1, h2⟩ := das_lst1 hx
  rw [das_bls h2] at h1
  exact ⟨a, bs, rfl, Evl.sq_of (cut_sub _ _ h1), q _ H (.refl ok) (.bl _)⟩) hg hm (by decide +kernel) ha (by decide) (by decide) he hpl
theorem px_any (hc : X.calm = true) (hg : Gl X "any") (hm : X.mg "any" = none) (ha : AX X E [e] m) (he : starEach [e] X.env = (false, eval e X.env) :: starEach [] X.env := by rfl) (hpl : (backTo pos (starEach [] X.env)).any (·.1) = false := by rfl) :
    PX X E (.Call (.Name "any" p) [e] [] pos) (mCB fAny m) := px_callB (cr_any hc) (fun W => by
  rintro H xs ds z Q ok hx ⟨bs, rfl, rfl⟩ q
  obtain ⟨a, ys, rfl, h1, h2⟩ := das_lst1 hx
  rw [das_bls h2] at h1
  exact ⟨a, bs, rfl, Evl.sq_of (cut_sub _ _ h1), q _ H (.refl ok) (.bl _)⟩) hg hm (by decide +kernel) ha (by decide) (by decide) he hpl
theorem px_tuple (hg : Gl X "tuple") (hm : X.mg "tuple" = none) (ha : AX X E [e] m) (he : starEach [e] X.env = (false, eval e X.env) :: starEach [] X.env := by rfl) (hpl : (backTo pos (starEach [] X.env)).any (·.1) = false := by rfl) :
    PX X E (.Call (.Name "tuple" p) [e] [] pos) (mCB fTuple m) := px_callTy call_tuple_of (fun W => by
  rintro H xs ds z Q ok hx ⟨x, ys, rfl, hi, rfl⟩ q
  cases hx with
  | cons h r =>
    cases r
    cases h <;> first
      | (cases hi; done)
      | skip
    case lst h r =>
      cases hi
      exact ⟨_, _, rfl, .inl ⟨Evl.sq_of (cut_sub _ _ h), fun l hl => q _ _ (R_new ok hl) (da_newT ok hl r)⟩⟩
    case tup h r =>
      cases hi
      exact ⟨_, _, rfl, .inr ⟨Evl.ex_t cut_sub h, q _ H (.refl ok) (.tup h r)⟩⟩) hg hm (by decide +kernel) ha (by decide) (by decide) he hpl
theorem px_list (hg : Gl X "list") (hm : X.mg "list" = none) (ha : AX X E [e] m) (he : starEach [e] X.env = (false, eval e X.env) :: starEach [] X.env := by rfl) (hpl : (backTo pos (starEach [] X.env)).any (·.1) = false := by rfl) :
    PX X E (.Call (.Name "list" p) [e] [] pos) (mCB fList m) := px_callTy call_list_of (fun W => by
  rintro H xs ds z Q ok hx ⟨x, ys, rfl, hi, rfl⟩ q
  cases hx with
  | cons h r =>
    cases r
    cases h <;> first
      | (cases hi; done)
      | skip
    case lst h r =>
      cases hi
      exact ⟨_, _, rfl, .inl (Evl.sq_of (cut_sub _ _ h)), fun l hl => q _ _ (R_new ok hl) (da_new ok hl r)⟩
    case tup h r =>
      cases hi
      exact ⟨_, _, rfl, .inr (Evl.ex_t cut_sub h), fun l hl => q _ _ (R_new ok hl) (da_new ok hl r)⟩) hg hm (by decide +kernel) ha (by decide) (by decide) he hpl
end

/-! ## x[i] -/
theorem das_at {W : Wld} {K : PySem.W.Frag} {H : Hp} {xs : List V} {ds : List D} {i : Int} {d : D} (h : Das W K H xs ds) (e : atI ds i = some d) : ∃ v, atI xs i = some v ∧ Da W K H v d := by
  unfold atI at e ⊢
  rw [h.length]
  cases q : ixN ds.length i with
  | none =>
    rw [q] at e
    cases e
  | some j =>
    rw [q] at e
    exact h.getD e
def fIx (a b z : D) : Prop := ∃ ds i, itemsD a = some ds ∧ b = .int i ∧ atI ds i = some z
section
variable {X : Cx} {E : XK} {a b : Expr} {ma mb : EM} {pos : Pos}
theorem opD_ix {W : Wld} {K : PySem.W.Frag} : OpD W K (rIx K) fIx := by
  rintro H x y a b z Q ok hx hy ⟨ds, i, hi, rfl, hz⟩ q
  cases hy
  cases hx <;> first
    | (cases hi; done)
    | skip
  case lst h r =>
    cases hi
    obtain ⟨v, h1, h2⟩ := das_at r hz
    exact .inl ⟨_, _, i, v, rfl, rfl, Evl.sq_of (cut_sub _ _ h), h1, q _ H (.refl ok) h2⟩
  case tup h r =>
    cases hi
    obtain ⟨v, h1, h2⟩ := das_at r hz
    exact .inr (.inl ⟨_, _, i, v, rfl, rfl, Evl.ex_t cut_sub h, h1, q _ H (.refl ok) h2⟩)
theorem px_ix (ha : PX X E a ma) (hb : PX X E b mb) (hs : PlainIx b := by intro _ _; rfl) : PX X E (.Subscript a b pos) (mOp fIx ma mb) := by
  obtain ⟨t, p, e⟩ := ha
  obtain ⟨u, q, f⟩ := hb
  exact ⟨_, pe_ix ix_seq p q hs, fun W => evo_op opD_ix (e W) (f W)⟩
end
end Fw
/-! # FwRun5: targets, what is walked, statements -/
namespace Fw
open PySem PySem.Spec PyProof.Rows L2
open Evl (Ex)
variable [TabsOf]

/-! ## another world with the same draw -/
structure Wld.Sm (W W' : Wld) : Prop where
  dr : W'.dr = W.dr
  cells : W'.cells = W.cells
  tb : W'.tb = W.tb
theorem Wld.Sm.refl (W : Wld) : W.Sm W := ⟨rfl, rfl, rfl⟩
mutual
theorem Da.sm {W W' : Wld} {K : PySem.W.Frag} {H : Hp} (s : W.Sm W') : ∀ {v : V} {d : D}, Da W K H v d → Da W' K H v d
  | _, _, .non => .non
  | _, _, .bl b => .bl b
  | _, _, .int i => .int i
  | _, _, .str x => .str x
  | _, _, .lst h r => .lst h (Das.sm s r)
  | _, _, .tup h r => .tup h (Das.sm s r)
  | _, _, .dic h1 h2 h3 => .dic h1 h2 (Das.sm s h3)
  | _, _, .err h r => .err h (Das.sm s r)
  | _, _, .drw h => .drw (s.dr.trans h)
  | _, _, .scr h => .scr h
theorem Das.sm {W W' : Wld} {K : PySem.W.Frag} {H : Hp} (s : W.Sm W') : ∀ {vs : List V} {ds : List D}, Das W K H vs ds → Das W' K H vs ds
  | _, _, .nil => .nil
  | _, _, .cons h r => .cons (Da.sm s h) (Das.sm s r)
end
theorem SL.sm {W W' : Wld} {K : PySem.W.Frag} {σ : L2.St} {H H' : Hp} {δ : Env} (s : W.Sm W') (e : Ex (W.cut H) (W'.cut H')) (h : SL W K σ H δ) : SL W' K σ H' δ :=
  ⟨h.len, s.tb.trans h.tb, fun i d q => let ⟨v, h1, h2⟩ := h.at_ i d q; ⟨v, h1, (h2.sm s).up e⟩⟩

/-! ## targets -/
abbrev GM := D → Env → (Env → Prop) → Prop
def EvG (W : Wld) (K : PySem.W.Frag) (t : TG) (g : GM) : Prop := ∀ v d σ H (Q : L2.St → Hp → Prop) δ k, SL W K σ H δ → W.ok H → Da W K (W.cut H) v d → g d δ k →
  (∀ σ' δ', SL W K σ' H δ' → k δ' → Q σ' H) → t v σ H Q
def GX (X : Cx) (tg : Expr) (g : GM) : Prop := ∃ t, PG X tg t ∧ ∀ W, EvG W X.K t g
abbrev GMs := List D → Env → (Env → Prop) → Prop
def EvGs (W : Wld) (K : PySem.W.Frag) (t : TGs) (g : GMs) : Prop := ∀ vs ds σ H (Q : L2.St → Hp → Prop) δ k, SL W K σ H δ → W.ok H → Das W K (W.cut H) vs ds → g ds δ k →
  (∀ σ' δ', SL W K σ' H δ' → k δ' → Q σ' H) → t vs σ H Q
def GXs (X : Cx) (tgs : List Expr) (g : GMs) : Prop := ∃ t, PGs X tgs t ∧ ∀ W, EvGs W X.K t g
def gNm (i : Nat) : GM := fun d δ k => k (δ.set i (some d))
def gNl : GMs := fun ds δ k => ds = [] ∧ k δ
def gCn (g : GM) (r : GMs) : GMs := fun ds δ k => ∃ d es, ds = d :: es ∧ g d δ fun δ' => r es δ' k
def gTp (n : Nat) (r : GMs) : GM := fun d δ k => ∃ ds, d = .tup ds ∧ ds.length = n ∧ r ds δ k
section
variable {X : Cx} {x : Str} {pos : Pos} {e : Expr} {es : List Expr} {g : GM} {r : GMs} {n : Nat}
theorem gx_name (i : Nat) (hN : X.N.Nodup) (hi : X.N[i]? = some x := by rfl)
    (hx : Loc X.env.scope x := by first | exact Or.inl rfl | exact Or.inr rfl)
    (hf : X.fn x = true ∨ X.env.scope.names.lookup x = some .local := by first | exact .inl rfl | exact .inr rfl | assumption) : GX X (.Name x pos) (gNm i) :=
  ⟨_, pg_name hN hi hx hf, fun W v d σ H Q δ k hs ok hv hk hq => hq _ _ (hs.set i hv) hk⟩
theorem gxs_nil : GXs X [] gNl := ⟨_, pgs_nil, fun W vs ds σ H Q δ k hs ok hv ⟨e, hk⟩ hq => by
  subst e
  cases hv
  exact ⟨rfl, hq _ _ hs hk⟩⟩
theorem gxs_cons (h : GX X e g) (k : GXs X es r)
    (hs : (assignEach (e :: es) X.env).map (·.2) = assign e X.env :: (assignEach es X.env).map (·.2) := by rfl) : GXs X (e :: es) (gCn g r) := by
  obtain ⟨t, p, f⟩ := h
  obtain ⟨u, q, f2⟩ := k
  refine ⟨_, pgs_cons p q hs, fun W vs ds σ H Q δ k hs ok hv hk hq => ?_⟩
  obtain ⟨d, es, rfl, hk⟩ := hk
  cases hv with
  | cons h1 h2 =>
    refine ⟨_, _, rfl, f W _ d σ H _ δ _ hs ok h1 hk fun σ' δ' hs' hk' => ?_⟩
    exact f2 W _ es σ' H Q δ' k hs' ok h2 hk' hq
theorem gx_tup {j : Nat} (hc : X.calm = true) (h : GXs X es r) (hn : (assignEach es X.env).length = n := by rfl) (hst : (assignEach es X.env).findIdx? (·.1) = none := by rfl) : GX X (.Tuple es j pos) (gTp n r) := by
  obtain ⟨u, q, f⟩ := h
  refine ⟨_, pg_tup hc q hn hst, fun W v d σ H Q δ k hs ok hv hk hq => ?_⟩
  obtain ⟨ds, rfl, hl, hk⟩ := hk
  cases hv with
  | tup h1 h2 => exact ⟨_, _, rfl, Evl.ex_t cut_sub h1, h2.length.trans hl, f W _ ds σ H Q δ k hs ok h2 hk hq⟩
end

/-! ## what is walked -/
/-- the iterator gives these data, one after another, wherever one stands behind H0 -/
def Src (W : Wld) (K : PySem.W.Frag) (J : It) (ds : List D) (H0 : Hp) : Prop := ∀ (W' : Wld) (H : Hp), W.Sm W' → W'.ok H → Ex (W.cut H0) (W'.cut H) →
  (∀ i d, ds[i]? = some d → J.go i H ∧ ∀ x H', J.yld i H x H' → W'.R H H' ∧ Da W' K (W'.cut H') x d) ∧ ∀ i, ds.length ≤ i → J.stop i H
abbrev IM := Env → (List D → Prop) → (EX → Prop) → Prop
def EvI (W : Wld) (K : PySem.W.Frag) (E : XK) (t : TI) (m : IM) : Prop := ∀ σ H R δ post ex, SL W K σ H δ → W.ok H → m δ post ex →
  (∀ J H' ds, W.R H H' → Src W K J ds H' → post ds → R J H') → XLink W K H E ex → t σ H R
def IX (X : Cx) (E : XK) (tg it : Expr) (m : IM) : Prop := ∃ t, PI X tg it t ∧ ∀ W, EvI W X.K E t m
def iSeqT (K : PySem.W.Frag) (tl : TE) : TI := fun σ H R => tl σ H fun x H1 => ∃ a, x = .ref a ∧
  (((∃ xs, SqL K H1 a xs) ∧ R (Itl K a) H1) ∨ ((∃ xs, SqT K H1 a xs) ∧ R (Itt K a) H1))
def iSq (m : EM) : IM := fun δ post ex => m δ (fun d => ∃ ds, itemsD d = some ds ∧ post ds) ex
def iScr (m : EM) : IM := fun δ post ex => m δ (fun d => ∃ ns : List Int, d = .scr ns ∧ post (ns.map D.int)) ex
def iRange (m : AM) : IM := fun δ post ex => m δ (fun ds => ∃ n : Int, ds = [.int n] ∧ (-(2 ^ 62) ≤ n ∧ n < 2 ^ 62) ∧ post ((List.range n.toNat).map fun (k : Nat) => D.int k)) ex
def iRange2 (m : AM) : IM := fun δ post ex => m δ (fun ds => ∃ lo hi : Int, ds = [.int lo, .int hi] ∧ (-(2 ^ 62) ≤ lo ∧ lo < 2 ^ 62 ∧ -(2 ^ 62) ≤ hi ∧ hi < 2 ^ 62) ∧ post ((List.range (hi - lo).toNat).map fun (k : Nat) => D.int (lo + k))) ex
section
variable {X : Cx} {E : XK} {tg l : Expr} {m : EM}
theorem pi_seq {tl : TE} (hl : PE X l tl) : PI X tg l (iSeqT X.K tl) := by
  constructor
  intro pins s σ H R I h
  refine thn (hl.run pins s σ H _ I h) ?_
  rintro v s1 ⟨x, H1, I1, r1, a, rfl, ⟨⟨xs, hq⟩, q⟩ | ⟨⟨xs, hq⟩, q⟩⟩
  · cases r1
    obtain ⟨its, rv, p, hz⟩ := I1.list hq
    refine wpAny_pyIter_list p.isList ⟨s1.heap.objs.size, [s1.heap.objs.size], _, _, H1, rfl, ?_, turn_list a _, ⟨_, Heap.get?_push_size _ rfl, rfl, rfl⟩, ?_, q⟩
    · exact I1.kept (t' := s1.toks) fun b o e => Heap.get?_push_of_some _ e
    · intro b hb
      rw [List.mem_singleton.mp hb]
      exact I1.fpOk (Nat.le_refl _) (I1.hok.fresh (Nat.le_refl _))
  · cases r1
    obtain ⟨its, rv, p, hz⟩ := I1.tuple hq
    refine wpAny_pyIter_tuple (show s1.heap.IsTuple a its.toArray from p) ⟨s1.heap.objs.size, [s1.heap.objs.size], _, _, H1, rfl, ?_, turn_tuple a _, ⟨_, Heap.get?_push_size _ rfl, rfl, rfl⟩, ?_, q⟩
    · exact I1.kept (t' := s1.toks) fun b o e => Heap.get?_push_of_some _ e
    · intro b hb
      rw [List.mem_singleton.mp hb]
      exact I1.fpOk (Nat.le_refl _) (I1.hok.fresh (Nat.le_refl _))
theorem src_lst {W : Wld} {K : PySem.W.Frag} {H0 : Hp} {a : Addr} {xs : List V} {ds : List D} (h : W.cut H0 a = some (.lst xs)) (r : Das W K (W.cut H0) xs ds) : Src W K (Itl K a) ds H0 := by
  intro W' H sm ok e
  have h1 : H a = some (.lst xs) := cut_sub _ _ (e _ _ h)
  have rr := (r.sm sm).up e
  refine ⟨fun i d hd => ?_, fun i hi => ⟨xs, Evl.sq_of h1, by rw [r.length]; exact hi⟩⟩
  obtain ⟨v, hv, hda⟩ := rr.getD hd
  refine ⟨⟨xs, v, Evl.sq_of h1, hv⟩, fun x H' => ?_⟩
  rintro ⟨rfl, hx⟩
  have := hx xs (Evl.sq_of h1)
  rw [hv] at this
  cases this
  exact ⟨.refl ok, hda⟩
theorem src_tup {W : Wld} {K : PySem.W.Frag} {H0 : Hp} {a : Addr} {xs : List V} {ds : List D} (h : SqT K (W.cut H0) a xs) (r : Das W K (W.cut H0) xs ds) : Src W K (Itt K a) ds H0 := by
  intro W' H sm ok e
  have h1 : SqT K H a xs := Evl.ex_t cut_sub (Evl.ex_t e h)
  have rr := (r.sm sm).up e
  refine ⟨fun i d hd => ?_, fun i hi => ⟨xs, h1, by rw [r.length]; exact hi⟩⟩
  obtain ⟨v, hv, hda⟩ := rr.getD hd
  refine ⟨⟨xs, v, h1, hv⟩, fun x H' => ?_⟩
  rintro ⟨rfl, hx⟩
  have := hx xs h1
  rw [hv] at this
  cases this
  exact ⟨.refl ok, hda⟩
theorem src_scr {W : Wld} {K : PySem.W.Frag} {H0 : Hp} {a : Addr} {ns : List Int} (h : SqL K (W.cut H0) a (ns.map V.int)) : Src W K (Itl K a) (ns.map D.int) H0 := by
  intro W' H sm ok e
  have h1 : SqL K H a (ns.map V.int) := Evl.ex_l cut_sub (Evl.ex_l e h)
  refine ⟨fun i d hd => ?_, fun i hi => ⟨_, h1, by rw [List.length_map] at hi ⊢; exact hi⟩⟩
  rw [List.getElem?_map] at hd
  obtain ⟨n, hn, rfl⟩ := Option.map_eq_some_iff.mp hd
  have hv : (ns.map V.int)[i]? = some (.int n) := by rw [List.getElem?_map, hn]; rfl
  refine ⟨⟨_, _, h1, hv⟩, fun x H' => ?_⟩
  rintro ⟨rfl, hx⟩
  have := hx _ h1
  rw [hv] at this
  cases this
  exact ⟨.refl ok, .int n⟩
theorem src_range {W : Wld} {K : PySem.W.Frag} {H0 : Hp} {lo : Int} {n : Nat} : Src W K (Itr lo n) ((List.range n).map fun (k : Nat) => D.int (lo + k)) H0 := by
  intro W' H sm ok e
  refine ⟨fun i d hd => ?_, fun i hi => ?_⟩
  · rw [List.getElem?_map] at hd
    obtain ⟨k, hk, rfl⟩ := Option.map_eq_some_iff.mp hd
    have hl : i < n := by
      have := (List.getElem?_eq_some_iff.mp hk).1
      simpa using this
    rw [List.getElem?_range hl] at hk
    cases hk
    refine ⟨hl, fun x H' => ?_⟩
    rintro ⟨rfl, rfl⟩
    exact ⟨.refl ok, .int _⟩
  · rw [List.length_map, List.length_range] at hi
    exact hi
theorem ix_sq (h : PX X E l m) : IX X E tg l (iSq m) := by
  obtain ⟨t, p, e⟩ := h
  refine ⟨_, pi_seq p, fun W σ H R δ post ex hs ok hm hq lx => ?_⟩
  refine e W σ H _ δ _ ex hs ok hm ?_ lx
  rintro v H1 d r1 hv ⟨ds, hi, hp⟩
  cases hv <;> first
    | (cases hi; done)
    | skip
  case lst h r =>
    cases hi
    exact ⟨_, rfl, .inl ⟨⟨_, Evl.sq_of (cut_sub _ _ h)⟩, hq _ _ _ r1 (src_lst h r) hp⟩⟩
  case tup h r =>
    cases hi
    exact ⟨_, rfl, .inr ⟨⟨_, Evl.ex_t cut_sub h⟩, hq _ _ _ r1 (src_tup h r) hp⟩⟩
theorem ix_scr (h : PX X E l m) : IX X E tg l (iScr m) := by
  obtain ⟨t, p, e⟩ := h
  refine ⟨_, pi_seq p, fun W σ H R δ post ex hs ok hm hq lx => ?_⟩
  refine e W σ H _ δ _ ex hs ok hm ?_ lx
  rintro v H1 d r1 hv ⟨ns, rfl, hp⟩
  cases hv with
  | scr h => exact ⟨_, rfl, .inl ⟨⟨_, Evl.ex_l cut_sub h⟩, hq _ _ _ r1 (src_scr h) hp⟩⟩
theorem ix_range {a : Expr} {as : AM} {p pos : Pos} (hg : Gl X "range") (hm : X.mg "range" = none) (ha : AX X E [a] as) (hs : starEach [a] X.env = [(false, eval a X.env)] := by rfl) :
    IX X E tg (.Call (.Name "range" p) [a] [] pos) (iRange as) := by
  obtain ⟨t, q, e⟩ := ha
  refine ⟨_, pi_range1 hg hm q hs, fun W σ H R δ post ex hs ok hm hq lx => ?_⟩
  refine e W σ H _ δ _ ex hs ok hm ?_ lx
  rintro v H1 d r1 hv ⟨n, rfl, ⟨h0, hn⟩, hp⟩
  rw [das_int1 hv]
  refine ⟨n, rfl, h0, hn, hq _ _ _ r1 (src_range (lo := 0) (n := n.toNat)) ?_⟩
  simpa using hp
theorem ix_range2 {a b : Expr} {as : AM} {p pos : Pos} (hg : Gl X "range") (hm : X.mg "range" = none) (ha : AX X E [a, b] as) (hs : starEach [a, b] X.env = [(false, eval a X.env), (false, eval b X.env)] := by rfl) (hs2 : starEach [b] X.env = [(false, eval b X.env)] := by rfl) :
    IX X E tg (.Call (.Name "range" p) [a, b] [] pos) (iRange2 as) := by
  obtain ⟨t, q, e⟩ := ha
  refine ⟨_, pi_range2 hg hm q hs hs2, fun W σ H R δ post ex hs ok hm hq lx => ?_⟩
  refine e W σ H _ δ _ ex hs ok hm ?_ lx
  rintro v H1 d r1 hv ⟨lo, hi, rfl, hb, hp⟩
  rw [das_int2 hv]
  exact ⟨lo, hi, rfl, hb, hq _ _ _ r1 (src_range (lo := lo) (n := (hi - lo).toNat)) hp⟩
end

/-! ## statements -/
def sSet (i : Nat) (m : EM) : SM := fun δ F => m δ (fun d => F.nx (δ.set i (some d))) F.ex
def sTo (g : GM) (m : EM) : SM := fun δ F => m δ (fun d => g d δ F.nx) F.ex
def sDrop (m : EM) : SM := fun δ F => m δ (fun _ => F.nx δ) F.ex
def sRet (m : EM) : SM := fun δ F => m δ F.rt F.ex
def sRetN : SM := fun _ F => F.rt .non
def sNx : SM := fun δ F => F.nx δ
def sBk : SM := fun δ F => F.bk δ
def sCt : SM := fun δ F => F.ct δ
def sIf (t : TM) (a b : SM) : SM := fun δ F => t δ (fun p => if p = true then a δ F else b δ F) F.ex
def sSeq (a b : SM) : SM := fun δ F => a δ { F with nx := fun δ' => b δ' F }
/-- a for's turns over the data that are left -/
def forGo (g : GM) (body : SM) (F : SE) : List D → Env → Prop
  | [], δ => F.nx δ
  | d :: ds, δ => g d δ fun δ2 => body δ2 { F with nx := forGo g body F ds, ct := forGo g body F ds, bk := F.nx }
def sFor (it : IM) (g : GM) (body : SM) : SM := fun δ F => it δ (fun ds => forGo g body F ds δ) F.ex
/-- a while's turns, at most n of them -/
def whGo (c : TM) (body : SM) (F : SE) : Nat → Env → Prop
  | 0, _ => False
  | n + 1, δ => c δ (fun p => if p = true then body δ { F with nx := whGo c body F n, ct := whGo c body F n, bk := F.nx } else F.nx δ) F.ex
def sWhile (c : TM) (body : SM) : SM := fun δ F => ∃ n, whGo c body F n δ
section
variable {X : Cx} {E : XK} {e : Expr} {m : EM} {x : Str} {pos pos' : Pos}
theorem sx_set (i : Nat) (hN : X.N.Nodup) (he : PX X E e m) (hi : X.N[i]? = some x := by rfl)
    (hx : Loc X.env.scope x := by first | exact Or.inl rfl | exact Or.inr rfl)
    (hs : swapsWith e (some (.Name x pos')) pos.line X.env = pure false := by rfl)
    (hf : X.fn x = true ∨ X.env.scope.names.lookup x = some .local := by first | exact .inl rfl | exact .inr rfl | assumption) : SX X E (.Assign [.Name x pos'] e pos) (sSet i m) := by
  obtain ⟨t, p, ev⟩ := he
  refine ⟨_, ps_set hN hi hx p hs hf, fun W σ H Z δ F hsl ok hm l => ?_⟩
  refine ev W σ H _ δ _ F.ex hsl ok hm ?_ l.ex
  intro v H1 d r1 hv hp
  exact l.nx _ _ _ r1 ((hsl.R r1).set i hv) hp
theorem sx_to {tg : Expr} {g : GM} (he : PX X E e m) (hg : GX X tg g) (hs : swapsWithSole [tg] e pos.line X.env = pure false := by rfl)
    (hw : swappedStores [tg] e X.env = pure none := by rfl) (h1 : (assignEach [tg] X.env).map (·.2) = [assign tg X.env] := by rfl) : SX X E (.Assign [tg] e pos) (sTo g m) := by
  obtain ⟨t, p, ev⟩ := he
  obtain ⟨u, q, f⟩ := hg
  refine ⟨_, ps_asg p q hs hw h1, fun W σ H Z δ F hsl ok hm l => ?_⟩
  refine ev W σ H _ δ _ F.ex hsl ok hm ?_ l.ex
  intro v H1 d r1 hv hp
  exact f W v d σ H1 _ δ _ (hsl.R r1) r1.ok hv hp fun σ' δ' h2 hk => l.nx _ _ _ r1 h2 hk
theorem sx_expr (he : PX X E e m) (hs : swapsWith e none pos.line X.env = pure false := by rfl) : SX X E (.Expr e pos) (sDrop m) := by
  obtain ⟨t, p, ev⟩ := he
  refine ⟨_, ps_expr p hs, fun W σ H Z δ F hsl ok hm l => ?_⟩
  refine ev W σ H _ δ _ F.ex hsl ok hm ?_ l.ex
  intro v H1 d r1 hv hp
  exact l.nx _ _ _ r1 (hsl.R r1) hp
theorem sx_ret (he : PX X E e m) : SX X E (.Return (some e) pos) (sRet m) := by
  obtain ⟨t, p, ev⟩ := he
  refine ⟨_, ps_ret p, fun W σ H Z δ F hsl ok hm l => ?_⟩
  exact ev W σ H _ δ _ F.ex hsl ok hm (fun v H1 d r1 hv hp => l.rt v H1 d r1 hv hp) l.ex
theorem sx_retN : SX X E (.Return none pos) sRetN := ⟨_, ps_retN, fun W σ H Z δ F hsl ok hm l => l.rt _ H _ (.refl ok) .non hm⟩
theorem sx_pass : SX X E (.Pass pos) sNx := ⟨_, ps_pass, fun W σ H Z δ F hsl ok hm l => l.nx _ H _ (.refl ok) hsl hm⟩
theorem sx_break : SX X E (.Break pos) sBk := ⟨_, ps_break, fun W σ H Z δ F hsl ok hm l => l.bk _ H _ (.refl ok) hsl hm⟩
theorem sx_cont : SX X E (.Continue pos) sCt := ⟨_, ps_continue, fun W σ H Z δ F hsl ok hm l => l.ct _ H _ (.refl ok) hsl hm⟩
variable {c : Expr} {tc : TM} {a b : List Stmt} {sa sb : SM} {st : Stmt} {rest : List Stmt}
theorem bx_nil : BX X E [] sNx := ⟨_, pss_nil, fun W σ H Z δ F hsl ok hm l => l.nx _ H _ (.refl ok) hsl hm⟩
theorem bx_one (h : SX X E st sa) : BX X E [st] sa := let ⟨_, p, e⟩ := h; ⟨_, pss_one p, e⟩
theorem bx_cons (h : SX X E st sa) (k : BX X E rest sb) : BX X E (st :: rest) (sSeq sa sb) := by
  obtain ⟨t, p, e⟩ := h
  obtain ⟨u, q, f⟩ := k
  refine ⟨_, pss_cons p q, fun W σ H Z δ F hsl ok hm l => ?_⟩
  refine e W σ H { Z with nx := u Z } δ { F with nx := fun δ' => sb δ' F } hsl ok hm ⟨fun σ' H' δ' r hs' hk => ?_, l.rt, l.bk, l.ct, l.ex⟩
  exact f W σ' H' Z δ' F hs' r.ok hk (l.R r)
theorem sx_if (hc : TX X E c tc) (ha : BX X E a sa) (hb : BX X E b sb) : SX X E (.If c a b pos) (sIf tc sa sb) := by
  obtain ⟨t, p, e⟩ := hc
  obtain ⟨u, q, f⟩ := ha
  obtain ⟨w, r, g⟩ := hb
  refine ⟨_, ps_if p q r, fun W σ H Z δ F hsl ok hm l => ?_⟩
  refine e W σ H _ δ _ F.ex hsl ok hm ?_ l.ex
  intro p H1 r1 hp
  cases p with
  | true =>
    rw [if_pos rfl] at hp ⊢
    exact f W σ H1 Z δ F (hsl.R r1) r1.ok hp (l.R r1)
  | false =>
    rw [if_neg Bool.false_ne_true] at hp ⊢
    exact g W σ H1 Z δ F (hsl.R r1) r1.ok hp (l.R r1)
theorem sx_for {tg it : Expr} {im : IM} {g : GM} (hp : PassesOwn (model X.prog X.w) X.A X.env X.xe) (hc : X.calm = true) (hi : IX X E tg it im) (hg : GX X tg g) (hb : BX X E a sa)
    (hs : ∀ x, foldedSetIterable it X.env x = pure x := by intro _; rfl) : SX X E (.For tg it a [] pos) (sFor im g sa) := by
  obtain ⟨t, p, e⟩ := hi
  obtain ⟨u, q, f⟩ := hg
  obtain ⟨w, r, b⟩ := hb
  refine ⟨_, ps_for hp hc p q r hs, fun W σ H Z δ F hsl ok hm l => ?_⟩
  refine e W σ H _ δ _ F.ex hsl ok hm ?_ l.ex
  intro J H1 ds r1 src hgo
  refine ⟨fun i n σ' H' => n = ds.length - i ∧ i ≤ ds.length ∧ W.R H1 H' ∧ ∃ δ', SL W X.K σ' H' δ' ∧ forGo g sa F (ds.drop i) δ',
    ⟨ds.length, by simp, Nat.zero_le _, .refl r1.ok, δ, hsl.R r1, hgo⟩, ?_⟩
  rintro i n σ' H' ⟨rfl, hle, rH, δ', hs', hgo'⟩
  have sr := src W H' (.refl W) rH.ok rH.ex
  by_cases hlt : i < ds.length
  · right
    obtain ⟨d, hd⟩ : ∃ d, ds[i]? = some d := ⟨_, List.getElem?_eq_getElem hlt⟩
    obtain ⟨go, yl⟩ := sr.1 i d hd
    refine ⟨go, fun σ2 H2 => W.R H1 H2 ∧ ∃ δ2, SL W X.K σ2 H2 δ2 ∧ forGo g sa F (ds.drop (i + 1)) δ2, fun σ2 H2 h => ⟨ds.length - (i + 1), by omega, rfl, by omega, h⟩, fun x H2 hy => ?_⟩
    obtain ⟨r2, hda⟩ := yl x H2 hy
    have ed : ds.drop i = d :: ds.drop (i + 1) := by
      rw [List.getElem?_eq_getElem hlt] at hd
      cases hd
      exact List.drop_eq_getElem_cons hlt
    rw [ed] at hgo'
    refine f W x d σ' H2 _ δ' _ (hs'.R r2) r2.ok hda hgo' fun σ3 δ3 hs3 hk => ?_
    have l2 := l.R ((r1.trans rH).trans r2)
    refine b W σ3 H2 _ δ3 _ hs3 r2.ok hk ⟨fun σ4 H4 δ4 r4 hs4 hk4 => ⟨(rH.trans r2).trans r4, δ4, hs4, hk4⟩, l2.rt, fun σ4 H4 δ4 r4 hs4 hk4 => l2.nx σ4 H4 δ4 r4 hs4 hk4,
      fun σ4 H4 δ4 r4 hs4 hk4 => ⟨(rH.trans r2).trans r4, δ4, hs4, hk4⟩, l2.ex⟩
  · left
    refine ⟨sr.2 i (by omega), ?_⟩
    rw [List.drop_eq_nil_of_le (by omega)] at hgo'
    exact l.nx σ' H' δ' (r1.trans rH) hs' hgo'
theorem sx_while (hp : PassesOwn (model X.prog X.w) X.A X.env X.xe) (hc : TX X E c tc) (hb : BX X E a sa) : SX X E (.While c a [] pos) (sWhile tc sa) := by
  obtain ⟨t, p, e⟩ := hc
  obtain ⟨w, r, b⟩ := hb
  refine ⟨_, ps_while hp p r, fun W σ H Z δ F hsl ok hm l => ?_⟩
  obtain ⟨n, hn⟩ := hm
  refine ⟨fun n σ' H' => W.R H H' ∧ ∃ δ', SL W X.K σ' H' δ' ∧ whGo tc sa F n δ', ⟨n, .refl ok, δ, hsl, hn⟩, ?_⟩
  rintro n σ' H' ⟨rH, δ', hs', hgo⟩
  cases n with
  | zero => exact hgo.elim
  | succ n =>
    refine e W σ' H' _ δ' _ F.ex hs' rH.ok hgo ?_ (l.R rH).ex
    intro q H2 r2 hq
    have l2 := l.R (rH.trans r2)
    cases q with
    | true =>
      rw [if_pos rfl] at hq ⊢
      refine ⟨fun σ3 H3 => W.R H H3 ∧ ∃ δ3, SL W X.K σ3 H3 δ3 ∧ whGo tc sa F n δ3, fun σ3 H3 h => ⟨n, Nat.lt_succ_self n, h⟩, ?_⟩
      refine b W σ' H2 _ δ' _ (hs'.R r2) r2.ok hq ⟨fun σ4 H4 δ4 r4 hs4 hk4 => ⟨(rH.trans r2).trans r4, δ4, hs4, hk4⟩, l2.rt, fun σ4 H4 δ4 r4 hs4 hk4 => l2.nx σ4 H4 δ4 r4 hs4 hk4,
        fun σ4 H4 δ4 r4 hs4 hk4 => ⟨(rH.trans r2).trans r4, δ4, hs4, hk4⟩, l2.ex⟩
    | false =>
      rw [if_neg Bool.false_ne_true] at hq ⊢
      exact l2.nx σ' H2 δ' (.refl r2.ok) (hs'.R r2) hq
end
end Fw
/-! # FwRun6: comprehensions, defs, calls of defs, errors -/
namespace Fw
open PySem PySem.Spec PyProof.Rows L2
open Evl (Ex)
variable [TabsOf]

/-! ## [e for x in it if t] -/
def wipeE (δ : Env) : List Nat → Env
  | [] => δ
  | v :: vs => (wipeE δ vs).set v none
theorem SL.wipe {W : Wld} {K : PySem.W.Frag} {σ : L2.St} {H : Hp} {δ : Env} (h : SL W K σ H δ) : ∀ vs : List Nat, SL W K (wipe σ vs) H (wipeE δ vs)
  | [] => h
  | v :: vs => by
    have ih := SL.wipe h vs
    refine ⟨by show ((L2.wipe σ vs).set v none).length = ((wipeE δ vs).set v none).length; simp [ih.len], h.tb, fun i d e => ?_⟩
    have e : ((wipeE δ vs).set v none)[i]? = some (some d) := e
    show ∃ u, ((L2.wipe σ vs).set v none)[i]? = some (some u) ∧ _
    by_cases hj : v = i
    · subst hj
      by_cases hl : v < (wipeE δ vs).length
      · rw [List.getElem?_set_self hl] at e
        cases e
      · rw [List.getElem?_eq_none (by simp; omega)] at e
        cases e
    · rw [List.getElem?_set_ne hj] at e ⊢
      exact ih.at_ i d e
def tTT : TM := fun _ post _ => post true
def noX : EX → Prop := fun _ => False
/-- the turns of a comprehension: acc holds what is made so far -/
def lcGo (g : GM) (t : TM) (e : EM) (δw : Env) (k : List D → Prop) : List D → List D → Prop
  | [], acc => k acc
  | d :: ds, acc => g d δw fun δ2 => t δ2 (fun b => if b = true then e δ2 (fun y => acc.length < 16777216 ∧ lcGo g t e δw k ds (acc ++ [y])) noX else lcGo g t e δw k ds acc) noX
def mLc (it : IM) (g : GM) (t : TM) (e : EM) (own : List Nat) : EM := fun δ post ex => it δ (fun ds => lcGo g t e (wipeE δ own) (fun acc => post (.lst acc)) ds []) ex
/-- a reading that is told by the data alone -/
def tS (K : PySem.W.Frag) (E : XK) (m : EM) : TE := fun σ H Q => ∃ W δ post ex, SL W K σ H δ ∧ W.ok H ∧ m δ post ex ∧ (∀ v H' d, W.R H H' → Da W K (W.cut H') v d → post d → Q v H') ∧ XLink W K H E ex
def tSt (K : PySem.W.Frag) (E : XK) (m : TM) : TT := fun σ H Q => ∃ W δ post ex, SL W K σ H δ ∧ W.ok H ∧ m δ post ex ∧ (∀ b H', W.R H H' → post b → Q b H') ∧ XLink W K H E ex
theorem px_star {X : Cx} {E : XK} {e : Expr} {m : EM} (h : PX X E e m) : PE X e (tS X.K E m) := by
  obtain ⟨t, p, f⟩ := h
  constructor
  rintro pins s σ H Q I ⟨W, δ, post, ex, hs, ok, hm, hq, lx⟩
  exact p.run pins s σ H Q I (f W σ H Q δ post ex hs ok hm hq lx)
theorem tx_star {X : Cx} {E : XK} {e : Expr} {m : TM} (h : TX X E e m) : PT X e (tSt X.K E m) := by
  obtain ⟨t, p, f⟩ := h
  constructor
  rintro pins s σ H Q I ⟨W, δ, post, ex, hs, ok, hm, hq, lx⟩
  exact p.run pins s σ H Q I (f W σ H Q δ post ex hs ok hm hq lx)
theorem evo_star {W : Wld} {K : PySem.W.Frag} {E : XK} {m : EM} : EvO W K E (tS K E m) m := fun σ H Q δ post ex hs ok hm hq lx => ⟨W, δ, post, ex, hs, ok, hm, hq, lx⟩
theorem evt_star {W : Wld} {K : PySem.W.Frag} {E : XK} {m : TM} : EvT W K E (tSt K E m) m := fun σ H Q δ post ex hs ok hm hq lx => ⟨W, δ, post, ex, hs, ok, hm, hq, lx⟩

/-- the target stores just the comprehension's own names -/
def EvGw (W : Wld) (K : PySem.W.Frag) (own : List Nat) (t : TG) (g : GM) : Prop := ∀ v d (σ : L2.St) H (Q : L2.St → Hp → Prop) δ k, SL W K σ H δ → W.ok H → Da W K (W.cut H) v d → g d δ k →
  (∀ σ' δ', SL W K σ' H δ' → wipe σ' own = wipe σ own → k δ' → Q σ' H) → t v σ H Q
theorem wipe_out {i : Nat} {u : Option V} (τ : L2.St) : ∀ (l : List Nat), i ∉ l → wipe (τ.set i u) l = (wipe τ l).set i u
  | [], _ => rfl
  | j :: l, h => by
    have hj : i ≠ j := fun z => h (by rw [z]; exact List.mem_cons_self)
    show (wipe (τ.set i u) l).set j none = ((wipe τ l).set j none).set i u
    rw [wipe_out τ l fun z => h (List.mem_cons_of_mem _ z), List.set_comm _ _ hj]
theorem wipe_in {i : Nat} {u : Option V} (τ : L2.St) : ∀ (l : List Nat), i ∈ l → wipe (τ.set i u) l = wipe τ l
  | [], h => by cases h
  | j :: l, h => by
    show (wipe (τ.set i u) l).set j none = (wipe τ l).set j none
    by_cases hm : i ∈ l
    · rw [wipe_in τ l hm]
    · rcases List.mem_cons.mp h with e | e
      · subst e
        rw [wipe_out τ l hm, List.set_set]
      · exact absurd e hm
theorem wipe_at {j : Nat} (τ : L2.St) : ∀ (m : List Nat), j ∈ m → (wipe τ m).set j none = wipe τ m
  | [], h => by cases h
  | c :: m, h => by
    show ((wipe τ m).set c none).set j none = (wipe τ m).set c none
    by_cases hc : c = j
    · subst hc
      rw [List.set_set]
    · rw [List.set_comm _ _ hc]
      rcases List.mem_cons.mp h with z | z
      · exact absurd z.symm hc
      · rw [wipe_at τ m z]
theorem wipe_idem (τ : L2.St) (m : List Nat) : wipe (wipe τ m) m = wipe τ m := by
  have gen : ∀ (l : List Nat), (∀ j ∈ l, j ∈ m) → wipe (wipe τ m) l = wipe τ m := by
    intro l
    induction l with
    | nil =>
      intro _
      rfl
    | cons j l ih =>
      intro hsub
      show (wipe (wipe τ m) l).set j none = wipe τ m
      rw [ih fun x hx => hsub x (List.mem_cons_of_mem _ hx), wipe_at τ m (hsub j List.mem_cons_self)]
  exact gen m fun _ h => h
theorem evgw_name {W : Wld} {K : PySem.W.Frag} {i : Nat} {own : List Nat} (hi : i ∈ own) : EvGw W K own (gName i) (gNm i) :=
  fun v d σ H Q δ k hs ok hv hk hq => hq _ _ (hs.set i hv) (wipe_in σ own hi) hk
/-- two names, of a pair -/
theorem evgw_two {W : Wld} {K : PySem.W.Frag} {i j : Nat} {own : List Nat} (hi : i ∈ own) (hj : j ∈ own) :
    EvGw W K own (gTup K 2 (gCons (gName i) (gCons (gName j) gNil))) (gTp 2 (gCn (gNm i) (gCn (gNm j) gNl))) := by
  rintro v d σ H Q δ k hs ok hv ⟨ds, rfl, hl, d1, es, rfl, d2, es2, rfl, rfl, hk⟩ hq
  cases hv with
  | tup h1 h2 =>
    cases h2 with
    | cons a1 r1 =>
      cases r1 with
      | cons a2 r2 =>
        cases r2
        refine ⟨_, _, rfl, Evl.ex_t cut_sub h1, rfl, _, _, rfl, _, _, rfl, rfl, ?_⟩
        refine hq _ _ ((hs.set i a1).set j a2) ?_ hk
        rw [wipe_in _ own hj, wipe_in _ own hi]

/-- something that grows: its world -/
def Wld.grow (W : Wld) (p : Addr) (acc : HO) : Wld := { W with own := (p, acc) :: W.own }
theorem grow_sm (W : Wld) (p : Addr) (acc : HO) : W.Sm (W.grow p acc) := ⟨rfl, rfl, rfl⟩
theorem grow_ok {W : Wld} {H : Hp} {p : Addr} {acc : HO} (ok : W.ok H) (hp : p ∉ W.M) (oa : Own acc) (h : H p = some acc) : (W.grow p acc).ok H :=
  ⟨ok.dr, ok.tb, fun q hq => by
    rcases List.mem_cons.mp hq with e | e
    · rw [e]
      exact h
    · exact ok.own q e, fun q hq => by
    rcases List.mem_cons.mp hq with e | e
    · rw [e]
      exact fun z => hp (List.mem_append_right _ z)
    · exact ok.sep q e, fun q hq => by
    rcases List.mem_cons.mp hq with e | e
    · rw [e]
      exact oa
    · exact ok.ownO q e⟩
theorem grow_of {W : Wld} {H : Hp} {p : Addr} {acc : HO} (ok : (W.grow p acc).ok H) : W.ok H ∧ H p = some acc :=
  ⟨⟨ok.dr, ok.tb, fun q hq => ok.own q (List.mem_cons_of_mem _ hq), fun q hq => ok.sep q (List.mem_cons_of_mem _ hq), fun q hq => ok.ownO q (List.mem_cons_of_mem _ hq)⟩, ok.own (p, acc) List.mem_cons_self⟩
theorem grow_cut {W : Wld} {H : Hp} {p : Addr} {acc : HO} {b : Addr} : (W.grow p acc).cut H b = if b = p then none else W.cut H b := by
  have hM : b ∈ (W.grow p acc).M ↔ b = p ∨ b ∈ W.M := by
    show b ∈ ((p, acc) :: W.own).map (·.1) ++ drM W.dr ↔ b = p ∨ b ∈ W.own.map (·.1) ++ drM W.dr
    rw [List.map_cons, List.cons_append, List.mem_cons]
  unfold Wld.cut
  by_cases hb : b = p
  · rw [if_pos hb, if_pos (hM.mpr (.inl hb))]
  · rw [if_neg hb]
    by_cases hm : b ∈ W.M
    · rw [if_pos hm, if_pos (hM.mpr (.inr hm))]
    · rw [if_neg hm, if_neg fun z => (hM.mp z).elim hb hm]
theorem grow_sub {W : Wld} {H : Hp} {p : Addr} {acc : HO} : Ex ((W.grow p acc).cut H) (W.cut H) := by
  intro a o h
  rw [grow_cut] at h
  split at h
  · cases h
  · exact h
/-- what was there ahead of the list is there within -/
theorem grow_in {W : Wld} {H H' : Hp} {p : Addr} {acc : HO} (hp : H p = none) (e : Ex (W.cut H) (W.cut H')) : Ex (W.cut H) ((W.grow p acc).cut H') := by
  intro a o h
  rw [grow_cut, if_neg (ne_of_none (cut_sub _ _ h) hp)]
  exact e a o h
/-- it changes -/
theorem grow_put {W : Wld} {H : Hp} {p : Addr} {acc acc' : HO} (hp : p ∉ W.M) (oa' : Own acc') (ok : (W.grow p acc).ok H) : (W.grow p acc').ok (upd H p acc') := by
  obtain ⟨ok1, h⟩ := grow_of ok
  have oa : Own acc := ok.ownO (p, acc) List.mem_cons_self
  have ne : ∀ {b : Addr}, b ∈ W.M → b ≠ p := fun {b} hb z => hp (by rw [← z]; exact hb)
  have neT : ∀ {b : Addr} {ps : Array Value}, H b = some (.tbl ps) → b ≠ p := fun {b ps} e z => by
    rw [z, h] at e
    exact oa.tb _ (Option.some.inj e)
  have neC : ∀ {b : Addr} {q : Str}, H b = some (LamX.CodeO b q) → b ≠ p := fun {b q} e z => by
    rw [z, h] at e
    exact oa.co _ _ (Option.some.inj e)
  refine ⟨fun d l c hd => ?_, fun q hq => ?_, fun q hq => ?_, fun q hq => ?_, fun q hq => ?_⟩
  · obtain ⟨r, t, lg, h1, h2, h3, h4, h5, h6, h7⟩ := ok1.dr d l c hd
    have m : ∀ x ∈ [d, l, c], x ≠ p := fun x hx => ne (List.mem_append_right _ (by rw [show W.dr = some (d, l, c) from hd]; exact hx))
    refine ⟨r, t, lg, ?_, h2, h3, ?_, h5, ?_, h7⟩
    · rw [upd_ne (m d (by simp))]
      exact h1
    · rw [upd_ne (m l (by simp))]
      exact h4
    · rw [upd_ne (m c (by simp))]
      exact h6
  · obtain ⟨ps, a1, a2, a3⟩ := ok1.tb q hq
    refine ⟨ps, by rw [upd_ne (neT a1)]; exact a1, a2, fun pos cv hc => ?_⟩
    obtain ⟨c, e1, e2⟩ := a3 pos cv hc
    exact ⟨c, e1, by rw [upd_ne (neC e2)]; exact e2⟩
  · rcases List.mem_cons.mp hq with e | e
    · rw [e]
      exact upd_same
    · rw [upd_ne (ne (List.mem_append_left _ (List.mem_map_of_mem e)))]
      exact ok1.own q e
  · rcases List.mem_cons.mp hq with e | e
    · rw [e]
      exact fun z => hp (List.mem_append_right _ z)
    · exact ok1.sep q e
  · rcases List.mem_cons.mp hq with e | e
    · rw [e]
      exact oa'
    · exact ok1.ownO q e
theorem grow_upd {W : Wld} {H : Hp} {p : Addr} {acc acc' : HO} {o : HO} : (W.grow p acc').cut (upd H p o) = (W.grow p acc).cut H := by
  funext b
  rw [grow_cut, grow_cut]
  by_cases hb : b = p
  · rw [if_pos hb, if_pos hb]
  · rw [if_neg hb, if_neg hb]
    unfold Wld.cut
    rw [upd_ne hb]
section
variable {X : Cx} {E : XK} {elt tg it : Expr} {ifs : List Expr} {scope : Scope} {own : List (Str × Nat)} {pos : Pos} {im : IM} {g : GM} {mt : TM} {me : EM} {tgt : TG} {tt : TT}
/-- the list is new -/
theorem evo_lcN {W : Wld} {K : PySem.W.Frag} {wi : TI} {te : TE} {vs : List Nat} (hi : EvI W K E wi im) (hg : ∀ W, EvGw W K vs tgt g) (ht : ∀ W, EvT W K L2.E0 tt mt) (he : ∀ W, EvO W K L2.E0 te me) :
    ∀ (σ : L2.St) H (Q : VK) δ post ex, SL W K σ H δ → W.ok H → mLc im g mt me vs δ post ex →
      (∀ p H' xs ds, W.R H H' → (∀ b o, W.cut H b = some o → b ≠ p) → W.cut H' p = some (.lst xs) → Das W K (W.cut H') xs ds → post (.lst ds) → Q (.ref p) H') → XLink W K H E ex → tLc wi tgt tt te vs σ H Q := by
  intro σ H Q δ post ex hs ok hm hq lx
  refine hi σ H _ δ _ ex hs ok hm ?_ lx
  intro J H1 ds r1 src hgo p hp
  have pM : p ∉ W.M := fun hb => by
    obtain ⟨o, ho⟩ := mem_there r1.ok hb
    rw [hp] at ho
    cases ho
  have nx : ∀ (W' : Wld) (H' : Hp), XLink W' K H' L2.E0 noX := fun _ _ x C d H' _ z => z
  refine ⟨fun i n H' => n = ds.length - i ∧ i ≤ ds.length ∧ ∃ acc das, (W.grow p (.lst acc)).ok H' ∧ Ex (W.cut H1) ((W.grow p (.lst acc)).cut H') ∧ Das (W.grow p (.lst acc)) K ((W.grow p (.lst acc)).cut H') acc das ∧
    lcGo g mt me (wipeE δ vs) (fun acc => post (.lst acc)) (ds.drop i) das, ⟨ds.length, by simp, Nat.zero_le _, [], [], ?_, ?_, .nil, hgo⟩, ?_⟩
  · exact grow_ok (ok_ex r1.ok (Ex.new hp)) pM own_lst upd_same
  · exact grow_in hp (R_new r1.ok hp).ex
  rintro i n H' ⟨rfl, hle, acc, das, gok, gex, gda, hgo'⟩
  obtain ⟨wok, hpl⟩ := grow_of gok
  have sr := src (W.grow p (.lst acc)) H' (grow_sm W p (.lst acc)) gok gex
  by_cases hlt : i < ds.length
  · right
    obtain ⟨d, hd⟩ : ∃ d, ds[i]? = some d := ⟨_, List.getElem?_eq_getElem hlt⟩
    obtain ⟨go, yl⟩ := sr.1 i d hd
    refine ⟨go, fun H2 => ∃ acc das, (W.grow p (.lst acc)).ok H2 ∧ Ex (W.cut H1) ((W.grow p (.lst acc)).cut H2) ∧ Das (W.grow p (.lst acc)) K ((W.grow p (.lst acc)).cut H2) acc das ∧
      lcGo g mt me (wipeE δ vs) (fun acc => post (.lst acc)) (ds.drop (i + 1)) das, fun H2 h => ⟨ds.length - (i + 1), by omega, rfl, by omega, h⟩, fun x H2 hy => ?_⟩
    obtain ⟨r2, hda⟩ := yl x H2 hy
    have ed : ds.drop i = d :: ds.drop (i + 1) := by
      rw [List.getElem?_eq_getElem hlt] at hd
      cases hd
      exact List.drop_eq_getElem_cons hlt
    rw [ed] at hgo'
    have hsw : SL (W.grow p (.lst acc)) K (wipe σ vs) H2 (wipeE δ vs) := ((hs.R r1).wipe vs).sm (grow_sm W p (.lst acc)) (gex.trans r2.ex)
    refine hg _ x d (wipe σ vs) H2 _ (wipeE δ vs) _ hsw r2.ok hda hgo' fun σ3 δ3 hs3 hw3 hk => ⟨by rw [hw3, wipe_idem], ?_⟩
    refine ht _ σ3 H2 _ δ3 _ noX hs3 r2.ok hk ?_ (nx _ _)
    intro b H3 r3 hb
    have gex3 := (gex.trans r2.ex).trans r3.ex
    cases b with
    | false =>
      rw [if_neg Bool.false_ne_true] at hb ⊢
      exact ⟨acc, das, r3.ok, gex3, (gda.R r2).R r3, hb⟩
    | true =>
      rw [if_pos rfl] at hb ⊢
      refine he _ σ3 H3 _ δ3 _ noX (hs3.R r3) r3.ok hb ?_ (nx _ _)
      rintro y H4 dy r4 hy4 ⟨hsz, hgo4⟩
      have h4 := (grow_of r4.ok).2
      have gda4 := ((gda.R r2).R r3).R r4
      refine ⟨acc, h4, by rw [gda4.length, sizeLine_eq]; exact hsz, acc ++ [y], das ++ [dy], grow_put pM own_lst r4.ok, ?_, ?_, hgo4⟩
      · rw [grow_upd (acc := .lst acc)]
        exact gex3.trans r4.ex
      · rw [grow_upd (acc := .lst acc)]
        have sm : (W.grow p (.lst acc)).Sm (W.grow p (.lst (acc ++ [y]))) := ⟨rfl, rfl, rfl⟩
        exact (gda4.sm sm).app (.cons (hy4.sm sm) .nil)
  · left
    refine ⟨sr.2 i (by omega), ?_⟩
    rw [List.drop_eq_nil_of_le (by omega)] at hgo'
    have cp : W.cut H' p = some (.lst acc) := by
      unfold Wld.cut
      rw [if_neg pM, hpl]
    have sm : (W.grow p (.lst acc)).Sm W := ⟨rfl, rfl, rfl⟩
    refine hq p H' _ _ ⟨wok, ?_⟩ (fun b o hb => ne_of_none (cut_sub _ _ (r1.ex b o hb)) hp) cp ((gda.sm sm).up grow_sub) hgo'
    exact r1.ex.trans (gex.trans grow_sub)
theorem evo_lc {W : Wld} {K : PySem.W.Frag} {wi : TI} {te : TE} {vs : List Nat} (hi : EvI W K E wi im) (hg : ∀ W, EvGw W K vs tgt g) (ht : ∀ W, EvT W K L2.E0 tt mt) (he : ∀ W, EvO W K L2.E0 te me) :
    EvO W K E (tLc wi tgt tt te vs) (mLc im g mt me vs) := fun σ H Q δ post ex hs ok hm hq lx =>
  evo_lcN hi hg ht he σ H Q δ post ex hs ok hm (fun p H' xs ds r _ h1 h2 hp => hq _ H' _ r (.lst h1 h2) hp) lx
theorem px_lc (hc : X.calm = true) (hN : X.N.Nodup) (hi : IX X E tg it im) (ok : BlkOk X.N X.env.scope scope own)
    (hg : ∀ (s : Shared) (H : Hp) (C : Addr) (cl : List (Str × Addr)) (fp : List Addr), PG (X.blk s H scope (compEnvC scope cl C X.env) fp) tg tgt) (hgw : ∀ W, EvGw W X.K (own.map (·.2)) tgt g)
    (ht : ∀ (s : Shared) (H : Hp) (C : Addr) (cl : List (Str × Addr)) (fp : List Addr), PTs (X.blk s H scope (compEnvC scope cl C X.env) fp) ifs tt) (htw : ∀ W, EvT W X.K L2.E0 tt mt)
    (he : ∀ (s : Shared) (H : Hp) (C : Addr) (cl : List (Str × Addr)) (fp : List Addr), PX (X.blk s H scope (compEnvC scope cl C X.env) fp) L2.E0 elt me)
    (hs : ∀ x, foldedSetIterable it X.env x = pure x := by intro _; rfl) : PX X E (.ListComp elt [⟨tg, it, ifs, 0⟩] scope pos) (mLc im g mt me (own.map (·.2))) := by
  obtain ⟨t, p, e⟩ := hi
  exact ⟨_, pe_lc (te := tS X.K L2.E0 me) hc hN p ok hg ht (fun s H C cl fp => px_star (he s H C cl fp)) hs, fun W => evo_lc (e W) hgw htw fun _ => evo_star⟩
theorem sx_setLc {i : Nat} {y : Str} {py spos : Pos} (hc : X.calm = true) (hN : X.N.Nodup) (hy : X.N[i]? = some y) (hyl : X.env.scope.names.lookup y = some .local)
    (hsw : swapsWith (.ListComp elt [⟨tg, it, ifs, 0⟩] scope pos) (some (.Name y py)) spos.line X.env = pure true) (hi : IX X E tg it im) (ok : BlkOk X.N X.env.scope scope own)
    (hg : ∀ (s : Shared) (H : Hp) (C : Addr) (cl : List (Str × Addr)) (fp : List Addr), PG (X.blk s H scope (compEnvC scope cl C X.env) fp) tg tgt) (hgw : ∀ W, EvGw W X.K (own.map (·.2)) tgt g)
    (ht : ∀ (s : Shared) (H : Hp) (C : Addr) (cl : List (Str × Addr)) (fp : List Addr), PTs (X.blk s H scope (compEnvC scope cl C X.env) fp) ifs tt) (htw : ∀ W, EvT W X.K L2.E0 tt mt)
    (he : ∀ (s : Shared) (H : Hp) (C : Addr) (cl : List (Str × Addr)) (fp : List Addr), PX (X.blk s H scope (compEnvC scope cl C X.env) fp) L2.E0 elt me)
    (hs : ∀ x, foldedSetIterable it X.env x = pure x := by intro _; rfl) : SX X E (.Assign [.Name y py] (.ListComp elt [⟨tg, it, ifs, 0⟩] scope pos) spos) (sSet i (mLc im g mt me (own.map (·.2)))) := by
  obtain ⟨t, p, e⟩ := hi
  refine ⟨_, ps_setLc (te := tS X.K L2.E0 me) hc hN hy hyl hsw p ok hg ht (fun s H C cl fp => px_star (he s H C cl fp)) hs, fun W σ H Z δ F hsl ok hm l => ?_⟩
  refine evo_lc (e W) hgw htw (fun _ => evo_star) σ H _ δ _ F.ex hsl ok hm ?_ l.ex
  intro v H1 d r1 hv hp
  exact l.nx _ _ _ r1 ((hsl.R r1).set i hv) hp
theorem evt_yes {W : Wld} {K : PySem.W.Frag} : EvT W K L2.E0 tYes tTT := fun σ H Q δ post ex hs ok hm hq lx => hq true H (.refl ok) hm
end
end Fw
/-! # FwRun7: defs and their calls; errors made, asked and caught -/
namespace Fw
open PySem PySem.Spec PyProof.Rows L2
open Evl (Ex)
variable [TabsOf]

/-! ## a def's promise -/
def spF (K : PySem.W.Frag) (n : Nat) (m : FM) : Sp := fun vs H Q E => ∃ (W : Wld) (ds : List D) (post : D → Prop) (ex : EX → Prop), W.tb = TabsOf.tb K ∧ W.ok H ∧ Das W K (W.cut H) vs ds ∧ ds.length = n ∧
  m ds post ex ∧ (∀ v H' d, W.R H H' → Da W K (W.cut H') v d → post d → Q v H') ∧ XLink W K H E ex
theorem spF_len {K : PySem.W.Frag} {n : Nat} {m : FM} {vs : List V} {H : Hp} {Q : VK} {E : XK} (h : spF K n m vs H Q E) : vs.length = n := by
  obtain ⟨W, ds, post, ex, _, _, h, e, _⟩ := h
  rw [h.length, e]
/-- a def by its name: it stands there, and does with data what m says -/
def Good (P : Program) (w : World) (K : PySem.W.Frag) (mg : Str → Option Value) (base : Heap) (x nm : Str) (st : Stmt) (k : Nat) (ps : List Str) (m : FM) : Prop :=
  ∃ f fd, mg x = some (.ref f) ∧ FunD K nm nm (defArgs st) (defBody st) (defScope st) [] [] f fd ∧ Binds K fd ps [] ∧ FnOk P w K mg base (L2.CX P w) k f fd ps (spF K ps.length m)
/-- what a body does, as a def -/
def funM (n : Nat) (m : SM) : FM := fun ds post ex => m (ds.map some ++ List.replicate (n - ds.length) none) { nx := fun _ => post .non, rt := post, ex := ex }
section
variable {P : Program} {w : World} {K : PySem.W.Frag} {mg : Str → Option Value} {base : Heap} {x nm : Str} {st : Stmt} {k : Nat} {N ps : List Str} {m : SM}
theorem cx_takes {N : List Str} {q : Str} {sc : Scope} {f : Addr} {cd : Value} {A : Around} {outer : List PySem.Env} {s : Shared} {H : Hp} {E : XK} :
    Takes (cxOf (L2.CX P w) P w K mg base N q sc f cd A outer s H E) (fun cls d _ H' => E cls d H') := takes_of rfl rfl rfl rfl
theorem cx_passes {N : List Str} {q : Str} {sc : Scope} {f : Addr} {cd : Value} {A : Around} {outer : List PySem.Env} {s : Shared} {H : Hp} {E : XK} :
    Passes (L2.CX P w) (cxOf (L2.CX P w) P w K mg base N q sc f cd A outer s H E) E := passes_call cx_takes fun _ _ _ _ h => h
theorem cx_own {N : List Str} {q : Str} {sc : Scope} {f : Addr} {cd : Value} {A : Around} {outer : List PySem.Env} {s : Shared} {H : Hp} {E : XK} :
    PassesOwn (model P w) (A.deeper (envOfC q sc s.heap.objs.size f cd)) (envOfC q sc s.heap.objs.size f cd) (cxOf (L2.CX P w) P w K mg base N q sc f cd A outer s H E).xe := passes_of rfl
theorem good_of (p : He.Defn) {fd : FuncData} (hm : mg x = some (.ref (He.fAd K p))) (F : FunD K nm nm (defArgs st) (defBody st) (defScope st) [] [] (He.fAd K p) fd) (S : FnScope N ps (defScope st)) (hb : Binds K fd ps [])
    (body : ∀ (A : Around) (outer : List PySem.Env) (s : Shared) (H : Hp) (E : XK), Room k (A.deeper (envOfC nm (defScope st) s.heap.objs.size (He.fAd K p) (.ref (He.codeOf K p)))) →
      BX (cxOf (L2.CX P w) P w K mg base N nm (defScope st) (He.fAd K p) (.ref (He.codeOf K p)) A outer s H E) E (defBody st) m) : Good P w K mg base x nm st (k + 1) ps (funM N.length m) := by
  obtain ⟨oc, od, dV, kV, doc, pm, an, cdv, ct, osl, rfl, lk, hcd, hD, hK⟩ := id F.ex
  obtain ⟨c, rfl⟩ := He.codeIn_ref hcd
  have ec : He.codeOf K p = c := He.codeOf_eq lk rfl
  refine ⟨_, _, hm, F, hb, fn_of lk hcd S (fun vs H Q E h => spF_len h) ?_⟩
  rintro A outer s H vs Q E hr ⟨W, ds, post, ex, tb, ok, hd, hl, hmm, hq, lx⟩
  rw [ec] at body
  obtain ⟨t, q, e⟩ := body A outer s H E hr
  refine ⟨t, q, e W (L2.start N vs) H _ _ _ ⟨?_, tb, ?_⟩ ok hmm ⟨?_, ?_, ?_, ?_, lx⟩⟩
  · unfold L2.start
    simp [hd.length]
  · intro i d hi
    unfold L2.start
    by_cases h : i < ds.length
    · rw [List.getElem?_append_left (by simpa using h), List.getElem?_map] at hi
      obtain ⟨d', hd', e'⟩ := Option.map_eq_some_iff.mp hi
      cases e'
      obtain ⟨v, hv, hda⟩ := hd.getD hd'
      refine ⟨v, ?_, hda⟩
      rw [List.getElem?_append_left (by simpa [hd.length] using h), List.getElem?_map, hv]
      rfl
    · rw [List.getElem?_append_right (by simpa using h), List.getElem?_replicate] at hi
      split at hi <;> cases hi
  · intro σ' H' δ' r _ hp
    exact hq .non H' .non r .non hp
  · intro v H' d r hv hp
    exact hq v H' d r hv hp
  · intro _ _ _ _ _ z
    exact z.elim
  · intro _ _ _ _ _ z
    exact z.elim
end

/-! ## calls -/
def mCall (n : Nat) (g : FM) (m : AM) : EM := fun δ post ex => m δ (fun ds => ds.length = n ∧ g ds post ex) ex
section
variable {X : Cx} {E : XK} {x nm : Str} {st : Stmt} {k : Nat} {ps : List Str} {g : FM} {e : Expr} {es : List Expr} {m : AM} {p pos : Pos}
theorem evo_call {W : Wld} {K : PySem.W.Frag} {n : Nat} {t : TA} (h : EvA W K E t m) : EvO W K E (tCall (spF K n g) [] E t) (mCall n g m) := by
  intro σ H Q δ post ex hs ok hm hq lx
  refine h σ H _ δ _ ex hs ok hm ?_ lx
  rintro vs H1 ds r1 hv ⟨hl, hg⟩
  rw [List.append_nil]
  exact ⟨W, ds, post, ex, hs.tb, r1.ok, hv, hl, hg, fun v H' d r hd hp => hq v H' d (r1.trans r) hd hp, lx.R r1⟩
theorem px_call {n : Nat} (G : Good X.prog X.w X.K X.mg X.base x nm st k ps g) (hr : Room k X.A) (hx : Passes (L2.CX X.prog X.w) X E) (hg : Gl X x) (ha : AX X E (e :: es) m) (hn : ps.length = n := by rfl)
    (hdb : (x == ("__debug__" : Str)) = false := by decide) (he : starEach (e :: es) X.env = (false, eval e X.env) :: starEach es X.env := by rfl) (hpl : (backTo pos (starEach es X.env)).any (·.1) = false := by rfl) :
    PX X E (.Call (.Name x p) (e :: es) [] pos) (mCall n g m) := by
  subst hn
  obtain ⟨f, fd, hm, F, hb, ok⟩ := G
  obtain ⟨t, q, ev⟩ := ha
  exact ⟨_, pe_call ok hr hg hm F.kp hb .nil hx q hdb he hpl, fun W => evo_call (ev W)⟩
theorem px_call0 {n : Nat} (G : Good X.prog X.w X.K X.mg X.base x nm st k ps g) (hr : Room k X.A) (hx : Passes (L2.CX X.prog X.w) X E) (hg : Gl X x) (hn : ps.length = n := by rfl)
    (hdb : (x == ("__debug__" : Str)) = false := by decide) : PX X E (.Call (.Name x p) [] [] pos) (mCall n g mNil) := by
  subst hn
  obtain ⟨f, fd, hm, F, hb, ok⟩ := G
  obtain ⟨t, q, ev⟩ : AX X E [] mNil := ax_nil
  refine ⟨_, pe_call0 ok hr hg hm F.kp hb .nil hx hdb, fun W σ H Q δ post ex hs okW hm' hq lx => ?_⟩
  obtain ⟨hl, hg⟩ := hm'
  exact ⟨W, [], post, ex, hs.tb, okW, .nil, hl, hg, hq, lx⟩
/-- keywords' values -/
def KX (X : Cx) (E : XK) (ks : List Keyword) (m : AM) : Prop := ∃ t, PK X ks t ∧ ∀ W, EvA W X.K E t m
variable {nmk : Option Str} {kpos : Pos} {kws : List Keyword} {ma : EM} {mk : AM} {ks : List Str}
theorem kx_nil : KX X E [] mNil := ⟨_, pk_nil, fun W σ H Q δ post ex hs ok hm hq _ => hq [] H [] (.refl ok) .nil hm⟩
theorem kx_cons (h : PX X E e ma) (k : KX X E kws mk) : KX X E (⟨nmk, e, kpos⟩ :: kws) (mCons ma mk) := by
  obtain ⟨t, p, ev⟩ := h
  obtain ⟨u, q, f⟩ := k
  refine ⟨_, pk_cons p q, fun W σ H Q δ post ex hs ok hm hq lx => ?_⟩
  refine ev W σ H _ δ _ ex hs ok hm ?_ lx
  intro v H1 d r1 hv hm
  refine f W σ H1 _ δ _ ex (hs.R r1) r1.ok hm ?_ (lx.R r1)
  intro vs H2 ds r2 hvs hp
  exact hq (v :: vs) H2 (d :: ds) (r1.trans r2) (.cons (hv.R r2) hvs) hp
/-- f(a = .., b = ..): all by keywords; perm puts them in the parameters' order -/
structure PermOk (perm : {α : Type} → List α → List α) : Prop where
  vals : ∀ {vs : List V} {us : List Value}, Vals vs us → Vals (perm vs) (perm us)
  das : ∀ {W : Wld} {K : PySem.W.Frag} {H : Hp} {vs : List V} {ds : List D}, Das W K H vs ds → Das W K H (perm vs) (perm ds)
def mCallK (k n : Nat) (perm : {α : Type} → List α → List α) (g : FM) (m : AM) : EM := fun δ post ex => m δ (fun ds => ds.length = k ∧ (perm ds).length = n ∧ g (perm ds) post ex) ex
theorem px_callK {nk n : Nat} (perm : {α : Type} → List α → List α) (po : PermOk perm) (G : Good X.prog X.w X.K X.mg X.base x nm st k ps g) (hr : Room k X.A) (hx : Passes (L2.CX X.prog X.w) X E) (hg : Gl X x) (hkw : KX X E kws mk) (hnk : ks.length = nk := by rfl) (hn : ps.length = n := by rfl)
    (hb : ∀ (kV doc pm : Value) (an : Option Addr) (cdv ct : Value) (ws : List Value), ws.length = ks.length →
      bindArgs (PySem.W.fnOf nm nm (defArgs st) (defBody st) (defScope st) .none kV doc pm an cdv ct) ⟨[], ks.zip ws⟩ = pure (ps.zip (perm ws)))
    (hall : (backToKw pos (keywordEach kws X.env)).all (·.1.isSome) = true := by rfl) (hks : (backToKw pos (keywordEach kws X.env)).filterMap (·.1) = ks := by rfl)
    (hdb : (x == ("__debug__" : Str)) = false := by decide)
    (hpl : ((backTo pos (starEach [] X.env)).any (·.1) || (backToKw pos (keywordEach kws X.env)).any (·.1.isNone)) = false := by rfl) (hlen : ks.length = kws.length := by rfl) :
    PX X E (.Call (.Name x p) [] kws pos) (mCallK nk n perm g mk) := by
  subst hnk hn
  obtain ⟨f, fd, hm, F, _, ok⟩ := G
  obtain ⟨t, q, ev⟩ := hkw
  have kb : KBn X.K fd ps 0 ks (fun us ws => perm ws) (fun vs zs => perm zs) := by
    obtain ⟨oc, od, dV, kV, doc, pm, an, cdv, ct, osl, rfl, lk, hcd, hD, hK⟩ := F.ex
    rcases hD with ⟨_, rfl⟩ | ⟨z, _⟩
    · refine ⟨fun s us ws KI h1 h2 => ?_, fun _ r => po.vals r⟩
      have : us = [] := List.length_eq_zero_iff.mp h1
      subst this
      exact BindsTo.of_eq (hb kV doc pm an cdv ct ws h2)
    · exact absurd rfl z
  refine ⟨_, pe_callN0 ok hr hg hm F.kp kb hx q hall hks hdb hpl, fun W σ H Q δ post ex hs okW hm' hq lx => ?_⟩
  refine ev W σ H _ δ _ ex hs okW hm' ?_ lx
  rintro vs H1 ds r1 hv ⟨hl0, hl, hg⟩
  refine ⟨rfl, hv.length.trans hl0, W, perm ds, post, ex, hs.tb, r1.ok, po.das hv, hl, hg, fun v H' d r hd hp => hq v H' d (r1.trans r) hd hp, lx.R r1⟩
end
end Fw
/-! # FwRun8: errors: raised, told apart, read, caught through a lambda -/
namespace Fw
open PySem PySem.Spec PyProof.Rows L2
open Evl (Ex)
variable [TabsOf]

/-! ## an error with one attribute -/
/-- the error's class n, its attribute f -/
structure ErrDef (P : Program) (w : World) (K : PySem.W.Frag) (mg : Str → Option Value) (base : Heap) (n f : Str) : Prop where
  at_ : mg n = some (.ref (He.ga K n))
  xc : XC K (He.ga K n)
  ini : ∃ fI fd ps, PySem.W.findIn K (.ref (He.ga K n)) "__init__" = some (some (.ref fI)) ∧ PySem.W.typeIn K (.ref fI) = some (.type "function") ∧ Binds K fd ps [] ∧
    FnOk P w K mg base L2.CX0 1 fI fd ps (spXi (He.ga K n) f)
  no : PySem.W.findIn K (.ref (He.ga K n)) f = some none
def sRaise (n f : Str) (m : EM) : SM := fun δ F => m δ (fun d => F.ex (n, [(f, d)])) F.ex
section
variable {X : Cx} {E : XK} {n f : Str} {e : Expr} {m : EM} {p pos pos2 : Pos}
theorem errOut_one {W : Wld} {K : PySem.W.Frag} {H : Hp} {v : V} {d : D} {dx : Addr} (ok : W.ok H) (hd : H dx = none) (hv : Da W K (W.cut H) v d) :
    ErrOut W K H (n, [(f, d)]) (.ref (He.ga K n)) (some dx) (upd H dx (.xd [(f, v)])) := by
  have r : W.R H (upd H dx (.xd [(f, v)])) := R_new ok hd
  exact ⟨r, rfl, [v], .cons (hv.R r) .nil, .inr ⟨dx, rfl, cut_new ok hd fun _ z => nomatch z⟩⟩
theorem sx_raise (D : ErrDef X.prog X.w X.K X.mg X.base n f) (hc : X.calm = true) (tk : Takes X (fun cls d _ H' => E cls d H')) (hr : Room 2 X.A) (hg : Gl X n) (ha : PX X E e m)
    (hdb : (n == ("__debug__" : Str)) = false := by decide) (he : starEach [e] X.env = (false, eval e X.env) :: starEach [] X.env := by rfl) (hpl : (backTo pos (starEach [] X.env)).any (·.1) = false := by rfl) :
    SX X E (.Raise (some (.Call (.Name n p) [e] [] pos)) none pos2) (sRaise n f m) := by
  obtain ⟨fI, fd, ps, iC, tI, hb, F1⟩ := D.ini
  obtain ⟨t, q, ev⟩ := ha
  refine ⟨_, ps_rz1 hc tk D.xc iC tI F1 hr hb pass0 hg D.at_ (pa_cons q pa_nil he) hdb he hpl, fun W σ H Z δ F hs ok hm l => ?_⟩
  refine ev W σ H _ δ _ F.ex hs ok hm ?_ l.ex
  intro v H1 d r1 hv hp
  exact ⟨v, rfl, fun dx hd => (l.ex.R r1) (n, [(f, d)]) _ _ _ (errOut_one r1.ok hd hv) hp⟩
end

/-! ## isinstance(e, C), C an own error -/
/-- what is known of the errors' classes: each of these names stands for one, and which is below which -/
structure Kinds (K : PySem.W.Frag) (mg : Str → Option Value) (ns : List Str) (sub : Str → Str → Bool) : Prop where
  at_ : ∀ n ∈ ns, mg n = some (.ref (He.ga K n))
  xc : ∀ n ∈ ns, XC K (He.ga K n)
  kit : ∀ n ∈ ns, ∀ m ∈ ns, PySem.W.kitOne K (.ref (He.ga K n)) (.ref (He.ga K m)) = some (sub n m)
  non : ∀ m ∈ ns, PySem.W.kitOne K (.type "NoneType") (.ref (He.ga K m)) = some false
def mIsC (ns : List Str) (sub : Str → Str → Bool) (c : Str) (a : EM) : EM := fun δ post ex => a δ (fun d => (d = .non ∧ post (.bl false)) ∨ ∃ n fs, d = .err n fs ∧ n ∈ ns ∧ post (.bl (sub n c))) ex
theorem call_isU {X : Cx} : CallR X (.builtin "isinstance") (fun xs H Q => rIsi X.K xs H Q ∨ rIsV X.K xs H Q) := by
  intro pins s σ H xs us Q I r h
  rcases h with h | h
  · exact call_isi pins s σ H xs us Q I r h
  · exact call_isV pins s σ H xs us Q I r h
section
variable {X : Cx} {E : XK} {ns : List Str} {sub : Str → Str → Bool} {c : Str} {a : Expr} {ma : EM} {p p2 pos : Pos}
theorem px_isC (Ks : Kinds X.K X.mg ns sub) (hc : c ∈ ns) (hg : Gl X "isinstance") (hm : X.mg "isinstance" = none) (hgc : Gl X c) (ha : PX X E a ma)
    (st : starEach [a, .Name c p2] X.env = (false, eval a X.env) :: starEach [.Name c p2] X.env := by rfl)
    (st2 : starEach [.Name c p2] X.env = (false, eval (.Name c p2) X.env) :: starEach [] X.env := by rfl)
    (hdc : (c == ("__debug__" : Str)) = false := by decide)
    (hpl : (backTo pos (starEach [.Name c p2] X.env)).any (·.1) = false := by rfl) :
    PX X E (.Call (.Name "isinstance" p) [a, .Name c p2] [] pos) (mIsC ns sub c ma) := by
  obtain ⟨t, q, ev⟩ := ha
  refine ⟨_, pe_callB call_isU hg hm (by decide +kernel) (pa_cons q (pa_cons (pe_glob hgc (Ks.at_ c hc) (v := .ref (He.ga X.K c)) rfl (hd := hdc)) pa_nil st2) st) (by decide) (by decide) st hpl, fun W σ H Q δ post ex hs ok hm hq lx => ?_⟩
  refine ev W σ H _ δ _ ex hs ok hm ?_ lx
  rintro v H1 d r1 hv (⟨rfl, hp⟩ | ⟨n, fs, rfl, hn, hp⟩)
  · cases hv
    exact .inl ⟨.non, .ref (He.ga X.K c), _, _, false, rfl, .own _, .base .non, Ks.non c hc, hq _ H1 _ r1 (.bl _) hp⟩
  · cases hv with
    | err h r =>
      refine .inr ⟨_, _, _, _, .ref (He.ga X.K c), .ref (He.ga X.K c), _, rfl, h.up cut_sub, (Ks.xc n hn).is, fun u hu => hu, Ks.kit n hn c hc, hq _ H1 _ r1 (.bl _) hp⟩
/-- e.f -/
def mExF (ns : List Str) (f : Str) (a : EM) : EM := fun δ post ex => a δ (fun d => ∃ n fs x, d = .err n fs ∧ n ∈ ns ∧ fs.lookup f = some x ∧ post x) ex
theorem look_cons {α : Type} (f g : Str) (y : α) (fs : List (Str × α)) : ((f, y) :: fs).lookup g = if g = f then some y else fs.lookup g := by
  by_cases h : g = f
  · subst h
    simp [List.lookup]
  · have e : (g == f) = false := by simpa using h
    rw [if_neg h]
    simp [List.lookup, e]
theorem zip_look {W : Wld} {K : PySem.W.Frag} {H : Hp} {f : Str} {x : D} : ∀ {fs : List (Str × D)} {xs : List V}, Das W K H xs (fs.map (·.2)) → fs.lookup f = some x → ∃ v, ((fs.map (·.1)).zip xs).lookup f = some v ∧ Da W K H v x
  | [], _, _, e => by cases e
  | (g, y) :: fs, _, .cons (v := v) (vs := vs) h r, e => by
    rw [look_cons] at e
    show ∃ u, ((g, v) :: (fs.map (·.1)).zip vs).lookup f = some u ∧ _
    by_cases hf : f = g
    · rw [if_pos hf] at e
      cases e
      exact ⟨v, by rw [look_cons, if_pos hf], h⟩
    · rw [if_neg hf] at e
      obtain ⟨u, h1, h2⟩ := zip_look r e
      exact ⟨u, by rw [look_cons, if_neg hf]; exact h1, h2⟩
theorem px_exf {f : Str} (Ks : Kinds X.K X.mg ns sub) (hno : ∀ n ∈ ns, ∀ fs : List (Str × D), (fs.lookup f).isSome = true → PySem.W.findIn X.K (.ref (He.ga X.K n)) f = some none) (ha : PX X E a ma)
    (hb : attributeBase a f X.env (eval a X.env) = eval a X.env := by rfl) : PX X E (.Attribute a f pos) (mExF ns f ma) := by
  obtain ⟨t, q, ev⟩ := ha
  refine ⟨_, pe_exf q hb, fun W σ H Q δ post ex hs ok hm hq lx => ?_⟩
  refine ev W σ H _ δ _ ex hs ok hm ?_ lx
  rintro v H1 d r1 hv ⟨n, fs, x, rfl, hn, hl, hp⟩
  cases hv with
  | @err _ dd _ xs _ h r =>
    obtain ⟨u, h1, h2⟩ := zip_look r hl
    have h' := h.up cut_sub
    rcases h'.dict with ⟨_, z⟩ | ⟨d2, rfl, z⟩
    · rw [z] at h1
      cases h1
    · exact ⟨_, _, d2, _, u, rfl, h', (Ks.xc n hn).xf, hno n hn fs (by rw [hl]; rfl), h1, hq u H1 x r1 h2 hp⟩
end

/-! ## _law_caught(lambda: e) -/
/-- what the def makes of what it got: None, or the error -/
def TCaught (K : PySem.W.Frag) (CW : Addr) : (XK → Hp → VK → Prop) → Hp → VK → Prop := fun tl H Q =>
  tl (fun cls d H' => PySem.W.exmOne K cls (.ref CW) = some true ∧ ∀ a, H' a = none → Q (.ref a) (upd H' a (ExV cls d a))) H (fun _ H' => ∃ v : V, ([some V.non] : List (Option V))[0]? = some (some v) ∧ Q v H')
/-- work, caught = None; try: work() / except C as error: caught = error; return caught -/
theorem caught_gives {X : Cx} {x q : Str} {sg : Scope} {g CW : Addr} {cdg : Value} {c : Str} {j : Nat} {p1 p2 p3 p4 p5 p6 p7 p8 p9 p10 p11 p12 p13 p14 : Pos}
    (hge : sg.names.lookup c = some .globalImplicit) (hme : X.mg c = some (.ref CW)) (hde : (c == ("__debug__" : Str)) = false)
    (hct : sg.names.lookup ("caught" : Str) = some .local) (her : sg.names.lookup ("error" : Str) = some .local) :
    LamX.GivesTo X ["work", "caught", "error"] x sg g cdg [.Assign [.Name "caught" p1] (.Constant .none j p2) p3,
      .Try [.Expr (.Call (.Name "work" p4) [] [] p5) p6] [.ExceptHandler (some (.Name c p7)) (some "error") [.Assign [.Name "caught" p8] (.Name "error" p9) p10] p11] [] [] p12,
      .Return (some (.Name "caught" p13)) p14] "work" q (TCaught X.K CW) := by
  intro f c' s H Q tl act hc h
  have nd : (["work", "caught", "error"] : List Str).Nodup := by decide +kernel
  refine ⟨_, pss_cons (ps_set (i := 1) nd rfl (.inl hct) pe_non (hf := .inl rfl))
    (pss_cons (ps_try_keep (X := (cxOf C8.CX0 X.prog X.w X.K X.mg X.base ["work", "caught", "error"] x sg g cdg X.A X.stack s H C8.E0).nox) (i := 2) (j := 1) (c := .ref CW)
      (tb := fun W D σ H => ∃ Ech : XK, (∀ cls d σ' H', Ech cls d H' → W cls d σ' H') ∧ σ = [some (.ref f), some .non, none] ∧ H c' = some (LamX.CodeO c' q) ∧ tl Ech H (fun _ H' => D.nx σ H'))
      rfl rfl rfl nd rfl her rfl hct ⟨hge, hde, .inl hme⟩ (by decide) (by decide) (fun W pn xe tk _ => ?_))
    (pss_one (ps_ret (pe_var (i := 1) rfl (.inl hct) (by decide) (by decide))))), ?_⟩
  · refine ⟨fun pins s' σ H' D I h' => ?_⟩
    obtain ⟨Ech, hW, h1, h2, h3⟩ := h'
    have hp := act W pn xe Ech p4 p5 tk hW
    have hq := pss_one (ps_expr (pos := p6) hp (by rfl))
    subst h1
    exact hq.run pins s' _ H' D I ⟨rfl, h2, h3⟩
  · refine ⟨fun cls d H' => PySem.W.exmOne X.K cls (.ref CW) = some true ∧ ∀ a, H' a = none → Q (.ref a) (upd H' a (ExV cls d a)), ?_, rfl, hc, ?_⟩
    · rintro cls d σ' H' ⟨e1, e2⟩
      refine ⟨e1, fun hl a ha => ?_⟩
      refine ⟨.ref a, ?_, e2 a ha⟩
      match σ', hl with
      | [_, _, _], _ => rfl
    · exact h

/-- what is caught, over data: the errors' classes are among ns -/
def mCaught (ns : List Str) (m : EM) : EM := fun δ post _ => m δ (fun _ => post .non) (fun x => x.1 ∈ ns ∧ post (.err x.1 x.2))
theorem extN_R {W : Wld} {H H' : Hp} (ok : W.ok H) (e : LamX.ExtN H H') (t : LamX.Tabs W.tb H') : W.R H H' := by
  refine ⟨⟨fun d l c hd => ?_, t, fun q hq => e _ _ (ok.own q hq) (ok.ownO q hq).tb, ok.sep, ok.ownO⟩, fun a o h => ?_⟩
  · obtain ⟨r, t, lg, h1, h2, h3, h4, h5, h6, h7⟩ := ok.dr d l c hd
    exact ⟨r, t, lg, e _ _ h1 (fun _ z => nomatch z), h2, h3, e _ _ h4 (fun _ z => nomatch z), h5, e _ _ h6 (fun _ z => nomatch z), h7⟩
  · unfold Wld.cut at h ⊢
    split at h
    · cases h
    · rename_i hm
      rw [if_neg hm]
      split at h
      · cases h
      · rename_i nt
        rw [e _ _ h fun ps z => nt ps (by rw [h, z])]
        split
        · rename_i ps z
          cases z
          exact absurd h (nt ps)
        · rfl
section
variable {X : Cx} {E : XK} {x : Str} {st : Stmt} {g CW c P : Addr} {cn : Str} {k : Nat} {fd : FuncData} {ns : List Str} {params : Arguments} {body : Expr} {scope : Scope} {m : EM} {p lpos pos : Pos}
theorem px_caught (hg : Gl X x) (hm : X.mg x = some (.ref g)) (F : FunD X.K x x (defArgs st) (defBody st) (defScope st) [] [] g fd) (hb : Binds X.K fd ["work"] []) (S : FnScope ["work", "caught", "error"] ["work"] (defScope st))
    (hva : Vis (defScope st) ("work" : Str)) (hG : ∀ (cdg : Value) (q : Str), LamX.GivesTo X ["work", "caught", "error"] x (defScope st) g cdg (defBody st) "work" q (TCaught X.K CW))
    (hex : ∀ n ∈ ns, PySem.W.exmOne X.K (.ref (He.ga X.K n)) (.ref CW) = some true)
    (TB : LamX.TabB X.base X.mg c P) (hcode : X.env.code = .ref c) (hmT : (P, X.env.qual ++ "<lambda>") ∈ TabsOf.tb X.K) (hu : ∀ p ∈ TabsOf.tb X.K, p.1 = P → p.2 = X.env.qual ++ "<lambda>")
    (hr : Room (k + 2) X.A) (L : LamX.LamS X.env.scope scope)
    (hbody : ∀ (A : Around) (outer : List PySem.Env) (s : Shared) (H : Hp) (E' : XK) (f c' : Addr), Room k (A.deeper (LamX.lamEnv X scope s.heap.objs.size f c')) → PX (LamX.lamCx X A outer s H E' scope f c') E' body m)
    (hdef : defaultsOf params X.env = ([], []) := by rfl)
    (hbind : ∀ (q : Str) (cl : List (Str × Addr)) (pm cv ctv : Value), bindArgs (PySem.W.kla_fn "<lambda>" q params body scope cl pm cv ctv) ⟨[], []⟩ = pure [] := by intros; rfl)
    (hdb : (x == ("__debug__" : Str)) = false := by decide) :
    PX X E (.Call (.Name x p) [.Lambda params body scope lpos] [] pos) (mCaught ns m) := by
  obtain ⟨oc, od, dV, kV, doc, pm, an, cdv, ct, osl, rfl, lk, hcd, hD, hK⟩ := F.ex
  refine ⟨_, LamX.pe_lamcall (Ng := ["work", "caught", "error"]) (T := TabsOf.tb X.K) (t := fun E' => tS X.K E' m) (TT := TCaught X.K CW) hg hm F.kp lk hcd hb S rfl hva (hG cdv _) TB hcode hmT hu hr L hdef hbind
    (fun A outer s H E' f c' hr2 => px_star (hbody A outer s H E' f c' hr2)) hdb (by decide) (by decide), fun W σ H Q δ post ex hs ok hmm hq lx => ?_⟩
  refine ⟨by rw [← hs.tb]; exact ok.tb, fun H1 e1 t1 => ?_⟩
  have r1 : W.R H H1 := extN_R ok e1 (by rw [hs.tb]; exact t1)
  refine ⟨W, δ, _, _, hs.R r1, r1.ok, hmm, ?_, ?_⟩
  · intro v H' d r2 hv hp
    exact ⟨.non, rfl, hq .non H' .non (r1.trans r2) .non hp⟩
  · rintro ⟨n, fs⟩ C d H' ⟨r2, rfl, xs, hda, hdd⟩ ⟨hn, hp⟩
    refine ⟨hex n hn, fun a ha => ?_⟩
    have r3 : W.R H' (upd H' a (ExV (.ref (He.ga X.K n)) d a)) := R_new r2.ok ha
    refine hq (.ref a) _ (.err n fs) ((r1.trans r2).trans r3) (.err (dd := d) ⟨cut_new r2.ok ha (fun _ z => nomatch z), ?_⟩ (hda.R r3)) hp
    rcases hdd with ⟨rfl, e⟩ | ⟨dd, rfl, e⟩
    · left
      have e : fs = [] := e
      subst e
      exact ⟨rfl, rfl⟩
    · right
      exact ⟨dd, rfl, r3.ex _ _ e⟩
end
end Fw
/-! # FwDraw: what a law draws: any int that may come -/
namespace Fw
open PySem PySem.Spec PyProof.Rows L2
open Evl (Ex)
variable [TabsOf]

/-! ## the draw changes, all else stays -/
section
variable {W : Wld} {H : Hp} {d l c : Addr}
theorem R_upd (ok : W.ok H) (hd : W.dr = some (d, l, c)) {a : Addr} (ha : a = d ∨ a = l) {o : HO} (hk : DrawOk (upd H a o) d l c W.cells) : W.R H (upd H a o) := by
  obtain ⟨r, t, lg, h1, h2, h3, h4, h5, h6, h7, h8⟩ := ok.dr d l c hd
  have aM : a ∈ W.M := List.mem_append_right _ (by
    rw [hd]
    rcases ha with rfl | rfl
    · exact List.mem_cons_self
    · exact List.mem_cons_of_mem _ List.mem_cons_self)
  have an : ∀ {ps : Array Value}, H a ≠ some (.tbl ps) := by
    intro ps z
    rcases ha with rfl | rfl
    · rw [h1] at z
      cases z
    · rw [h4] at z
      cases z
  have ac : ∀ {b : Addr} {q : Str}, H a ≠ some (LamX.CodeO b q) := by
    intro b q z
    rcases ha with rfl | rfl
    · rw [h1] at z
      have z : HO.dK (drK l c r t) = LamX.CodeO b q := Option.some.inj z
      cases z
    · rw [h4] at z
      have z : HO.lst (lg.map V.int) = LamX.CodeO b q := Option.some.inj z
      cases z
  refine ⟨⟨fun d' l' c' hd' => ?_, fun q hq => ?_, fun q hq => ?_, ok.sep, ok.ownO⟩, ?_⟩
  · rw [hd] at hd'
    cases hd'
    exact hk
  · obtain ⟨ps, a1, a2, a3⟩ := ok.tb q hq
    refine ⟨ps, by rw [upd_ne fun z => an (by rw [← z]; exact a1)]; exact a1, a2, fun pos cv hc => ?_⟩
    obtain ⟨c, e1, e2⟩ := a3 pos cv hc
    exact ⟨c, e1, by rw [upd_ne fun z => ac (by rw [← z]; exact e2)]; exact e2⟩
  · have : q.1 ≠ a := by
      rintro rfl
      have z := ok.sep q hq
      rw [hd] at z
      rcases ha with h | h
      · exact z (by rw [h]; exact List.mem_cons_self)
      · exact z (by rw [h]; exact List.mem_cons_of_mem _ List.mem_cons_self)
    rw [upd_ne this]
    exact ok.own q hq
  · have : W.cut (upd H a o) = W.cut H := by
      funext b
      unfold Wld.cut
      by_cases hb : b ∈ W.M
      · rw [if_pos hb, if_pos hb]
      · rw [if_neg hb, if_neg hb, upd_ne fun z => hb (by rw [z]; exact aM)]
    rw [this]
    exact Ex.refl _
/-- the dict's numbers change -/
theorem R_num (ok : W.ok H) (hd : W.dr = some (d, l, c)) {r t : Int} (hr : 0 ≤ r) (ht : 0 ≤ t) : W.R H (upd H d (.dK (drK l c r t))) := by
  refine R_upd ok hd (.inl rfl) ?_
  obtain ⟨r', t', lg, h1, h2, h3, h4, h5, h6, h7, h8⟩ := ok.dr d l c hd
  have nl : l ≠ d := by
    rintro rfl
    rw [h1] at h4
    cases h4
  have nc : c ≠ d := by
    rintro rfl
    rw [h1] at h6
    cases h6
  exact ⟨r, t, lg, upd_same, hr, ht, by rw [upd_ne nl]; exact h4, h5, by rw [upd_ne nc]; exact h6, h7, h8⟩
/-- what is large loses its first -/
theorem R_pop (ok : W.ok H) (hd : W.dr = some (d, l, c)) {x : Int} {lg : List Int} (hl : H l = some (.lst ((x :: lg).map V.int))) (hn : ∀ y ∈ lg, 0 ≤ y) : W.R H (upd H l (.lst (lg.map V.int))) := by
  refine R_upd ok hd (.inr rfl) ?_
  obtain ⟨r', t', lg', h1, h2, h3, h4, h5, h6, h7, h8⟩ := ok.dr d l c hd
  have nd : d ≠ l := by
    rintro rfl
    rw [h1] at h4
    cases h4
  exact ⟨r', t', lg, by rw [upd_ne nd]; exact h1, h2, h3, upd_same, hn, by rw [upd_ne (Ne.symm h8)]; exact h6, h7, h8⟩
end

section
variable {X : Cx} {E : XK} {a b e : Expr} {ma mb me : EM} {k j : Nat} {p2 pos : Pos}
theorem room1 {A : Around} (hr : Room k A) : A.units + 1 < cLine := by
  have := room64 hr
  omega
theorem val_rest {l c : Addr} {r t : Int} : valV (drK l c r t) (.inr "rest") = some (.int r) := by rfl
theorem val_turn {l c : Addr} {r t : Int} : valV (drK l c r t) (.inr "turn") = some (.int t) := by rfl
theorem val_large {l c : Addr} {r t : Int} : valV (drK l c r t) (.inr "large") = some (.ref l) := by rfl
theorem val_cells {l c : Addr} {r t : Int} : valV (drK l c r t) (.inr "cells") = some (.ref c) := by rfl
theorem put_rest {l c : Addr} {r t i : Int} : putK (drK l c r t) (.inr "rest") (.int i) = drK l c i t := by rfl
theorem put_turn {l c : Addr} {r t i : Int} : putK (drK l c r t) (.inr "turn") (.int i) = drK l c r i := by rfl
theorem dget_at {H : Hp} {a : Addr} {kvs : List (Key × V)} {q : Str} {v : V} (e : H a = some (.dK kvs)) (h : valV kvs (.inr q) = some v) : DGet H a (.str q) (some v) := by
  rw [← h]
  exact DGet.k (k := .inr q) e
theorem dput_at {H : Hp} {a : Addr} {kvs kvs' : List (Key × V)} {q : Str} {v : V} (e : H a = some (.dK kvs)) (hl : kvs.length < 16777216) (h : putK kvs (.inr q) v = kvs') : DPut H a (.str q) v (upd H a (.dK kvs')) := by
  rw [← h]
  exact DPut.k (k := .inr q) e (by rw [sizeLine_eq]; exact hl)

/-! ## draw['rest'], draw['turn'] -/
def mDrI (a : EM) : EM := fun δ post ex => a δ (fun d => d = .drw ∧ ∀ n : Int, 0 ≤ n → post (.int n)) ex
theorem px_drInt {key : Str} (hk : key = "rest" ∨ key = "turn") (hr : Room k X.A) (ha : PX X E a ma) (hs : NoSl (.Constant (.str key) j p2) := by intro _ _; rfl) :
    PX X E (.Subscript a (.Constant (.str key) j p2) pos) (mDrI ma) := by
  obtain ⟨t, p, ev⟩ := ha
  refine ⟨_, pe_dget (room1 hr) p pe_str hs, fun W σ H Q δ post ex hs ok hm hq lx => ?_⟩
  refine ev W σ H _ δ _ ex hs ok hm ?_ lx
  rintro v H1 d r1 hv ⟨rfl, hp⟩
  cases hv with
  | @drw dd l c hd =>
    obtain ⟨r, t, lg, h1, h2, h3, _⟩ := r1.ok.dr _ _ _ hd
    rcases hk with rfl | rfl
    · exact ⟨dd, .int r, rfl, dget_at h1 val_rest, hq _ H1 _ r1 (.int r) (hp r h2)⟩
    · exact ⟨dd, .int t, rfl, dget_at h1 val_turn, hq _ H1 _ r1 (.int t) (hp t h3)⟩

/-! ## draw['rest'] = n -/
def sDrPut (a e : EM) : SM := fun δ F => e δ (fun n => ∃ i, n = .int i ∧ 0 ≤ i ∧ a δ (fun d => d = .drw ∧ F.nx δ) F.ex) F.ex
theorem sx_drPut {key : Str} {p3 : Pos} (hk : key = "rest" ∨ key = "turn") (hr : Room k X.A) (ha : PX X E a ma) (he : PX X E e me)
    (hs : swapsWith e (some (.Subscript a (.Constant (.str key) j p2) p3)) pos.line X.env = pure false := by rfl) :
    SX X E (.Assign [.Subscript a (.Constant (.str key) j p2) p3] e pos) (sDrPut ma me) := by
  obtain ⟨t, p, ev⟩ := ha
  obtain ⟨u, q, ew⟩ := he
  refine ⟨_, ps_dput (room1 hr) p pe_str q hs, fun W σ H Z δ F hsl ok hm l => ?_⟩
  refine ew W σ H _ δ _ F.ex hsl ok hm ?_ l.ex
  rintro v H1 n r1 hv ⟨i, rfl, hi, hm⟩
  cases hv
  refine ev W σ H1 _ δ _ F.ex (hsl.R r1) r1.ok hm ?_ (l.ex.R r1)
  rintro v H2 d r2 hv ⟨rfl, hp⟩
  cases hv with
  | @drw dd l0 c hd =>
    obtain ⟨r, t, lg, h1, h2, h3, _⟩ := r2.ok.dr _ _ _ hd
    rcases hk with rfl | rfl
    · have r3 := R_num r2.ok hd hi h3
      exact ⟨dd, _, rfl, dput_at h1 (by show 4 < 16777216; decide) put_rest, l.nx _ _ _ ((r1.trans r2).trans r3) (hsl.R ((r1.trans r2).trans r3)) hp⟩
    · have r3 := R_num r2.ok hd h2 hi
      exact ⟨dd, _, rfl, dput_at h1 (by show 4 < 16777216; decide) put_turn, l.nx _ _ _ ((r1.trans r2).trans r3) (hsl.R ((r1.trans r2).trans r3)) hp⟩

/-! ## for grain in draw['cells'] -/
def iDrC (a : EM) : IM := fun δ post ex => a δ (fun d => d = .drw ∧ ∀ cs : List Int, (∀ x ∈ cs, 0 ≤ x) → post (cs.map D.int)) ex
theorem src_cells {W : Wld} {K : PySem.W.Frag} {H0 : Hp} {d l c : Addr} (hd : W.dr = some (d, l, c)) : Src W K (Itl K c) (W.cells.map D.int) H0 := by
  intro W' H sm ok e
  obtain ⟨r, t, lg, _, _, _, _, _, h6, _⟩ := ok.dr d l c (sm.dr.trans hd)
  rw [sm.cells] at h6
  have h1 : SqL K H c (W.cells.map V.int) := Evl.sq_of h6
  refine ⟨fun i d hd => ?_, fun i hi => ⟨_, h1, by rw [List.length_map] at hi ⊢; exact hi⟩⟩
  rw [List.getElem?_map] at hd
  obtain ⟨n, hn, rfl⟩ := Option.map_eq_some_iff.mp hd
  have hv : (W.cells.map V.int)[i]? = some (.int n) := by rw [List.getElem?_map, hn]; rfl
  refine ⟨⟨_, _, h1, hv⟩, fun x H' => ?_⟩
  rintro ⟨rfl, hx⟩
  have := hx _ h1
  rw [hv] at this
  cases this
  exact ⟨.refl ok, .int n⟩
theorem ix_drC {tg : Expr} (hr : Room k X.A) (ha : PX X E a ma) (hs : NoSl (.Constant (.str "cells") j p2) := by intro _ _; rfl) :
    IX X E tg (.Subscript a (.Constant (.str "cells") j p2) pos) (iDrC ma) := by
  obtain ⟨t, p, ev⟩ := ha
  refine ⟨_, pi_seq (pe_dget (room1 hr) p pe_str hs), fun W σ H R δ post ex hs ok hm hq lx => ?_⟩
  refine ev W σ H _ δ _ ex hs ok hm ?_ lx
  rintro v H1 d r1 hv ⟨rfl, hp⟩
  cases hv with
  | @drw dd l c hd =>
    obtain ⟨r, t, lg, h1, _, _, _, _, h6, h7, _⟩ := r1.ok.dr _ _ _ hd
    exact ⟨dd, .ref c, rfl, dget_at h1 val_cells, c, rfl, .inl ⟨⟨_, Evl.sq_of h6⟩, hq _ _ _ r1 (src_cells hd) (hp _ h7)⟩⟩

/-! ## draw['large'].pop(0) if draw['large'] != [] else e -/
theorem ints_pd : ∀ (ns : List Int), pds (ns.map D.int) = true ∧ PyData.depthAll (toPs (ns.map D.int)) = 0
  | [] => ⟨rfl, rfl⟩
  | n :: ns => by
    obtain ⟨h1, h2⟩ := ints_pd ns
    refine ⟨?_, ?_⟩
    · show (pd (.int n) && pds (ns.map D.int)) = true
      rw [h1]
      rfl
    · show max (PyData.depth (toP (.int n))) (PyData.depthAll (toPs (ns.map D.int))) = 0
      rw [h2]
      rfl
theorem ints_ok (ns : List Int) : eqOk (.lst (ns.map D.int)) := by
  obtain ⟨h1, h2⟩ := ints_pd ns
  refine ⟨h1, ?_⟩
  show PyData.depthAll (toPs (ns.map D.int)) + 1 ≤ 64
  rw [h2]
  decide
theorem ints_da {W : Wld} {K : PySem.W.Frag} {H : Hp} : ∀ (ns : List Int), Das W K H (ns.map V.int) (ns.map D.int)
  | [] => .nil
  | n :: ns => .cons (.int n) (ints_da ns)
def mDrPop (i : Nat) (b : EM) : EM := fun δ post ex => δ[i]? = some (some .drw) ∧ (∀ n : Int, 0 ≤ n → post (.int n)) ∧ b δ post ex
theorem px_drPop (i : Nat) {x : Str} {p0 p0' p1 p2' p3 p4 p5 p6 p7 p8 : Pos} {j3 j' : Nat} (hr : Room k X.A) (hb : PX X E b mb) (hN : X.N[i]? = some x := by rfl)
    (hv : Vis X.env.scope x := by first | exact Or.inl rfl | exact Or.inr (Or.inl rfl) | exact Or.inr (Or.inr rfl))
    (hd : (x == ("__debug__" : Str)) = false := by decide) (hcd : (x == ("__classdict__" : Str)) = false := by decide)
    (hbase : attributeBase (.Subscript (.Name x p0') (.Constant (.str "large") j' p2') p3) "pop" X.env (eval (.Subscript (.Name x p0') (.Constant (.str "large") j' p2') p3) X.env) = eval (.Subscript (.Name x p0') (.Constant (.str "large") j' p2') p3) X.env := by rfl)
    (hfew : ((backTo p6 (starEach [.Constant (.int 0) j3 p5] X.env)).all (fun x => !x.1) && (backToKw p6 (keywordEach [] X.env)).all (fun x => x.1.isSome)
      && decide (([.Constant (.int 0) j3 p5] : List Expr).length + ([] : List Keyword).length + (if ([] : List Keyword).isEmpty then 0 else 1) < 30)) = true := by rfl)
    (hline : (p4.endLine == p6.line) = true := by rfl) (hs : ∀ j p2, NoSl (.Constant (.str "large") j p2) := by intro _ _ _ _; rfl) :
    PX X E (.IfExp (.Compare (.Subscript (.Name x p0) (.Constant (.str "large") j p2) p1) [.NotEq] [.List [] p7] p8)
      (.Call (.Attribute (.Subscript (.Name x p0') (.Constant (.str "large") j' p2') p3) "pop" p4) [.Constant (.int 0) j3 p5] [] p6) b pos) (mDrPop i mb) := by
  obtain ⟨u, q, ew⟩ := hb
  have P1 : ∀ j p2 q q', PE X (.Subscript (.Name x q') (.Constant (.str "large") j p2) q) (tDGet (tVar i) (tC (.str "large"))) := fun j p2 q q' => pe_dget (room1 hr) (pe_var hN hv hd hcd) pe_str (hs j p2)
  refine ⟨_, pe_ifExp (pt_cmpR (op_neD (room64 hr)) (P1 j p2 p1 p0) (pe_lst pa_nil) (by first | rfl | exact nomark _))
    (pe_bm PySem.F.plainAttrs_list PySem.F.slot_list_pop PySem.F.type_list_pop mt_popAt (P1 j' p2' p3 p0') (pa_cons pe_int pa_nil rfl) hbase hfew hline rfl rfl) q, fun W σ H Q δ post ex hs ok hm hq lx => ?_⟩
  obtain ⟨hm, hp, hpb⟩ := hm
  obtain ⟨v, h1, hv⟩ := hs.at_ i .drw hm
  cases hv with
  | @drw dd l c hd =>
    obtain ⟨r, t, lg, g1, g2, g3, g4, g5, g6, g7, g8⟩ := ok.dr _ _ _ hd
    refine ⟨_, h1, dd, .ref l, rfl, dget_at g1 val_large, ?_⟩
    refine ⟨by rw [sizeLine_eq]; decide, fun e0 he0 => ?_⟩
    have r2 : W.R H (upd H e0 (.lst [])) := R_new ok he0
    have nl : l ≠ e0 := by
      rintro rfl
      rw [g4] at he0
      cases he0
    have nd : dd ≠ e0 := by
      rintro rfl
      rw [g1] at he0
      cases he0
    have h4' : upd H e0 (.lst []) l = some (.lst (lg.map V.int)) := by rw [upd_ne nl]; exact g4
    refine ⟨_, _, da_dp (W := W) (d := .lst (lg.map D.int)) (ints_ok lg).1 (.lst h4' (ints_da lg)), da_dp (W := W) (d := .lst []) rfl (.lst upd_same .nil), shaped_of (ints_ok lg), shaped_of (d := .lst []) ⟨rfl, by decide⟩, _, rfl, ?_⟩
    cases lg with
    | nil =>
      show u σ _ Q
      exact ew W σ _ Q δ post ex (hs.R r2) r2.ok hpb (fun v H' d r => hq v H' d (r2.trans r)) (lx.R r2)
    | cons y lg =>
      have r3 := R_pop r2.ok hd h4' fun z hz => g5 z (List.mem_cons_of_mem _ hz)
      show tBM X.K "list" rPopAt (tDGet (tVar i) (tC (.str "large"))) (tCons (tC (.int 0)) tNil) σ _ Q
      refine ⟨_, h1, dd, .ref l, rfl, dget_at (by rw [upd_ne nd]; exact g1) val_large, .inl ⟨rfl, _, Evl.sq_of h4'⟩, ?_⟩
      refine ⟨l, (y :: lg).map V.int, 0, 0, .int y, rfl, rfl, h4', by decide, by decide, ?_, rfl, ?_⟩
      · show seqIndex? 0 (lg.map V.int).length.succ = some 0
        unfold seqIndex?
        simp
      · exact hq _ _ _ (r2.trans r3) (.int y) (hp y (g5 y List.mem_cons_self))
end
end Fw
/-! # FwMiss: a tuple sought in a dict whose keys are ints and texts: it is not there -/
namespace Fw
open PySem PySem.Spec PyProof.Rows L2
section
variable {prog : Program} {w : World} {A : Around} {E : Value → Shared → Prop} {s : Shared}
/-- the keys are ints and texts -/
def LowKeys (h : Heap) (es : Array DictEntry) : Prop := ∀ e ∈ es, carriedByValue e.key = true ∧ ∃ nk : NestedKey, NestedIs h nk e.key ∧ ∀ ks, nk ≠ .tup ks
theorem lowKeys_of {h : Heap} {es : Array DictEntry} (k : KeysOf (mixKind prog w) es) : LowKeys h es := by
  intro e he
  obtain ⟨k, hk, _⟩ := k e he
  rcases keyIs_shape hk with ⟨i, t, _, e2⟩ | ⟨x, t, _, e2⟩
  · rw [e2]
    exact ⟨rfl, .num i, .int i t, fun _ z => nomatch z⟩
  · rw [e2]
    exact ⟨rfl, .text x, .text x t, fun _ z => nomatch z⟩
theorem tell_miss {a : Addr} {ks : List NestedKey} {stored : List Value} {Q : Bool → Shared → Prop} (hk : NestedIs s.heap (.tup ks) (.ref a)) (hd : NestedKey.depth (.tup ks) ≤ 8)
    (hst : ∀ v ∈ stored, carriedByValue v = true) (h : Q false s) : wpAny (model prog w) A (tableMayTell (.ref a) stored) Q E s := by
  unfold tableMayTell
  split
  · exact wpAny_pure h
  · refine wpAny_bind (quiet_key _ _ 8 s hk hd A E _ ?_)
    simp only [Bool.not_true, Bool.false_eq_true, if_false]
    refine wpAny_bind ?_
    refine wpAny_forIn_list _ (fun rest r s' => s' = s ∧ r = (none, ()) ∧ ∀ v ∈ rest, carriedByValue v = true) _ ?_ ?_ _ _ ⟨rfl, rfl, hst⟩
    · rintro x rest r s' ⟨rfl, rfl, hr⟩
      refine wpAny_bind ?_
      rw [eqIsQuiet_byValue 8 (hr x List.mem_cons_self)]
      refine wpAny_pure ?_
      simp only [Bool.not_true, Bool.false_eq_true, if_false]
      exact wpAny_pure ⟨rfl, rfl, fun v hv => hr v (List.mem_cons_of_mem _ hv)⟩
    · rintro r s' ⟨rfl, rfl, _⟩
      exact wpAny_pure h
theorem find_miss {d a : Addr} {o : Obj} {es ep} {ks : List NestedKey} {hh : Int} {Q : Option Nat → Shared → Prop} (hu : A.units + 8 < cLine)
    (hk : NestedIs s.heap (.tup ks) (.ref a)) (hdp : NestedKey.depth (.tup ks) ≤ 8) (ho : s.heap.get? d = some o) (hd : o.data = .dict es ep) (lk : LowKeys s.heap es) (h : Q none s) :
    wpAny (model prog w) A (dictFind d (.ref a) hh) Q E s := by
  have hany : ¬ (es.any fun e => e.key == Value.ref a && e.hash != hh) = true := by
    rw [← Array.any_toList, List.any_eq_true]
    rintro ⟨e, hin, hc⟩
    have := (lk e (Array.mem_toList_iff.mp hin)).1
    simp only [Bool.and_eq_true, beq_iff_eq] at hc
    rw [hc.1] at this
    cases this
  have hst : ∀ v ∈ (placesWithHash es.size (fun i => es[i]?.map (·.hash)) hh).filterMap (fun i => es[i]?.map (·.key)), carriedByValue v = true := by
    intro v hv
    obtain ⟨i, _, hi⟩ := List.mem_filterMap.mp hv
    cases hei : es[i]? with
    | none => rw [hei] at hi; cases hi
    | some e =>
      rw [hei] at hi
      obtain rfl : e.key = v := by simpa using hi
      exact (lk e (Array.mem_of_getElem? hei)).1
  unfold dictFind
  try with_reducible refine wpAny_holding ?_
  refine wpAny_bind (wpAny_dictEntries ho hd ?_)
  dsimp only
  rw [if_neg (show ¬ ((Value.ref a :: (placesWithHash es.size (fun i => es[i]?.map (·.hash)) hh).filterMap (fun i => es[i]?.map (·.key))).all carriedByValue) = true by simp [carriedByValue])]
  rw [if_neg hany]
  by_cases hone : (((placesWithHash es.size (fun i => es[i]?.map (·.hash)) hh).filterMap (fun i => es[i]?.map (·.key))) == [Value.ref a]) = true <;>
  (first | rw [if_pos hone] | rw [if_neg hone]) <;> (first | refine wpAny_bind (wpAny_pure ?_) | refine wpAny_bind (tell_miss hk hdp hst ?_)) <;> (
    rw [if_neg (by simp)]
    refine wpAny_bind ?_
    refine wpAny_forIn_list _ (fun rest b s' => s' = s ∧ b = (none, none)) _ ?_ ?_ _ _ ⟨rfl, rfl⟩
    · rintro x rest b s' ⟨rfl, rfl⟩
      cases hex : es[x]? with
      | none => exact wpAny_pure ⟨rfl, rfl⟩
      | some e =>
        dsimp only
        by_cases hq : (e.hash == hh) = true
        · rw [if_pos hq]
          obtain ⟨_, nk, hn, hne⟩ := lk e (Array.mem_of_getElem? hex)
          have hb : NestedKey.beq nk (.tup ks) = false := by
            rw [← NestedKey.decide_eq]
            exact decide_eq_false (hne ks)
          refine wpAny_bind (wpAny_dictEpoch ho hd (wpAny_bind ((eqAt_key nk (.tup ks) A s' _ _ hn hk (by omega)) _ _ _ _ (wpAny_bind (wpAny_dictEpoch ho hd ?_)))))
          rw [hb]
          show wpAny _ _ (if (ep != ep) = true then _ else _) _ E _
          rw [if_neg (by simp)]
          simp only [Bool.false_eq_true, if_false]
          refine wpAny_bind (wpAny_rule ?_)
          first | rw [if_neg (by simp)] | skip
          first
            | exact wpAny_pure ⟨rfl, rfl⟩
            | exact wpAny_bind (wpAny_pure (wpAny_pure ⟨rfl, rfl⟩))
        · rw [if_neg hq]
          exact wpAny_pure ⟨rfl, rfl⟩
    · rintro b s' ⟨rfl, rfl⟩
      exact wpAny_pure h)
theorem dget_miss {d a : Addr} {o : Obj} {es ep} {ks : List NestedKey} {Q : Option Value → Shared → Prop} (hu : A.units + 8 < cLine)
    (hk : NestedIs s.heap (.tup ks) (.ref a)) (hdp : NestedKey.depth (.tup ks) ≤ 8) (ho : s.heap.get? d = some o) (hd : o.data = .dict es ep) (lk : LowKeys s.heap es)
    (h : Q none { s with toks := s.toks + NestedKey.draws (.tup ks) }) : wpAny (model prog w) A (dictGet d (.ref a)) Q E s := by
  unfold dictGet
  try with_reducible refine wpAny_holding ?_
  refine wpAny_bind (pyHash_key _ _ _ _ _ hk (by omega) (wpAny_bind (find_miss (s := { s with toks := s.toks + NestedKey.draws (.tup ks) }) hu hk hdp ho hd lk ?_)))
  exact wpAny_pure h
end
section
variable {X : Cx} {pins : List (Addr × Obj)} {σ : L2.St} {H : Hp} {s : Shared} {a b : Addr} {r : Value} {A : Around} {E : Value → Shared → Prop}
/-- d.get(y, x), y a tuple -/
theorem d_get2_miss {Q : Value → Shared → Prop} {kvs : List (Key × V)} {ks : List NestedKey} (hu : A.units + 9 < cLine) (I : Inv X pins σ H s) (e : Rd H a (.dK kvs)) (hk : NestedIs s.heap (.tup ks) (.ref b)) (hdp : NestedKey.depth (.tup ks) ≤ 8)
    (h : ∀ s', Inv X pins σ H s' → Q r s') : wpAny (model X.prog X.w) A (call (.builtin "dict.get") [.ref a, .ref b, r]) Q E s := by
  obtain ⟨z, hd, vs, rel, dd⟩ := dk_rd I.hok e
  obtain ⟨o, es, ep, h1, h2, h3, h4, h5⟩ := dd.mapOf
  refine call_meetsIn PySem.F.slot_dict_get dd.typeIs PySem.F.entry_dict_get (PySem.F.args_dict_get_3 _ _ _)
    (S := fun A' R s' => A' = A ∧ s' = s ∧ R (.ok (.ret r)) { s with toks := s.toks + NestedKey.draws (.tup ks) }) (fun A' R s' hS => ?_) ?_
  · obtain ⟨rfl, rfl, hq⟩ := hS
    show wpAny _ _ (dictGet a (.ref b) >>= _) _ _ _
    refine wpAny_bind (dget_miss (by first | exact hu | (show A.in1.units + 8 < cLine; exact hu) | omega) hk hdp h1 h3 (lowKeys_of h4) ?_)
    show wpAny _ _ (Builtin.Dict.missed a (.ref b) >>= _) _ _ _
    exact wpAny_bind (wpAny_missed_other hd (wpAny_pure hq))
  · exact ⟨rfl, rfl, h _ (I.tok _)⟩
end
end Fw
/-! # FwGet: displays of dicts, d[k], d.get(k, e) -/
namespace Fw
open PySem PySem.Spec PyProof.Rows L2
open Evl (Ex)
variable [TabsOf]

/-! ## what grew comes to stand -/
section
variable {W : Wld} {H H2 : Hp} {p : Addr} {o o2 : HO}
theorem new_out (ok : W.ok H) (hp : H p = none) : p ∉ W.M := fun hb => by
  obtain ⟨u, hu⟩ := mem_there ok hb
  rw [hp] at hu
  cases hu
theorem grow_new (ok : W.ok H) (hp : H p = none) (oa : Own o) : (W.grow p o).ok (upd H p o) := grow_ok (ok_ex ok (Ex.new hp)) (new_out ok hp) oa upd_same
/-- it is let go, as it stands -/
theorem grow_done (ok : W.ok H) (hp : H p = none) (oa : Own o) (oa2 : Own o2) (r : (W.grow p o).R (upd H p o) H2) : W.R H (upd H2 p o2) ∧ W.cut (upd H2 p o2) p = some o2 ∧ Ex ((W.grow p o).cut H2) (W.cut (upd H2 p o2)) := by
  have pM := new_out ok hp
  have g2 : (W.grow p o2).ok (upd H2 p o2) := grow_put pM oa2 r.ok
  have e2 : Ex ((W.grow p o).cut H2) (W.cut (upd H2 p o2)) := by
    have : (W.grow p o2).cut (upd H2 p o2) = (W.grow p o).cut H2 := grow_upd
    rw [← this]
    exact grow_sub
  refine ⟨⟨(grow_of g2).1, ?_⟩, ?_, e2⟩
  · exact ((grow_in hp (R_new ok hp).ex).trans r.ex).trans e2
  · unfold Wld.cut
    rw [if_neg pM, upd_same]
    split
    · rename_i ps z
      cases z
      exact absurd rfl (oa2.tb ps)
    · rfl
end
theorem XLink.grow {W : Wld} {K : PySem.W.Frag} {H : Hp} {p : Addr} {o : HO} {E : XK} {ex : EX → Prop} (ok : W.ok H) (hp : H p = none) (oa : Own o) (l : XLink W K H E ex) : XLink (W.grow p o) K (upd H p o) E ex := by
  rintro x C d H' ⟨r, hC, xs, hda, hdd⟩ hx
  have sm : (W.grow p o).Sm W := ⟨rfl, rfl, rfl⟩
  obtain ⟨ok', hpo⟩ := grow_of r.ok
  refine l x C d H' ⟨⟨ok', ?_⟩, hC, xs, (hda.sm sm).up grow_sub, ?_⟩ hx
  · exact ((grow_in hp (R_new ok hp).ex).trans r.ex).trans grow_sub
  · rcases hdd with h | ⟨dd, h1, h2⟩
    · exact .inl h
    · exact .inr ⟨dd, h1, grow_sub _ _ h2⟩
theorem SL.grow {W : Wld} {K : PySem.W.Frag} {σ : L2.St} {H : Hp} {δ : Env} {p : Addr} {o : HO} (ok : W.ok H) (hp : H p = none) (h : SL W K σ H δ) : SL (W.grow p o) K σ (upd H p o) δ :=
  h.sm (grow_sm W p o) (grow_in hp (R_new ok hp).ex)

/-! ## {k: e, ..} -/
def EvP (W : Wld) (K : PySem.W.Frag) (E : XK) (trs : List (TE × TE)) (ks : List Key) (m : AM) : Prop := ∀ σ H Q δ post ex, SL W K σ H δ → W.ok H → m δ post ex →
  (∀ (ps : List (V × V)) H' ds, W.R H H' → ps.map (·.1) = ks.map kV → Das W K (W.cut H') (ps.map (·.2)) ds → post ds → Q ps H') → XLink W K H E ex → tPairs trs σ H Q
def DPX (X : Cx) (E : XK) (pos : Pos) (keys : List (Option Expr)) (vals : List Expr) (ks : List Key) (m : AM) : Prop := ∃ trs, PPs X pos keys vals trs ∧ ∀ W, EvP W X.K E trs ks m
section
variable {X : Cx} {E : XK} {e : Expr} {me : EM} {m : AM} {keys : List (Option Expr)} {vals : List Expr} {ks : List Key} {p pos : Pos} {j : Nat}
theorem dx_nil : DPX X E pos [] [] [] mNil := ⟨_, pps_nil, fun W σ H Q δ post ex hs ok hm hq _ => hq [] H [] (.refl ok) rfl .nil hm⟩
theorem dx_str {x : Str} (he : PX X E e me) (h : DPX X E pos keys vals ks m) : DPX X E pos (some (.Constant (.str x) j p) :: keys) (e :: vals) (.inr x :: ks) (mCons me m) := by
  obtain ⟨t, q, ev⟩ := he
  obtain ⟨trs, r, ew⟩ := h
  refine ⟨_, pps_cons pe_str q r, fun W σ H Q δ post ex hs ok hm hq lx => ?_⟩
  refine ev W σ H _ δ _ ex hs ok hm ?_ lx
  intro v H1 d r1 hv hm
  refine ew W σ H1 _ δ _ ex (hs.R r1) r1.ok hm ?_ (lx.R r1)
  intro ps H2 ds r2 h1 h2 hp
  exact hq _ H2 (d :: ds) (r1.trans r2) (by rw [List.map_cons, List.map_cons, h1]; rfl) (.cons (hv.R r2) h2) hp
theorem dx_int {i : Int} (he : PX X E e me) (h : DPX X E pos keys vals ks m) : DPX X E pos (some (.Constant (.int i) j p) :: keys) (e :: vals) (.inl i :: ks) (mCons me m) := by
  obtain ⟨t, q, ev⟩ := he
  obtain ⟨trs, r, ew⟩ := h
  refine ⟨_, pps_cons pe_int q r, fun W σ H Q δ post ex hs ok hm hq lx => ?_⟩
  refine ev W σ H _ δ _ ex hs ok hm ?_ lx
  intro v H1 d r1 hv hm
  refine ew W σ H1 _ δ _ ex (hs.R r1) r1.ok hm ?_ (lx.R r1)
  intro ps H2 ds r2 h1 h2 hp
  exact hq _ H2 (d :: ds) (r1.trans r2) (by rw [List.map_cons, List.map_cons, h1]; rfl) (.cons (hv.R r2) h2) hp
def mDic (ks : List Key) (m : AM) : EM := fun δ post ex => m δ (fun ds => ds.length = ks.length → post (.dic ks ds)) ex
theorem putK_new {kvs : List (Key × V)} {k : Key} {v : V} (h : k ∉ kvs.map (·.1)) : putK kvs k v = kvs ++ [(k, v)] := by
  unfold putK
  rw [if_neg]
  intro q
  obtain ⟨x, hx, hk⟩ := List.any_eq_true.mp q
  exact h (List.mem_map.mpr ⟨x, hx, of_decide_eq_true hk⟩)
theorem mergeK_new : ∀ (more kvs : List (Key × V)), (kvs.map (·.1) ++ more.map (·.1)).Nodup → mergeK kvs more = kvs ++ more
  | [], kvs, _ => (List.append_nil _).symm
  | p :: r, kvs, h => by
    have h1 : p.1 ∉ kvs.map (·.1) := fun z => by
      have := (List.nodup_append.mp h).2.2 _ z p.1 (by simp)
      exact this rfl
    show mergeK (putK kvs p.1 p.2) r = _
    rw [putK_new h1, mergeK_new r]
    · simp
    · simpa using h
theorem pairs_split : ∀ (ps : List (V × V)) (ks : List Key), ps.map (·.1) = ks.map kV → ∃ kvs : List (Key × V), ps = kvs.map (fun kv => (kV kv.1, kv.2)) ∧ kvs.map (·.1) = ks ∧ kvs.map (·.2) = ps.map (·.2)
  | [], [], _ => ⟨[], rfl, rfl, rfl⟩
  | [], _ :: _, h => by cases h
  | _ :: _, [], h => by cases h
  | (x, y) :: ps, k :: ks, h => by
    rw [List.map_cons, List.map_cons] at h
    obtain ⟨kvs, h1, h2, h3⟩ := pairs_split ps ks (List.cons.inj h).2
    have e : x = kV k := (List.cons.inj h).1
    exact ⟨(k, y) :: kvs, by rw [List.map_cons, ← h1, ← e], by rw [List.map_cons, h2], by rw [List.map_cons, h3]; rfl⟩
theorem px_dic (h : DPX X E pos keys vals ks m) (hn : ks.Nodup) (hl : ks.length ≤ 15 := by decide) (hall : keys.all (·.isSome) = true := by rfl) (hlen : keys.length = vals.length := by rfl) (h0 : keys ≠ [] := by intro z; cases z) (h15 : keys.length ≤ 15 := by decide) :
    PX X E (.Dict keys vals pos) (mDic ks m) := by
  obtain ⟨trs, r, ew⟩ := h
  refine ⟨_, pe_disp r hall hlen h0 h15, fun W σ H Q δ post ex hs ok hm hq lx p hp => ?_⟩
  refine ew (W.grow p (.dK [])) σ _ _ δ _ ex (hs.grow ok hp) (grow_new ok hp own_dK) hm ?_ (lx.grow ok hp own_dK)
  intro ps H2 ds r1 h1 h2 hpost
  obtain ⟨kvs, e1, e2, e3⟩ := pairs_split ps ks h1
  have hk : (grow_of r1.ok).2 = (grow_of r1.ok).2 := rfl
  refine ⟨(grow_of r1.ok).2, kvs, e1, by rw [← List.length_map (f := (·.1)), e2]; exact hl, ?_⟩
  have em : mergeK [] kvs = kvs := by
    rw [mergeK_new kvs [] (by rw [e2]; exact hn)]
    rfl
  rw [em]
  obtain ⟨r2, c2, x2⟩ := grow_done ok hp own_dK (o2 := .dK kvs) own_dK r1
  have sm : (W.grow p (.dK [])).Sm W := ⟨rfl, rfl, rfl⟩
  rw [← e3] at h2
  refine hq _ _ _ r2 (.dic c2 e2 ((h2.sm sm).up x2)) (hpost ?_)
  rw [← h2.length, List.length_map, ← List.length_map (f := (·.1)), e2]
end

/-! ## a tuple as a key -/
mutual
def keyD : D → Option NestedKey
  | .non => some .none | .bl b => some (.num (if b = true then 1 else 0)) | .int i => some (.num i) | .str x => some (.text x)
  | .tup ds => (keysD ds).map .tup
  | .lst _ => none | .dic _ _ => none | .err _ _ => none | .drw => none | .scr _ => none
def keysD : List D → Option (List NestedKey)
  | [] => some []
  | d :: ds => (keyD d).bind fun k => (keysD ds).map (k :: ·)
end
section
variable {X : Cx} {pins : List (Addr × Obj)} {σ : L2.St} {H : Hp} {s : Shared} {W : Wld}
mutual
theorem nested_of (I : Inv X pins σ H s) : ∀ {d : D} {v : V} {u : Value} {k : NestedKey}, Da W X.K H v d → RelV v u → keyD d = some k → NestedIs s.heap k u
  | _, _, _, _, .non, r, e => by
    unfold keyD at e
    cases e
    cases (show _ = Value.none from r)
    exact .none
  | _, _, _, _, .bl b, r, e => by
    unfold keyD at e
    cases e
    cases (show _ = Value.bool b from r)
    exact .bool rfl
  | _, _, _, _, .int i, r, e => by
    unfold keyD at e
    cases e
    obtain ⟨t, rfl⟩ := r
    exact .int i t
  | _, _, _, _, .str x, r, e => by
    unfold keyD at e
    cases e
    obtain ⟨t, rfl⟩ := r
    exact .text x t
  | .tup ds, _, _, _, .tup (a := a) (xs := xs) h hd, r, e => by
    unfold keyD at e
    obtain ⟨ks, hk, rfl⟩ := Option.map_eq_some_iff.mp e
    cases (show _ = Value.ref a from r)
    obtain ⟨its, rv, ⟨o, h1, h2, n, h3⟩, _⟩ := I.tuple h
    exact .tup h1 h2 h3 (nesteds_of I hd rv hk)
  | .lst _, _, _, _, _, _, e => by unfold keyD at e; cases e
  | .dic _ _, _, _, _, _, _, e => by unfold keyD at e; cases e
  | .err _ _, _, _, _, _, _, e => by unfold keyD at e; cases e
  | .drw, _, _, _, _, _, e => by unfold keyD at e; cases e
  | .scr _, _, _, _, _, _, e => by unfold keyD at e; cases e
theorem nesteds_of (I : Inv X pins σ H s) : ∀ {ds : List D} {vs : List V} {us : List Value} {ks : List NestedKey}, Das W X.K H vs ds → Vals vs us → keysD ds = some ks → NestedAll s.heap ks us
  | [], _, _, _, .nil, .nil, e => by
    unfold keysD at e
    cases e
    exact .nil
  | d :: ds, _, _, _, .cons h hs, .cons r rs, e => by
    unfold keysD at e
    obtain ⟨k, hk, e2⟩ := Option.bind_eq_some_iff.mp e
    obtain ⟨ks, hks, rfl⟩ := Option.map_eq_some_iff.mp e2
    exact .cons (nested_of I h r hk) (nesteds_of I hs rs hks)
end
end

/-! ## d.get(k, e) -/
/-- what is sought in the dict at a: what is found -/
def DSeek (K : PySem.W.Frag) (H : Hp) (a : Addr) (y : V) (r : Option V) : Prop := DGet H a y r ∨
  ∃ (kvs : List (Key × V)) (b : Addr) (W : Wld) (d : D) (ks : List NestedKey), r = none ∧ H a = some (.dK kvs) ∧ y = .ref b ∧ Da W K H (.ref b) d ∧ keyD d = some (.tup ks) ∧ NestedKey.depth (.tup ks) ≤ 8
theorem DSeek.up {K : PySem.W.Frag} {H H' : Hp} {a : Addr} {y : V} {r : Option V} (e : Ex H H') (h : DSeek K H a y r) : DSeek K H' a y r := by
  have rd : ∀ {u : HO}, Rd H a u → Rd H' a u := fun h => h.imp (e _ _) fun ⟨o, ho⟩ => ⟨o, e _ _ ho⟩
  rcases h with (⟨kvs, k, h1, h2, h3⟩ | ⟨kvs, k, b, h1, h2, h3, h4⟩) | ⟨kvs, b, W, d, ks, h1, h2, h3, h4, h5, h6⟩
  · exact .inl (.inl ⟨kvs, k, rd h1, h2, h3⟩)
  · exact .inl (.inr ⟨kvs, k, b, rd h1, h2, e _ _ h3, h4⟩)
  · exact .inr ⟨kvs, b, W, d, ks, h1, e _ _ h2, h3, h4.up e, h5, h6⟩
def tGetU (K : PySem.W.Frag) (td ty tx : TE) : TE := fun σ H Q => td σ H fun x H1 => ∃ a, x = .ref a ∧ IsD H1 a ∧ ty σ H1 fun y H2 => tx σ H2 fun z H3 => ∃ o, DSeek K H3 a y o ∧ Q (o.getD z) H3
section
variable {X : Cx} {o e f : Expr} {apos cpos : Pos} {td ty tx : TE}
theorem pe_getU (hu : X.A.units + 9 < cLine) (ho : PE X o td) (he : PE X e ty) (hf : PE X f tx) (m : M2 X o "get" apos e f cpos) : PE X (.Call (.Attribute o "get" apos) [e, f] [] cpos) (tGetU X.K td ty tx) := by
  refine ⟨fun pins s σ H Q I h => ?_⟩
  refine wpAny_Call_method m.base m.few m.line PySem.F.plainAttrs_dict PySem.F.slot_dict_get PySem.F.type_dict_get (thn (ho.run pins s σ H _ I h) fun u s1 ⟨x, H1, I1, rx, a, ex, d, q1⟩ => ?_)
  subst ex
  obtain rfl : u = Value.ref a := rx
  obtain ⟨t1, t2, _⟩ := isD_at I1 d
  refine ⟨t1, t2, ?_⟩
  rw [m.trees]
  refine Calls.callWith_builtin rfl (Calls.evalArgs_plain (Calls.spliced_cons (thn (he.run pins s1 σ H1 _ I1 q1) fun iv s2 ⟨y, H2, I2, ry, q2⟩ =>
    Calls.spliced_cons (thn (hf.run pins s2 σ H2 _ I2 q2) fun fv s3 ⟨z, H3, I3, rz, ov, g, q3⟩ => Calls.spliced_nil ?_))))
  rcases g with g | ⟨kvs, b, W, d, ks, rfl, hk, rfl, hd, hkd, hdp⟩
  · exact d_get2 (by omega) I3 g ry rz fun w' s4 I4 rw' => ⟨_, H3, I4, rw', q3⟩
  · cases (show iv = Value.ref b from ry)
    exact d_get2_miss hu I3 (.inl hk) (nested_of I3 hd rfl hkd) hdp fun s4 I4 => ⟨z, H3, I4, rz, q3⟩
end
/-- what a dict of data gives -/
def lookD : List Key → List D → Key → Option D
  | k :: ks, d :: ds, q => if q = k then some d else lookD ks ds q
  | _, _, _ => none
def dKey : D → Option Key
  | .int i => some (.inl i)
  | .str x => some (.inr x)
  | _ => none
/-- the result of .get -/
def getD (ks : List Key) (ds : List D) (q z : D) : Option D := match q with
  | .int i => some ((lookD ks ds (.inl i)).getD z)
  | .str x => some ((lookD ks ds (.inr x)).getD z)
  | .tup es => match keysD es with
    | some k => if NestedKey.depth (.tup k) ≤ 8 then some z else none
    | none => none
  | _ => none
def mGet (a q z : EM) : EM := fun δ post ex => a δ (fun x => ∃ ks ds, x = .dic ks ds ∧ q δ (fun y => z δ (fun w => ∃ r, getD ks ds y w = some r ∧ post r) ex) ex) ex
theorem look_of {W : Wld} {K : PySem.W.Frag} {H : Hp} {q : Key} : ∀ {kvs : List (Key × V)} {ds : List D}, Das W K H (kvs.map (·.2)) ds →
    (valV kvs q = none ∧ lookD (kvs.map (·.1)) ds q = none) ∨ ∃ v d, valV kvs q = some v ∧ lookD (kvs.map (·.1)) ds q = some d ∧ Da W K H v d
  | [], _, .nil => .inl ⟨rfl, rfl⟩
  | (k, v) :: kvs, _, .cons (d := d) (ds := ds) h r => by
    by_cases e : q = k
    · refine .inr ⟨v, d, valV_pos (p := (k, v)) e.symm, ?_, h⟩
      show (if q = k then some d else _) = _
      rw [if_pos e]
    · have : valV ((k, v) :: kvs) q = valV kvs q := valV_neg (p := (k, v)) fun z => e z.symm
      rw [this]
      show (_ ∧ (if q = k then some d else lookD (kvs.map (·.1)) ds q) = none) ∨ ∃ v' d', _ ∧ (if q = k then some d else lookD (kvs.map (·.1)) ds q) = some d' ∧ _
      rw [if_neg e]
      exact look_of r
theorem seek_of {W : Wld} {K : PySem.W.Frag} {H : Hp} {a : Addr} {y u : V} {ks : List Key} {ds : List D} {q z r : D} (hd : Da W K H (.ref a) (.dic ks ds)) (hy : Da W K H y q) (hz : Da W K H u z) (e : getD ks ds q z = some r) :
    ∃ o, DSeek K H a y o ∧ Da W K H (o.getD u) r := by
  cases hd with
  | @dic _ kvs _ _ h1 h2 h3 =>
    subst h2
    cases hy <;> first
      | (cases e; done)
      | skip
    case int i =>
      have e : some ((lookD (kvs.map (·.1)) ds (.inl i)).getD z) = some r := e
      refine ⟨valV kvs (.inl i), .inl (DGet.k (k := .inl i) h1), ?_⟩
      rcases look_of (q := .inl i) h3 with ⟨e1, e2⟩ | ⟨v, d, e1, e2, hv⟩
      · rw [e2] at e
        cases e
        rw [e1]
        exact hz
      · rw [e2] at e
        cases e
        rw [e1]
        exact hv
    case str x =>
      have e : some ((lookD (kvs.map (·.1)) ds (.inr x)).getD z) = some r := e
      refine ⟨valV kvs (.inr x), .inl (DGet.k (k := .inr x) h1), ?_⟩
      rcases look_of (q := .inr x) h3 with ⟨e1, e2⟩ | ⟨v, d, e1, e2, hv⟩
      · rw [e2] at e
        cases e
        rw [e1]
        exact hz
      · rw [e2] at e
        cases e
        rw [e1]
        exact hv
    case tup b xs es ht hr =>
      have e : (match keysD es with
        | some k => if NestedKey.depth (.tup k) ≤ 8 then some z else none
        | none => none) = some r := e
      split at e
      · rename_i k hk
        split at e
        · rename_i hdp
          cases e
          exact ⟨none, .inr ⟨kvs, b, W, .tup es, k, rfl, h1, rfl, .tup ht hr, by unfold keyD; rw [hk]; rfl, hdp⟩, hz⟩
        · cases e
      · cases e
section
variable {X : Cx} {E : XK} {o e f : Expr} {mo me mf : EM} {k : Nat} {apos cpos : Pos}
theorem px_get (hr : Room k X.A) (ho : PX X E o mo) (he : PX X E e me) (hf : PX X E f mf) (m : M2 X o "get" apos e f cpos := by exact ⟨rfl, rfl, rfl, rfl⟩) : PX X E (.Call (.Attribute o "get" apos) [e, f] [] cpos) (mGet mo me mf) := by
  obtain ⟨t, p, ev⟩ := ho
  obtain ⟨u, q, ew⟩ := he
  obtain ⟨w, r, ex'⟩ := hf
  have := room64 hr
  refine ⟨_, pe_getU (by omega) p q r m, fun W σ H Q δ post ex hs ok hm hq lx => ?_⟩
  refine ev W σ H _ δ _ ex hs ok hm ?_ lx
  rintro v H1 x r1 hv ⟨ks, ds, rfl, hm⟩
  obtain ⟨a, rfl⟩ : ∃ a, v = .ref a := by
    cases hv
    exact ⟨_, rfl⟩
  refine ⟨a, rfl, ?_, ?_⟩
  · cases hv with
    | dic h1 _ _ => exact .inl ⟨_, .inl (cut_sub _ _ h1)⟩
  refine ew W σ H1 _ δ _ ex (hs.R r1) r1.ok hm ?_ (lx.R r1)
  intro y H2 dy r2 hy hm
  refine ex' W σ H2 _ δ _ ex (hs.R (r1.trans r2)) r2.ok hm ?_ (lx.R (r1.trans r2))
  rintro z H3 dz r3 hz ⟨r, hr, hp⟩
  obtain ⟨o, g1, g2⟩ := seek_of (hv.R (r2.trans r3)) (hy.R r3) hz hr
  exact ⟨o, g1.up cut_sub, hq _ H3 r ((r1.trans r2).trans r3) g2 hp⟩

/-! ## d[k] -/
def fDAt (a b z : D) : Prop := ∃ ks ds q, a = .dic ks ds ∧ dKey b = some q ∧ lookD ks ds q = some z
theorem px_dat (hr : Room k X.A) (ho : PX X E o mo) (he : PX X E e me) (hs : NoSl e := by intro _ _; rfl) {pos : Pos} : PX X E (.Subscript o e pos) (mOp fDAt mo me) := by
  obtain ⟨t, p, ev⟩ := ho
  obtain ⟨u, q, ew⟩ := he
  refine ⟨_, pe_dget (room1 hr) p q hs, fun W σ H Q δ post ex hs ok hm hq lx => ?_⟩
  refine ev W σ H _ δ _ ex hs ok hm ?_ lx
  intro v H1 x r1 hv hm
  refine ew W σ H1 _ δ _ ex (hs.R r1) r1.ok hm ?_ (lx.R r1)
  rintro y H2 dy r2 hy ⟨z, ⟨ks, ds, q, rfl, hk, hl⟩, hp⟩
  have hv2 := hv.R r2
  cases hv2 with
  | @dic a kvs _ _ h1 h2 h3 =>
    subst h2
    rcases look_of (q := q) h3 with ⟨_, e2⟩ | ⟨v, d, e1, e2, hd⟩
    · rw [e2] at hl
      cases hl
    · rw [e2] at hl
      cases hl
      refine ⟨a, v, rfl, ?_, hq v H2 _ (r1.trans r2) hd hp⟩
      rw [← e1]
      cases hy <;> first
        | (cases hk; done)
        | skip
      case int i =>
        cases hk
        exact DGet.k (k := .inl i) (cut_sub _ _ h1)
      case str x =>
        cases hk
        exact DGet.k (k := .inr x) (cut_sub _ _ h1)
end
end Fw
/-! # FwCon: constants of the module; a def's promise told more plainly -/
namespace Fw
open PySem PySem.Spec PyProof.Rows L2
open Evl (Ex)
mutual
/-- the value u, as it stands in K, is this data (tuples within one another) -/
def conB (K : PySem.W.Frag) : D → Value → Bool
  | .non, u => u == .none
  | .bl b, u => u == .bool b
  | .int i, u => match u with
    | .int j _ => j == i
    | _ => false
  | .str x, u => match u with
    | .str y _ => y == x
    | _ => false
  | .tup ds, u => match u with
    | .ref a => (match K.lookup a with
      | some ⟨.type c, _, .seq its _, _⟩ => decide (c = "tuple") && (decide (its.size ≤ sizeLine) && consB K ds its.toList)
      | _ => false)
    | _ => false
  | .lst _, _ => false | .dic _ _, _ => false | .err _ _, _ => false | .drw, _ => false | .scr _, _ => false
def consB (K : PySem.W.Frag) : List D → List Value → Bool
  | [], us => us.isEmpty
  | d :: ds, us => match us with
    | u :: us => conB K d u && consB K ds us
    | [] => false
end
mutual
theorem con_ok {K : PySem.W.Frag} : ∀ {d : D} {u : Value}, conB K d u = true → ∃ v, RelV v u ∧ ∀ W H, Da W K H v d
  | .non, u, h => by
    unfold conB at h
    rw [beq_iff_eq] at h
    exact ⟨.non, h, fun W H => .non⟩
  | .bl b, u, h => by
    unfold conB at h
    rw [beq_iff_eq] at h
    exact ⟨.bl b, h, fun W H => .bl b⟩
  | .int i, u, h => by
    unfold conB at h
    split at h
    · rw [beq_iff_eq] at h
      subst h
      exact ⟨.int _, ⟨_, rfl⟩, fun W H => .int _⟩
    · cases h
  | .str x, u, h => by
    unfold conB at h
    split at h
    · rw [beq_iff_eq] at h
      subst h
      exact ⟨.str _, ⟨_, rfl⟩, fun W H => .str _⟩
    · cases h
  | .tup ds, u, h => by
    unfold conB at h
    split at h
    · rename_i a
      split at h
      · rename_i c d its n sl q
        have h' := Bool.and_eq_true_iff.mp h
        have h2 := Bool.and_eq_true_iff.mp h'.2
        obtain ⟨vs, r, hd⟩ := cons_ok h2.2
        exact ⟨.ref a, rfl, fun W H => .tup (.inr ⟨_, its, n, q, congrArg Value.type (of_decide_eq_true h'.1), rfl, of_decide_eq_true h2.1, r⟩) (hd W H)⟩
      · cases h
    · cases h
  | .lst _, _, h => by unfold conB at h; cases h
  | .dic _ _, _, h => by unfold conB at h; cases h
  | .err _ _, _, h => by unfold conB at h; cases h
  | .drw, _, h => by unfold conB at h; cases h
  | .scr _, _, h => by unfold conB at h; cases h
theorem cons_ok {K : PySem.W.Frag} : ∀ {ds : List D} {us : List Value}, consB K ds us = true → ∃ vs, Vals vs us ∧ ∀ W H, Das W K H vs ds
  | [], us, h => by
    unfold consB at h
    rw [List.isEmpty_iff] at h
    subst h
    exact ⟨[], .nil, fun W H => .nil⟩
  | d :: ds, us, h => by
    unfold consB at h
    split at h
    · rename_i u us
      have h' := Bool.and_eq_true_iff.mp h
      obtain ⟨v, r, hd⟩ := con_ok h'.1
      obtain ⟨vs, rs, hds⟩ := cons_ok h'.2
      exact ⟨v :: vs, .cons r rs, fun W H => .cons (hd W H) (hds W H)⟩
    · cases h
end
/-- the module's name x is this data -/
def conAt (K : PySem.W.Frag) (x : Str) (d : D) : Bool := match PySem.W.nsIn K mainGlobals x with
  | some (some u) => conB K d u
  | _ => false
def ConOk (K : PySem.W.Frag) (mg : Str → Option Value) (x : Str) (d : D) : Prop := ∃ v u, mg x = some u ∧ RelV v u ∧ ∀ W H, Da W K H v d
theorem conAt_ok {K : PySem.W.Frag} {h : Heap} {mg : Str → Option Value} (X : K.In h) (G : h.Ns mainGlobals mg) {x : Str} {d : D} (c : conAt K x d = true) : ConOk K mg x d := by
  unfold conAt at c
  split at c
  · rename_i u hu
    obtain ⟨v, r, hd⟩ := con_ok c
    exact ⟨v, u, PySem.W.mg_of X G hu, r, hd⟩
  · cases c
section
variable [TabsOf] {X : Cx} {E : XK}
theorem px_con {x : Str} {d : D} {pos : Pos} (c : ConOk X.K X.mg x d) (hg : Gl X x) (hd : (x == ("__debug__" : Str)) = false := by decide) : PX X E (.Name x pos) (mC d) := by
  obtain ⟨v, u, hm, r, h⟩ := c
  exact px_glob hg hm r h hd

/-! ## tests by comparisons -/
variable {a b : Expr} {ma mb : EM} {pos : Pos} {k : Nat}
theorem tx_lt (ha : PX X E a ma) (hb : PX X E b mb) : TX X E (.Compare a [.Lt] [b] pos) (mTest (mOp (fIB fun i j => decide (i < j)) ma mb)) := tx_cmp op_lt (fun W => opD_I0 fun i j _ => .bl _) ha hb
theorem tx_le (ha : PX X E a ma) (hb : PX X E b mb) : TX X E (.Compare a [.LtE] [b] pos) (mTest (mOp (fIB fun i j => decide (i ≤ j)) ma mb)) := tx_cmp op_le (fun W => opD_I0 fun i j _ => .bl _) ha hb
theorem tx_gt (ha : PX X E a ma) (hb : PX X E b mb) : TX X E (.Compare a [.Gt] [b] pos) (mTest (mOp (fIB fun i j => decide (j < i)) ma mb)) := tx_cmp op_gt (fun W => opD_I0 fun i j _ => .bl _) ha hb
theorem tx_ge (ha : PX X E a ma) (hb : PX X E b mb) : TX X E (.Compare a [.GtE] [b] pos) (mTest (mOp (fIB fun i j => decide (j ≤ i)) ma mb)) := tx_cmp op_ge (fun W => opD_I0 fun i j _ => .bl _) ha hb
theorem tx_eq (hr : Room k X.A) (ha : PX X E a ma) (hb : PX X E b mb) (hm : behindInMarks .Eq b = false := by first | rfl | exact nomark _) :
    TX X E (.Compare a [.Eq] [b] pos) (mTest (mOp fEq ma mb)) := tx_cmp (op_eqD (room64 hr)) (fun _ => opD_eq) ha hb hm
theorem tx_ne (hr : Room k X.A) (ha : PX X E a ma) (hb : PX X E b mb) (hm : behindInMarks .NotEq b = false := by first | rfl | exact nomark _) :
    TX X E (.Compare a [.NotEq] [b] pos) (mTest (mOp fNe ma mb)) := tx_cmp (op_neD (room64 hr)) (fun _ => opD_ne) ha hb hm
theorem opD_isN {W : Wld} {K : PySem.W.Frag} : OpD W K (fun x y H Q => y = .non ∧ Q (.bl (decide (x = .non))) H) fIsN := by
  rintro H x y c d z Q ok hx hy ⟨rfl, rfl⟩ q
  cases hy
  refine ⟨rfl, ?_⟩
  rw [da_non hx]
  exact q _ H (.refl ok) (.bl _)
theorem tx_in (ha : PX X E a ma) (hb : PX X E b mb) (hm : behindInMarks .In b = false := by first | rfl | exact nomark _) :
    TX X E (.Compare a [.In] [b] pos) (mTest (mOp fIn ma mb)) := tx_cmp (op_in_seq) (fun _ => opD_in (neg := false)) ha hb hm
theorem tx_notIn (ha : PX X E a ma) (hb : PX X E b mb) (hm : behindInMarks .NotIn b = false := by first | rfl | exact nomark _) :
    TX X E (.Compare a [.NotIn] [b] pos) (mTest (mOp fNotIn ma mb)) := tx_cmp (op_notIn_seq) (fun _ => opD_in (neg := true)) ha hb hm
theorem tx_isN (ha : PX X E a ma) (hb : PX X E b mb) (hm : behindInMarks .Is b = false := by first | rfl | exact nomark _) :
    TX X E (.Compare a [.Is] [b] pos) (mTest (mOp fIsN ma mb)) := tx_cmp op_isN (fun W => by
  rintro H x y c d z Q ok hx hy ⟨rfl, rfl⟩ q
  cases hy
  refine ⟨rfl, ?_⟩
  rw [da_non hx]
  exact q _ H (.refl ok) (.bl _)) ha hb hm
theorem tx_notN (ha : PX X E a ma) (hb : PX X E b mb) (hm : behindInMarks .IsNot b = false := by first | rfl | exact nomark _) :
    TX X E (.Compare a [.IsNot] [b] pos) (mTest (mOp fNotN ma mb)) := tx_cmp op_notN (fun W => by
  rintro H x y c d z Q ok hx hy ⟨rfl, rfl⟩ q
  cases hy
  refine ⟨rfl, ?_⟩
  rw [da_non hx]
  exact q _ H (.refl ok) (.bl _)) ha hb hm
theorem tx_isB (ha : PX X E a ma) (hb : PX X E b mb) (hm : behindInMarks .Is b = false := by first | rfl | exact nomark _) :
    TX X E (.Compare a [.Is] [b] pos) (mTest (mOp fIsB ma mb)) := tx_cmp op_isBl (fun W => by
  rintro H x y c d z Q ok hx hy ⟨p, r, rfl, rfl, rfl⟩ q
  cases hx
  cases hy
  exact ⟨p, r, rfl, rfl, q _ H (.refl ok) (.bl _)⟩) ha hb hm
theorem tx_notB (ha : PX X E a ma) (hb : PX X E b mb) (hm : behindInMarks .IsNot b = false := by first | rfl | exact nomark _) :
    TX X E (.Compare a [.IsNot] [b] pos) (mTest (mOp fNotB ma mb)) := tx_cmp op_notBl (fun W => by
  rintro H x y c d z Q ok hx hy ⟨p, r, rfl, rfl, rfl⟩ q
  cases hx
  cases hy
  exact ⟨p, r, rfl, rfl, q _ H (.refl ok) (.bl _)⟩) ha hb hm
end

/-! ## a promise told otherwise -/
section
variable [TabsOf] {P : Program} {w : World} {K : PySem.W.Frag} {mg : Str → Option Value} {base : Heap} {x nm : Str} {st : Stmt} {k : Nat} {ps : List Str} {g g' : FM}
theorem Good.mono (G : Good P w K mg base x nm st k ps g) (h : ∀ ds post ex, g' ds post ex → g ds post ex) : Good P w K mg base x nm st k ps g' := by
  obtain ⟨f, fd, hm, F, hb, ok⟩ := G
  refine ⟨f, fd, hm, F, hb, ok.imp ?_⟩
  rintro vs H Q E ⟨W, ds, post, ex, h1, h2, h3, h4, h5, h6, h7⟩
  exact ⟨W, ds, post, ex, h1, h2, h3, h4, h _ _ _ h5, h6, h7⟩
theorem Good.up {j : Nat} (G : Good P w K mg base x nm st k ps g) (h : k ≤ j) : Good P w K mg base x nm st j ps g := by
  obtain ⟨f, fd, hm, F, hb, ok⟩ := G
  exact ⟨f, fd, hm, F, hb, ok.mono h⟩
end
end Fw
/-! # FwEnd: rules told for the writer: comprehensions, defs and their binding -/
namespace Fw
open PySem PySem.Spec PyProof.Rows L2
open Evl (Ex)
variable [TabsOf]
theorem gl_k {X : Cx} {x : Str} (h : X.env.kindOf x = some .globalImplicit) : Gl X x := h
theorem passes_no {X : Cx} {P : Program} {w : World} : Passes (L2.CX P w) X L2.E0 := by
  rintro pins σ H s e s' I ⟨a, B, H', cls, d, _, _, _, _, _, _, _, h⟩
  exact h.elim
theorem binds_fd {K : PySem.W.Frag} {nm q : Str} {args : Arguments} {body : List Stmt} {sc : Scope} {f : Addr} {fd : FuncData} {ps : List Str} (F : FunD K nm q args body sc [] [] f fd)
    (h : ∀ (kV doc pm : Value) (an : Option Addr) (cdv ct : Value) (us : List Value), us.length = ps.length → bindArgs (PySem.W.fnOf nm q args body sc .none kV doc pm an cdv ct) ⟨us, []⟩ = pure (ps.zip us)) : Binds K fd ps [] := by
  obtain ⟨oc, od, dV, kV, doc, pm, an, cdv, ct, osl, rfl, lk, hcd, hD, hK⟩ := F.ex
  rcases hD with ⟨_, rfl⟩ | ⟨z, _⟩
  · exact .all fun us hl => h kV doc pm an cdv ct us hl
  · exact absurd rfl z
/-! ## comprehensions -/
def blkB (N : List Str) (sc scope : Scope) (own : List (Str × Nat)) : Bool :=
  decide (scope.kind = .function) && (scope.names.all (fun y => decide (scope.names.lookup y.1 = some y.2)) && (own.all (fun p => decide (N[p.2]? = some p.1)) &&
    (scope.names.all (fun y => !decide (y.2 = .free) || decide (sc.names.lookup y.1 = some .cell) || decide (sc.names.lookup y.1 = some .free)) &&
      scope.names.all (fun y => !(decide (y.2 = .local) || decide (y.2 = .cell)) || (own.map (·.1)).contains y.1 || !N.contains y.1))))
theorem blk_ok {N : List Str} {sc scope : Scope} {own : List (Str × Nat)} (h : blkB N sc scope own = true) : BlkOk N sc scope own := by
  unfold blkB at h
  simp only [Bool.and_eq_true, List.all_eq_true, decide_eq_true_eq, Bool.or_eq_true, Bool.not_eq_true', decide_eq_false_iff_not] at h
  obtain ⟨h1, h2, h3, h4, h5⟩ := h
  refine ⟨h1, h2, h3, fun y hy e => ?_, fun y hy e => ?_⟩
  · rcases h4 y hy with (z | z) | z
    · exact absurd e z
    · exact .inl z
    · exact .inr z
  · rcases h5 y hy with (z | z) | z
    · simp only [Bool.or_eq_false_iff, decide_eq_false_iff_not] at z
      rcases e with e | e
      · exact absurd e z.1
      · exact absurd e z.2
    · exact .inl (by simpa using z)
    · right
      simpa using z
section
variable {X : Cx} {E : XK} {elt it c : Expr} {scope : Scope} {pos : Pos} {im : IM} {mt : TM} {me : EM} {x y : Str} {i j : Nat} {p1 p2 p3 : Pos}
abbrev InBlk (X : Cx) (scope : Scope) (φ : Cx → Prop) : Prop := ∀ (s : Shared) (H : Hp) (C : Addr) (cl : List (Str × Addr)) (fp : List Addr), φ (X.blk s H scope (compEnvC scope cl C X.env) fp)
theorem px_lc1 (hN : X.N.Nodup) (hi : IX X E (.Name x p1) it im) (he : InBlk X scope fun Y => PX Y L2.E0 elt me) (hc : X.calm = true := by rfl) (ok : blkB X.N X.env.scope scope [(x, i)] = true := by kernel_rfl)
    (hx : scope.names.lookup x = some .local := by kernel_rfl) (hs : ∀ x, foldedSetIterable it X.env x = pure x := by intro _; rfl) :
    PX X E (.ListComp elt [⟨.Name x p1, it, [], 0⟩] scope pos) (mLc im (gNm i) tTT me [i]) := by
  have b := blk_ok ok
  exact px_lc hc hN hi b (fun s H C cl fp => pg_name hN (b.ix _ List.mem_cons_self) (.inl (lookup_relabel_local hx)) (.inr (lookup_relabel_local hx))) (fun _ => evgw_name List.mem_cons_self) (fun _ _ _ _ _ => pts_nil) (fun _ => evt_yes) he hs
theorem px_lc1t (hN : X.N.Nodup) (hi : IX X E (.Name x p1) it im) (ht : InBlk X scope fun Y => TX Y L2.E0 c mt) (he : InBlk X scope fun Y => PX Y L2.E0 elt me) (hc : X.calm = true := by rfl) (ok : blkB X.N X.env.scope scope [(x, i)] = true := by kernel_rfl)
    (hx : scope.names.lookup x = some .local := by kernel_rfl) (hs : ∀ x, foldedSetIterable it X.env x = pure x := by intro _; rfl) :
    PX X E (.ListComp elt [⟨.Name x p1, it, [c], 0⟩] scope pos) (mLc im (gNm i) mt me [i]) := by
  have b := blk_ok ok
  exact px_lc hc hN hi b (fun s H C cl fp => pg_name hN (b.ix _ List.mem_cons_self) (.inl (lookup_relabel_local hx)) (.inr (lookup_relabel_local hx))) (fun _ => evgw_name List.mem_cons_self) (fun s H C cl fp => pts_one (tx_star (ht s H C cl fp))) (fun _ => evt_star) he hs
variable {z : Str} {pz spos : Pos} {q : Nat}
theorem sx_lc1 (hN : X.N.Nodup) (hi : IX X E (.Name x p1) it im) (he : InBlk X scope fun Y => PX Y L2.E0 elt me) (hc : X.calm = true := by rfl) (ok : blkB X.N X.env.scope scope [(x, i)] = true := by kernel_rfl)
    (hx : scope.names.lookup x = some .local := by kernel_rfl) (hs : ∀ x, foldedSetIterable it X.env x = pure x := by intro _; rfl) (hz : X.N[q]? = some z := by rfl) (hzl : X.env.scope.names.lookup z = some .local := by kernel_rfl)
    (hsw : swapsWith (.ListComp elt [⟨.Name x p1, it, [], 0⟩] scope pos) (some (.Name z pz)) spos.line X.env = pure true := by rfl) :
    SX X E (.Assign [.Name z pz] (.ListComp elt [⟨.Name x p1, it, [], 0⟩] scope pos) spos) (sSet q (mLc im (gNm i) tTT me [i])) := by
  have b := blk_ok ok
  exact sx_setLc hc hN hz hzl hsw hi b (fun s H C cl fp => pg_name hN (b.ix _ List.mem_cons_self) (.inl (lookup_relabel_local hx)) (.inr (lookup_relabel_local hx))) (fun _ => evgw_name List.mem_cons_self) (fun _ _ _ _ _ => pts_nil) (fun _ => evt_yes) he hs
theorem sx_lc1t (hN : X.N.Nodup) (hi : IX X E (.Name x p1) it im) (ht : InBlk X scope fun Y => TX Y L2.E0 c mt) (he : InBlk X scope fun Y => PX Y L2.E0 elt me) (hc : X.calm = true := by rfl) (ok : blkB X.N X.env.scope scope [(x, i)] = true := by kernel_rfl)
    (hx : scope.names.lookup x = some .local := by kernel_rfl) (hs : ∀ x, foldedSetIterable it X.env x = pure x := by intro _; rfl) (hz : X.N[q]? = some z := by rfl) (hzl : X.env.scope.names.lookup z = some .local := by kernel_rfl)
    (hsw : swapsWith (.ListComp elt [⟨.Name x p1, it, [c], 0⟩] scope pos) (some (.Name z pz)) spos.line X.env = pure true := by rfl) :
    SX X E (.Assign [.Name z pz] (.ListComp elt [⟨.Name x p1, it, [c], 0⟩] scope pos) spos) (sSet q (mLc im (gNm i) mt me [i])) := by
  have b := blk_ok ok
  exact sx_setLc hc hN hz hzl hsw hi b (fun s H C cl fp => pg_name hN (b.ix _ List.mem_cons_self) (.inl (lookup_relabel_local hx)) (.inr (lookup_relabel_local hx))) (fun _ => evgw_name List.mem_cons_self) (fun s H C cl fp => pts_one (tx_star (ht s H C cl fp))) (fun _ => evt_star) he hs
end
/-! ## x op= e, a, b = x, y -/
def sAug (i : Nat) (f : D → D → D → Prop) (m : EM) : SM := fun δ F => ∃ x, δ[i]? = some (some x) ∧ m δ (fun y => ∃ z, f x y z ∧ F.nx (δ.set i (some z))) F.ex
def sPar (i j : Nat) (m : AM) : SM := fun δ F => m δ (fun ds => ∃ a b, ds = [a, b] ∧ F.nx ((δ.set i (some a)).set j (some b))) F.ex
def sPar3 (i j l : Nat) (m : AM) : SM := fun δ F => m δ (fun ds => ∃ a b c, ds = [a, b, c] ∧ F.nx (((δ.set i (some a)).set j (some b)).set l (some c))) F.ex
section
variable {X : Cx} {E : XK} {e : Expr} {m : EM} {x y z : Str} {pos pos' : Pos} {r : R2} {f : D → D → D → Prop} {op : Operator}
theorem sx_augR (i : Nat) (hN : X.N.Nodup) (ho : OpR X (inplaceOp op) r) (hf : ∀ W, OpD W X.K r f) (he : PX X E e m) (hi : X.N[i]? = some x)
    (hx : X.env.scope.names.lookup x = some .local) : SX X E (.AugAssign (.Name x pos') op e pos) (sAug i f m) := by
  obtain ⟨t, p, ev⟩ := he
  refine ⟨_, ps_aug hN hi (.inl hx) p ho (.inr hx), fun W σ H Z δ F hsl ok hm l => ?_⟩
  obtain ⟨dx, h1, hm⟩ := hm
  obtain ⟨vx, h2, hv⟩ := hsl.at_ i dx h1
  refine ⟨vx, h2, ev W σ H _ δ _ F.ex hsl ok hm ?_ l.ex⟩
  rintro v H1 dy r1 hy ⟨dz, hz, hp⟩
  refine hf W H1 vx v dx dy dz _ r1.ok (hv.R r1) hy hz ?_
  intro u H2 r2 hu
  exact l.nx _ _ _ (r1.trans r2) ((hsl.R (r1.trans r2)).set i hu) hp
theorem sx_augAdd (i : Nat) (hN : X.N.Nodup) (he : PX X E e m) (hi : X.N[i]? = some x := by rfl) (hx : X.env.scope.names.lookup x = some .local := by kernel_rfl) : SX X E (.AugAssign (.Name x pos') .Add e pos) (sAug i (fI (· + ·)) m) :=
  sx_augR i hN iop_add (fun W => opD_I0 fun i j _ => .int _) he hi hx
theorem sx_augSub (i : Nat) (hN : X.N.Nodup) (he : PX X E e m) (hi : X.N[i]? = some x := by rfl) (hx : X.env.scope.names.lookup x = some .local := by kernel_rfl) : SX X E (.AugAssign (.Name x pos') .Sub e pos) (sAug i (fI (· - ·)) m) :=
  sx_augR i hN iop_sub (fun W => opD_I0 fun i j _ => .int _) he hi hx
theorem das2 {W : Wld} {K : PySem.W.Frag} {H : Hp} {vs : List V} {a b : D} (h : Das W K H vs [a, b]) : ∃ v u, vs = [v, u] ∧ Da W K H v a ∧ Da W K H u b := by
  cases h with
  | cons h1 r =>
    cases r with
    | cons h2 r =>
      cases r
      exact ⟨_, _, rfl, h1, h2⟩
theorem das3 {W : Wld} {K : PySem.W.Frag} {H : Hp} {vs : List V} {a b c : D} (h : Das W K H vs [a, b, c]) : ∃ v u t, vs = [v, u, t] ∧ Da W K H v a ∧ Da W K H u b ∧ Da W K H t c := by
  cases h with
  | cons h1 r =>
    obtain ⟨v, u, rfl, h2, h3⟩ := das2 r
    exact ⟨_, _, _, rfl, h1, h2, h3⟩
theorem sx_par (i j : Nat) {a b : Expr} {ma : AM} {px py pt pt2 : Pos} {kt k2} (hN : X.N.Nodup) (ha : AX X E [a, b] ma) (hc : X.calm = true := by rfl) (hi : X.N[i]? = some x := by rfl) (hj : X.N[j]? = some y := by rfl) (hij : i ≠ j := by decide)
    (hx : X.env.scope.names.lookup x = some .local := by kernel_rfl) (hy : X.env.scope.names.lookup y = some .local := by kernel_rfl)
    (hw : swappedStores [.Tuple [.Name x px, .Name y py] kt pt] (.Tuple [a, b] k2 pt2) X.env = pure (some [x, y]) := by rfl)
    (hs : swapsWithSole [.Tuple [.Name x px, .Name y py] kt pt] (.Tuple [a, b] k2 pt2) pos.line X.env = pure false := by rfl) :
    SX X E (.Assign [.Tuple [.Name x px, .Name y py] kt pt] (.Tuple [a, b] k2 pt2) pos) (sPar i j ma) := by
  obtain ⟨t, p, ev⟩ := ha
  refine ⟨_, ps_par hc hN hi hj hij hx hy p hw hs, fun W σ H Z δ F hsl ok hm l => ?_⟩
  refine ev W σ H _ δ _ F.ex hsl ok hm ?_ l.ex
  rintro vs H1 ds r1 hv ⟨a, b, rfl, hp⟩
  obtain ⟨v, u, rfl, h1, h2⟩ := das2 hv
  exact ⟨v, u, rfl, l.nx _ _ _ r1 (((hsl.R r1).set i h1).set j h2) hp⟩
theorem sx_par3 (i j q : Nat) {a b c : Expr} {ma : AM} {px py pz pt pt2 : Pos} {kt k2} (hN : X.N.Nodup) (ha : AX X E [a, b, c] ma) (hc : X.calm = true := by rfl) (hi : X.N[i]? = some x := by rfl) (hj : X.N[j]? = some y := by rfl) (hq : X.N[q]? = some z := by rfl)
    (hij : i ≠ j := by decide) (hil : i ≠ q := by decide) (hjl : j ≠ q := by decide)
    (hx : X.env.scope.names.lookup x = some .local := by kernel_rfl) (hy : X.env.scope.names.lookup y = some .local := by kernel_rfl) (hz : X.env.scope.names.lookup z = some .local := by kernel_rfl)
    (hw : swappedStores [.Tuple [.Name x px, .Name y py, .Name z pz] kt pt] (.Tuple [a, b, c] k2 pt2) X.env = pure (some [x, y, z]) := by rfl)
    (hs : swapsWithSole [.Tuple [.Name x px, .Name y py, .Name z pz] kt pt] (.Tuple [a, b, c] k2 pt2) pos.line X.env = pure false := by rfl) :
    SX X E (.Assign [.Tuple [.Name x px, .Name y py, .Name z pz] kt pt] (.Tuple [a, b, c] k2 pt2) pos) (sPar3 i j q ma) := by
  obtain ⟨t, p, ev⟩ := ha
  refine ⟨_, ps_par3 hc hN hi hj hq hij hil hjl hx hy hz p hw hs, fun W σ H Z δ F hsl ok hm l => ?_⟩
  refine ev W σ H _ δ _ F.ex hsl ok hm ?_ l.ex
  rintro vs H1 ds r1 hv ⟨a, b, c, rfl, hp⟩
  obtain ⟨v, u, t, rfl, h1, h2, h3⟩ := das3 hv
  exact ⟨v, u, t, rfl, l.nx _ _ _ r1 ((((hsl.R r1).set i h1).set j h2).set q h3) hp⟩
end
abbrev mSub (a b : EM) : EM := mOp (fI (· - ·)) a b
abbrev mMul (a b : EM) : EM := mOp (fIc CMul (· * ·)) a b
abbrev mFdiv (a b : EM) : EM := mOp (fIc CDivW (· / ·)) a b
abbrev mMod (a b : EM) : EM := mOp (fIc (fun _ j => 0 < j) (· % ·)) a b
abbrev mPow (a b : EM) : EM := mOp (fIc CPow fun i j => i ^ j.toNat) a b
abbrev fLt : D → D → D → Prop := fIB fun i j => decide (i < j)
abbrev fLe : D → D → D → Prop := fIB fun i j => decide (i ≤ j)
abbrev fGt : D → D → D → Prop := fIB fun i j => decide (j < i)
abbrev fGe : D → D → D → Prop := fIB fun i j => decide (j ≤ i)
/-! ## a def by its body, told once more -/
section
variable {P : Program} {w : World} {K : PySem.W.Frag} {mg : Str → Option Value} {base : Heap} {x nm : Str} {st : Stmt} {k : Nat} {N ps : List Str} {m : SM}
abbrev cxF (P : Program) (w : World) (K : PySem.W.Frag) (mg : Str → Option Value) (base : Heap) (N : List Str) (nm : Str) (st : Stmt) (p : He.Defn) (A : Around) (outer : List PySem.Env) (s : Shared) (H : Hp) (E : XK) : Cx :=
  cxOf (L2.CX P w) P w K mg base N nm (defScope st) (He.fAd K p) (.ref (He.codeOf K p)) A outer s H E
theorem good_fd (p : He.Defn) (hm : mg x = some (.ref (He.fAd K p))) (F : ∃ fd, FunD K nm nm (defArgs st) (defBody st) (defScope st) [] [] (He.fAd K p) fd) (S : FnScope N ps (defScope st))
    (hb : ∀ (kV doc pm : Value) (an : Option Addr) (cdv ct : Value) (us : List Value), us.length = ps.length → bindArgs (PySem.W.fnOf nm nm (defArgs st) (defBody st) (defScope st) .none kV doc pm an cdv ct) ⟨us, []⟩ = pure (ps.zip us))
    (body : ∀ (A : Around) (outer : List PySem.Env) (s : Shared) (H : Hp) (E : XK), Room k (cxF P w K mg base N nm st p A outer s H E).A → BX (cxF P w K mg base N nm st p A outer s H E) E (defBody st) m) : Good P w K mg base x nm st (k + 1) ps (funM N.length m) := by
  obtain ⟨fd, F⟩ := F
  exact good_of p hm F S (binds_fd F hb) body
end
end Fw
/-! # FwPure: wishes over data: loops, and what is unfolded -/
namespace Fw
open PySem PySem.Spec PyProof.Rows L2
theorem forGo_inv {g : GM} {body : SM} {F : SE} {I : Env → Prop} : ∀ (ds : List D) (δ : Env), I δ →
    (∀ d δ (k : Env → Prop), d ∈ ds → I δ → (∀ δ', I δ' → k δ') → g d δ fun δ2 => body δ2 { F with nx := k, ct := k, bk := F.nx }) → (∀ δ, I δ → F.nx δ) → forGo g body F ds δ
  | [], δ, h, _, e => e δ h
  | d :: ds, δ, h, st, e => by
    show g d δ fun δ2 => body δ2 { F with nx := forGo g body F ds, ct := forGo g body F ds, bk := F.nx }
    exact st d δ _ List.mem_cons_self h fun δ' h' => forGo_inv ds δ' h' (fun d δ k hd => st d δ k (List.mem_cons_of_mem _ hd)) e
/-- one more element done: the invariant speaks of what is left -/
theorem forGo_cons {g : GM} {body : SM} {F : SE} {d : D} {ds : List D} {δ : Env} (h : g d δ fun δ2 => body δ2 { F with nx := forGo g body F ds, ct := forGo g body F ds, bk := F.nx }) : forGo g body F (d :: ds) δ := h
theorem forGo_nil {g : GM} {body : SM} {F : SE} {δ : Env} (h : F.nx δ) : forGo g body F [] δ := h
theorem whGo_done {c : TM} {body : SM} {F : SE} {δ : Env} (h : c δ (fun p => p = false ∧ F.nx δ) F.ex) (mono : ∀ (a b : Bool → Prop) (e : EX → Prop), (∀ p, a p → b p) → c δ a e → c δ b e) : sWhile c body δ F :=
  ⟨1, mono _ _ _ (fun p ⟨e, hp⟩ => by subst e; exact hp) h⟩
theorem fAdd_int {i j : Int} {z : D} : fAdd (.int i) (.int j) z ↔ z = .int (i + j) := Iff.rfl
theorem fAdd_lst {xs ys : List D} {z : D} : fAdd (.lst xs) (.lst ys) z ↔ xs.length + ys.length ≤ 16777216 ∧ z = .lst (xs ++ ys) := Iff.rfl
theorem fAdd_tup {xs ys : List D} {z : D} : fAdd (.tup xs) (.tup ys) z ↔ xs.length + ys.length ≤ 16777216 ∧ z = .tup (xs ++ ys) := Iff.rfl
theorem fI_int {g : Int → Int → Int} {i j : Int} {z : D} : fI g (.int i) (.int j) z ↔ z = .int (g i j) := ⟨fun ⟨a, b, h1, h2, h⟩ => by cases h1; cases h2; exact h, fun h => ⟨i, j, rfl, rfl, h⟩⟩
theorem fIc_int {C : Int → Int → Prop} {g : Int → Int → Int} {i j : Int} {z : D} : fIc C g (.int i) (.int j) z ↔ C i j ∧ z = .int (g i j) := ⟨fun ⟨a, b, h1, h2, h⟩ => by cases h1; cases h2; exact h, fun h => ⟨i, j, rfl, rfl, h⟩⟩
theorem fIB_int {g : Int → Int → Bool} {i j : Int} {z : D} : fIB g (.int i) (.int j) z ↔ z = .bl (g i j) := ⟨fun ⟨a, b, h1, h2, h⟩ => by cases h1; cases h2; exact h, fun h => ⟨i, j, rfl, rfl, h⟩⟩
theorem fInt_int {i : Int} {z : D} : fInt [.int i] z ↔ z = .int i := ⟨fun ⟨a, h1, h⟩ => by cases h1; exact h, fun h => ⟨i, rfl, h⟩⟩
theorem fAbs_int {i : Int} {z : D} : fAbs [.int i] z ↔ z = .int (if i < 0 then -i else i) := ⟨fun ⟨a, h1, h⟩ => by cases h1; exact h, fun h => ⟨i, rfl, h⟩⟩
theorem fMin_int {i j : Int} {z : D} : fMin [.int i, .int j] z ↔ z = .int (if j < i then j else i) := ⟨fun ⟨a, b, h1, h⟩ => by cases h1; exact h, fun h => ⟨i, j, rfl, h⟩⟩
theorem fIsB_bl {a b : Bool} {z : D} : fIsB (.bl a) (.bl b) z ↔ z = .bl (decide (a = b)) := ⟨fun ⟨p, q, h1, h2, h⟩ => by cases h1; cases h2; exact h, fun h => ⟨a, b, rfl, rfl, h⟩⟩
theorem fNotB_bl {a b : Bool} {z : D} : fNotB (.bl a) (.bl b) z ↔ z = .bl (!decide (a = b)) := ⟨fun ⟨p, q, h1, h2, h⟩ => by cases h1; cases h2; exact h, fun h => ⟨a, b, rfl, rfl, h⟩⟩
theorem fLen_lst {xs : List D} {z : D} : fLen [.lst xs] z ↔ z = .int (xs.length : Nat) := ⟨fun ⟨x, n, h1, h2, h⟩ => by cases h1; cases h2; exact h, fun h => ⟨_, _, rfl, rfl, h⟩⟩
theorem fLen_tup {xs : List D} {z : D} : fLen [.tup xs] z ↔ z = .int (xs.length : Nat) := ⟨fun ⟨x, n, h1, h2, h⟩ => by cases h1; cases h2; exact h, fun h => ⟨_, _, rfl, rfl, h⟩⟩
theorem eqd_int {i j : Int} : eqd (.int i) (.int j) = decide (i = j) := by
  show (i == j) = decide (i = j)
  rfl
theorem eqOk_int {i : Int} : eqOk (.int i) ↔ True := ⟨fun _ => trivial, fun _ => ⟨rfl, Nat.zero_le _⟩⟩
theorem items_lst {xs ds : List D} : itemsD (.lst xs) = some ds ↔ xs = ds := ⟨fun h => Option.some.inj h, fun h => congrArg some h⟩
theorem items_tup {xs ds : List D} : itemsD (.tup xs) = some ds ↔ xs = ds := ⟨fun h => Option.some.inj h, fun h => congrArg some h⟩
theorem fEq_int {i j : Int} {z : D} : fEq (.int i) (.int j) z ↔ z = .bl (decide (i = j)) := by
  unfold fEq
  rw [eqd_int]
  exact ⟨fun h => h.2.2, fun h => ⟨eqOk_int.mpr trivial, eqOk_int.mpr trivial, h⟩⟩
def isIntB : D → Bool | .int _ => true | .bl _ => true | _ => false
def isBoolB : D → Bool | .bl _ => true | _ => false
def isStrB : D → Bool | .str _ => true | _ => false
def isTupB : D → Bool | .tup _ => true | _ => false
def isLstB : D → Bool | .lst _ => true | .scr _ => true | _ => false
theorem kit_int {d : D} (h : isErr d = false) : kitB (tyn d) "int" = some (isIntB d) := by cases d <;> first | (cases h; done) | decide +kernel | rfl
theorem kit_bool {d : D} (h : isErr d = false) : kitB (tyn d) "bool" = some (isBoolB d) := by cases d <;> first | (cases h; done) | decide +kernel | rfl
theorem kit_str {d : D} (h : isErr d = false) : kitB (tyn d) "str" = some (isStrB d) := by cases d <;> first | (cases h; done) | decide +kernel | rfl
theorem kit_tuple {d : D} (h : isErr d = false) : kitB (tyn d) "tuple" = some (isTupB d) := by cases d <;> first | (cases h; done) | decide +kernel | rfl
theorem kit_list {d : D} (h : isErr d = false) : kitB (tyn d) "list" = some (isLstB d) := by cases d <;> first | (cases h; done) | decide +kernel | rfl
theorem at_of {α : Type} {xs : List α} {j : Int} (h0 : 0 ≤ j) (h1 : j < xs.length) : ∃ x, x ∈ xs ∧ atI xs j = some x := by
  unfold atI ixN
  have hl : j.toNat < xs.length := by omega
  have e : (if j < 0 then j + (xs.length : Int) else j) = j := if_neg (by omega)
  refine ⟨xs[j.toNat], List.getElem_mem _, ?_⟩
  simp [h0, h1, hl]
  try omega
end Fw
local macro_rules | `(tactic| walk_at "fws") => `(tactic| simp (config := { failIfUnchanged := false }) only [Fw.funM, Fw.sSeq, Fw.sSet, Fw.sTo, Fw.sDrop, Fw.sRet, Fw.sRetN, Fw.sNx, Fw.sBk, Fw.sCt, Fw.sIf, Fw.sFor, Fw.sAug, Fw.sPar, Fw.sPar3, Fw.sRaise, Fw.sDrPut, Fw.mVar, Fw.mC, Fw.mOp, Fw.mSub, Fw.mMul, Fw.mFdiv, Fw.mMod, Fw.mPow, Fw.mNeg, Fw.mTest, Fw.mNot, Fw.mAnd, Fw.mOr, Fw.mAndV, Fw.mOrV, Fw.mNotV, Fw.mIf, Fw.mChain,   Fw.mTup, Fw.mLst, Fw.mNil, Fw.mCons, Fw.mCall, Fw.mCallK, Fw.mCB, Fw.mDrI, Fw.mDrPop, Fw.mDic, Fw.mGet, Fw.gNm, Fw.gTp, Fw.gCn, Fw.gNl, Fw.iSq, Fw.iDrC, Fw.iRange, Fw.iRange2, Fw.iScr, Fw.tTT, Fw.mIsi, Fw.mIsi2, List.map_cons, List.map_nil, List.length_cons, List.length_nil, List.replicate, List.cons_append, List.nil_append,   List.getElem?_cons_zero, List.getElem?_cons_succ, List.getElem?_nil, List.set_cons_zero, List.set_cons_succ, Option.some.injEq, exists_eq_left', exists_eq_left, Nat.reduceAdd, Nat.reduceSub, true_and, and_true, Fw.fAdd_int, Fw.fAdd_lst, Fw.fAdd_tup, Fw.fI_int, Fw.fIc_int, Fw.fIB_int, Fw.fInt_int, Fw.fAbs_int, Fw.fMin_int, Fw.fIsB_bl, Fw.fNotB_bl, Fw.fLen_lst, Fw.fLen_tup, Fw.fEq_int, Fw.items_lst, Fw.items_tup, List.cons.injEq, Fw.D.int.injEq, Fw.D.bl.injEq, Fw.D.str.injEq, Fw.D.lst.injEq, Fw.D.tup.injEq, and_assoc, exists_and_left, exists_eq_right, exists_eq_right', eq_self_iff_true, Nat.reduceLeDiff])
namespace Fw
open PySem PySem.Spec PyProof.Rows L2
end Fw

/-! # FwErr: an own error with one attribute, by its class and the text of its __init__; _law_begun -/
namespace Fw
open PySem PySem.Spec PyProof.Rows L2
open Evl (Ex)
variable [TabsOf]
section
variable {P : Program} {w : World} {K : PySem.W.Frag} {mg : Str → Option Value} {base : Heap} {n f prm q msg : Str} {st : Stmt} {j : Nat} {p1 p2 p3 p4 p5 p6 p7 p8 p9 p10 : Pos}
theorem errDef_of (p : He.Defn) (hg : mg n = some (.ref (He.ga K n))) (xc : XC K (He.ga K n)) (xi : xiB K (He.ga K n) (He.fAd K p) = true) (no : PySem.W.findIn K (.ref (He.ga K n)) f = some none)
    (F : ∃ fd, FunD K "__init__" q (defArgs st) (defBody st) (defScope st) [] [] (He.fAd K p) fd) (S : FnScope ["self", prm] ["self", prm] (defScope st))
    (hw : mg "WrongError" = some (.ref (He.ga K "WrongError"))) (B : XB K (He.ga K "WrongError")) (hgl : (defScope st).names.lookup ("WrongError" : Str) = some .globalImplicit)
    (hs : (defScope st).names.lookup ("self" : Str) = some .local) (hp : (defScope st).names.lookup prm = some .local) (hd : (prm == ("__debug__" : Str)) = false) (hcd : (prm == ("__classdict__" : Str)) = false)
    (hb : ∀ (kV doc pm : Value) (an : Option Addr) (cdv ct : Value) (us : List Value), us.length = 2 → bindArgs (PySem.W.fnOf "__init__" q (defArgs st) (defBody st) (defScope st) .none kV doc pm an cdv ct) ⟨us, []⟩ = pure (([("self" : Str), prm] : List Str).zip us))
    (body : defBody st = [.Expr (.Call (.Attribute (.Name "WrongError" p1) "__init__" p2) [.Name "self" p3, .Constant (.str msg) j p4] [] p5) p6, .Assign [.Attribute (.Name "self" p7) f p8] (.Name prm p9) p10])
    (hc : ∀ (cdv : Value) (A : Around) (outer : List PySem.Env) (s : Shared) (H : Hp) (E : XK) (X : Cx), X = cxOf L2.CX0 P w K mg base ["self", prm] q (defScope st) (He.fAd K p) cdv A outer s H E → ∃ pl : Sem Bool,
      eval (.Call (.Attribute (.Name "WrongError" p1) "__init__" p2) [.Name "self" p3, .Constant (.str msg) j p4] [] p5) X.env = (do
      let ov ← eval (.Name "WrongError" p1) X.env
      standAt p2.atName
      let (f, first) ← holding [ov] (getMethod ov "__init__" pl)
      callWith p5 f first (backTo p5 (starEach [.Name "self" p3, .Constant (.str msg) j p4] X.env)) (backToKw p5 (keywordEach [] X.env)))) :
    ErrDef P w K mg base n f := by
  obtain ⟨fd, F⟩ := F
  have bd : Binds K fd ["self", prm] [] := binds_fd F hb
  obtain ⟨oc, od, dV, kV, doc, pm, an, cdv, ct, osl, rfl, lk, hcdI, hD, hK⟩ := F.ex
  obtain ⟨h1, h2⟩ := xi_ok xi
  refine ⟨hg, xc, ⟨_, _, _, h1, h2, bd, fn_of lk hcdI S ?_ ?_⟩, no⟩
  · rintro vs H Q E ⟨a, v, rfl, _⟩
    rfl
  · rintro A outer s H vs Q E hr ⟨a, v, rfl, ha, k⟩
    rw [body]
    obtain ⟨pl, hc⟩ := hc cdv A outer s H E _ rfl
    refine ⟨_, pss_cons (ps_expr (pe_winit (hc := hc) hgl hw B (pa_cons (pe_var (i := 0) rfl (.inl hs) (by decide) (by decide)) (pa_cons pe_str pa_nil)))) (pss_one (ps_ost (pe_var (i := 0) rfl (.inl hs) (by decide) (by decide)) (pe_var (i := 1) rfl (.inl hp) hd hcd))), ?_⟩
    refine ⟨.ref a, rfl, ?_⟩
    refine ⟨a, He.ga K n, [.str msg], rfl, by show 1 ≤ 1000; decide, xc.ox, ha, ?_⟩
    exact ⟨v, rfl, .ref a, rfl, a, _, rfl, xc.ox, no, .inl ⟨ha, fun dx h1 h2 => k dx h1 h2⟩⟩
end
end Fw
/-! # FwBegun: the draw is begun -/
namespace Fw
open PySem PySem.Spec PyProof.Rows L2
open Evl (Ex)
variable [TabsOf]
/-- a list that is new -/
def NX (X : Cx) (E : XK) (e : Expr) (m : EM) : Prop := ∃ t, PE X e t ∧ ∀ W (σ : L2.St) H (Q : VK) δ (post : D → Prop) ex, SL W X.K σ H δ → W.ok H → m δ post ex →
  (∀ p H' xs ds, W.R H H' → (∀ b o, W.cut H b = some o → b ≠ p) → W.cut H' p = some (.lst xs) → Das W X.K (W.cut H') xs ds → post (.lst ds) → Q (.ref p) H') → XLink W X.K H E ex → t σ H Q
section
variable {X : Cx} {E : XK} {elt it c : Expr} {scope : Scope} {pos : Pos} {im : IM} {mt : TM} {me : EM} {x y : Str} {i j : Nat} {p1 p2 p3 : Pos}
theorem nx_lc1 (hN : X.N.Nodup) (hi : IX X E (.Name x p1) it im) (he : InBlk X scope fun Y => PX Y L2.E0 elt me) (hc : X.calm = true := by rfl) (ok : blkB X.N X.env.scope scope [(x, i)] = true := by kernel_rfl)
    (hx : scope.names.lookup x = some .local := by kernel_rfl) (hs : ∀ x, foldedSetIterable it X.env x = pure x := by intro _; rfl) :
    NX X E (.ListComp elt [⟨.Name x p1, it, [], 0⟩] scope pos) (mLc im (gNm i) tTT me [i]) := by
  have b := blk_ok ok
  obtain ⟨t, p, e⟩ := hi
  exact ⟨_, pe_lc (te := tS X.K L2.E0 me) hc hN p b (fun s H C cl fp => pg_name hN (b.ix _ List.mem_cons_self) (.inl (lookup_relabel_local hx)) (.inr (lookup_relabel_local hx))) (fun _ _ _ _ _ => pts_nil) (fun s H C cl fp => px_star (he s H C cl fp)) hs,
    fun W => evo_lcN (e W) (fun _ => evgw_name List.mem_cons_self) (fun _ => evt_yes) fun _ => evo_star⟩
/-- name = a list that is new -/
def NSX (X : Cx) (i : Nat) (st : Stmt) (m : EM) : Prop := ∃ t, PS X st t ∧ ∀ W (σ : L2.St) H (Z : Ends) δ (post : D → Prop), SL W X.K σ H δ → W.ok H → m δ post (fun _ => False) →
  (∀ p H' xs ds, W.R H H' → (∀ b o, W.cut H b = some o → b ≠ p) → W.cut H' p = some (.lst xs) → Das W X.K (W.cut H') xs ds → post (.lst ds) → Z.nx (σ.set i (some (.ref p))) H') → t Z σ H
theorem nsx_lc1t {q : Nat} {z : Str} {pz spos : Pos} (hN : X.N.Nodup) (hi : IX X L2.E0 (.Name x p1) it im) (ht : InBlk X scope fun Y => TX Y L2.E0 c mt) (he : InBlk X scope fun Y => PX Y L2.E0 elt me) (hc : X.calm = true := by rfl) (ok : blkB X.N X.env.scope scope [(x, i)] = true := by kernel_rfl)
    (hx : scope.names.lookup x = some .local := by kernel_rfl) (hs : ∀ x, foldedSetIterable it X.env x = pure x := by intro _; rfl) (hz : X.N[q]? = some z := by rfl) (hzl : X.env.scope.names.lookup z = some .local := by kernel_rfl)
    (hsw : swapsWith (.ListComp elt [⟨.Name x p1, it, [c], 0⟩] scope pos) (some (.Name z pz)) spos.line X.env = pure true := by rfl) :
    NSX X q (.Assign [.Name z pz] (.ListComp elt [⟨.Name x p1, it, [c], 0⟩] scope pos) spos) (mLc im (gNm i) mt me [i]) := by
  have b := blk_ok ok
  obtain ⟨t, p, e⟩ := hi
  refine ⟨_, ps_setLc (te := tS X.K L2.E0 me) hc hN hz hzl hsw p b (fun s H C cl fp => pg_name hN (b.ix _ List.mem_cons_self) (.inl (lookup_relabel_local hx)) (.inr (lookup_relabel_local hx))) (fun s H C cl fp => (pts_one (tx_star (ht s H C cl fp)) : PTs (X.blk s H scope (compEnvC scope cl C X.env) fp) [c] (tSt X.K L2.E0 mt))) (fun s H C cl fp => px_star (he s H C cl fp)) hs, fun W σ H Z δ post hsl ok hm l => ?_⟩
  exact evo_lcN (e W) (fun _ => evgw_name List.mem_cons_self) (fun _ => evt_star) (fun _ => evo_star) σ H _ δ post _ hsl ok hm (fun p H' xs ds r h1 h2 h3 h4 => l p H' xs ds r h1 h2 h3 h4) fun _ _ _ _ _ z => z
end
abbrev W00 (K : PySem.W.Frag) : Wld := ⟨none, [], TabsOf.tb K, []⟩
theorem w00_ok {K : PySem.W.Frag} {H : Hp} (h : LamX.Tabs (TabsOf.tb K) H) : (W00 K).ok H := ⟨(fun _ _ _ z => nomatch z), h, (fun _ z => nomatch z), (fun _ z => nomatch z), (fun _ z => nomatch z)⟩
theorem w00_M {K : PySem.W.Frag} (b : Addr) : b ∉ (W00 K).M := fun z => nomatch z
def absI (i : Int) : Int := if i < 0 then -i else i
theorem absI_nn (i : Int) : 0 ≤ absI i := by
  unfold absI
  split <;> omega
/-- what _law_begun does -/
def spBegun (K : PySem.W.Frag) : Sp := fun vs H Q _ => ∃ (a : Addr) (ns : List Int), vs = [.ref a] ∧ SqL K H a (ns.map V.int) ∧ ns.length ≤ 16777216 ∧ LamX.Tabs (TabsOf.tb K) H ∧
  ∀ d l c H', (W00 K).R H H' → (W00 K).cut H d = none → (W00 K).cut H l = none → (W00 K).cut H c = none → DrawOk H' d l c (ns.map absI) → Q (.ref d) H'
theorem das_ints {W : Wld} {K : PySem.W.Frag} {H : Hp} : ∀ {ns : List Int} {vs : List V}, Das W K H vs (ns.map D.int) → vs = ns.map V.int
  | [], _, .nil => rfl
  | n :: ns, _, .cons h r => by
    cases h
    rw [das_ints r]
    rfl
theorem sqL_cut {W : Wld} {K : PySem.W.Frag} {H : Hp} {a : Addr} {xs : List V} (ha : ∀ o, H a = some o → a ∉ W.M) (h : SqL K H a xs) : SqL K (W.cut H) a xs := by
  have keep : ∀ {o : HO}, (∀ ps, o ≠ .tbl ps) → H a = some o → W.cut H a = some o := fun {o} no e => by
    unfold Wld.cut
    rw [if_neg (ha _ e), e]
    split
    · rename_i ps z
      cases z
      exact absurd rfl (no ps)
    · rfl
  rcases h with (h | ⟨o, h⟩) | h
  · exact .inl (.inl (keep (fun _ z => nomatch z) h))
  · exact .inl (.inr ⟨o, keep (fun _ z => nomatch z) h⟩)
  · exact .inr h
section
variable {P : Program} {w : World} {K : PySem.W.Frag} {mg : Str → Option Value} {base : Heap} {st s1 : Stmt} {e3 : Expr} {m1 m3 : EM} {k j1 j2 j3 j4 ja jb : Nat} {q1 q2 q3 q4 qa qb qc pos pos2 : Pos}
theorem begun_ok (p : He.Defn) (F : ∃ fd, FunD K "_law_begun" "_law_begun" (defArgs st) (defBody st) (defScope st) [] [] (He.fAd K p) fd) (S : FnScope ["script", "large", "grain"] ["script"] (defScope st))
    (hl : (defScope st).names.lookup ("large" : Str) = some .local)
    (hb : ∀ (kV doc pm : Value) (an : Option Addr) (cdv ct : Value) (us : List Value), us.length = 1 → bindArgs (PySem.W.fnOf "_law_begun" "_law_begun" (defArgs st) (defBody st) (defScope st) .none kV doc pm an cdv ct) ⟨us, []⟩ = pure ((["script"] : List Str).zip us))
    (body : defBody st = [s1, .Return (some (.Dict [some (.Constant (.str "large") j1 q1), some (.Constant (.str "rest") j2 q2), some (.Constant (.str "cells") j3 q3), some (.Constant (.str "turn") j4 q4)] [.Name "large" qa, .Constant (.int 0) ja qb, e3, .Constant (.int 0) jb qc] pos)) pos2])
    (h1 : ∀ (A : Around) (outer : List PySem.Env) (s : Shared) (H : Hp) (E : XK), Room k (cxF P w K mg base ["script", "large", "grain"] "_law_begun" st p A outer s H E).A → NSX (cxF P w K mg base ["script", "large", "grain"] "_law_begun" st p A outer s H E) 1 s1 m1)
    (h3 : ∀ (A : Around) (outer : List PySem.Env) (s : Shared) (H : Hp) (E : XK), Room k (cxF P w K mg base ["script", "large", "grain"] "_law_begun" st p A outer s H E).A → NX (cxF P w K mg base ["script", "large", "grain"] "_law_begun" st p A outer s H E) E e3 m3)
    (d1 : ∀ (ns : List Int) (post : D → Prop) (ex : EX → Prop), ns.length ≤ 16777216 → (∀ lg : List Int, (∀ x ∈ lg, 0 ≤ x) → post (.lst (lg.map D.int))) → m1 [some (.scr ns), none, none] post ex)
    (d3 : ∀ (ns : List Int) (x : Option D) (post : D → Prop) (ex : EX → Prop), ns.length ≤ 16777216 → post (.lst ((ns.map absI).map D.int)) → m3 [some (.scr ns), x, none] post ex) :
    ∃ fd, Binds K fd ["script"] [] ∧ PySem.W.keepIn K (.ref (He.fAd K p)) = true ∧ FnOk P w K mg base (L2.CX P w) (k + 1) (He.fAd K p) fd ["script"] (spBegun K) := by
  obtain ⟨fd, F⟩ := F
  have bd : Binds K fd ["script"] [] := binds_fd F hb
  have kp := F.kp
  obtain ⟨oc, od, dV, kV, doc, pm, an, cdv, ct, osl, rfl, lk, hcd, hD, hK⟩ := F.ex
  obtain ⟨c, rfl⟩ := He.codeIn_ref hcd
  have ec : He.codeOf K p = c := He.codeOf_eq lk rfl
  refine ⟨_, bd, kp, fn_of lk hcd S ?_ ?_⟩
  · rintro vs H Q E ⟨a, ns, rfl, _⟩
    rfl
  rintro A outer s H vs Q E hr ⟨a, ns, rfl, hsq, hlen, htb, hq⟩
  have h1 := h1 A outer s H E
  have h3 := h3 A outer s H E
  unfold cxF at h1 h3
  rw [ec] at h1 h3
  obtain ⟨t1, p1, v1⟩ := h1 hr
  obtain ⟨t3, p3, v3⟩ := h3 hr
  rw [body]
  refine ⟨_, pss_cons p1 (pss_one (ps_ret (pe_disp (pps_cons pe_str (pe_var (i := 1) rfl (.inl hl) (by decide) (by decide)) (pps_cons pe_str pe_int (pps_cons pe_str p3 (pps_cons pe_str pe_int pps_nil)))) rfl rfl (by intro z; cases z) (by show 4 ≤ 15; decide)))), ?_⟩
  have ok0 := w00_ok htb
  have s0 : SL (W00 K) K (L2.start ["script", "large", "grain"] [.ref a]) H [some (.scr ns), none, none] := by
    refine ⟨rfl, rfl, fun i d e => ?_⟩
    match i, e with
    | 0, e =>
      cases e
      exact ⟨.ref a, rfl, .scr (sqL_cut (fun _ _ => w00_M a) hsq)⟩
    | 1, e => cases e
    | 2, e => cases e
    | i + 3, e => cases e
  refine v1 (W00 K) _ H _ _ (fun z => ∃ lg : List Int, (∀ x ∈ lg, 0 ≤ x) ∧ z = .lst (lg.map D.int)) s0 ok0 (d1 ns _ _ hlen fun lg h => ⟨lg, h, rfl⟩) ?_
  rintro l H1 xs ds r1 new gl gd ⟨lg, hlg, e⟩
  cases e
  have ex := das_ints gd
  subst ex
  have nl : (W00 K).cut H l = none := by
    cases e : (W00 K).cut H l with
    | none => rfl
    | some o => exact absurd rfl (new _ _ e)
  intro d hd
  have nd : (W00 K).cut H d = none := by
    cases e : (W00 K).cut H d with
    | none => rfl
    | some o =>
      have := cut_sub _ _ (r1.ex _ _ e)
      rw [hd] at this
      cases this
  have hdl : l ≠ d := by
    rintro rfl
    have := cut_sub _ _ gl
    rw [hd] at this
    cases this
  have hs1 : SL (W00 K) K ((L2.start ["script", "large", "grain"] [.ref a]).set 1 (some (.ref l))) H1 [some (.scr ns), some (.lst (lg.map D.int)), none] := (s0.R r1).set 1 (.lst gl gd)
  refine ⟨.ref l, rfl, ?_⟩
  show t3 _ _ _
  refine v3 ((W00 K).grow d (.dK [])) _ _ _ _ (fun z => z = .lst ((ns.map absI).map D.int)) (fun _ => False) (hs1.grow r1.ok hd) (grow_new r1.ok hd own_dK) (d3 ns _ _ _ hlen rfl) ?_ (fun _ _ _ _ _ z => z.elim)
  rintro c0 H2 xs ds r2 hne hc hds e
  cases e
  have exs := das_ints hds
  subst exs
  have up : ∀ {b : Addr} {o : HO}, (W00 K).cut H1 b = some o → ((W00 K).grow d (.dK [])).cut (upd H1 d (.dK [])) b = some o := fun {b o} h => grow_in hd (R_new r1.ok hd).ex _ _ h
  have nc : (W00 K).cut H c0 = none := by
    cases e : (W00 K).cut H c0 with
    | none => rfl
    | some o => exact absurd rfl (hne _ _ (up (r1.ex _ _ e)))
  have hcl : l ≠ c0 := hne _ _ (up gl)
  have hcd : c0 ≠ d := by
    rintro rfl
    rw [grow_cut, if_pos rfl] at hc
    cases hc
  refine ⟨(grow_of r2.ok).2, [(.inr "large", .ref l), (.inr "rest", .int 0), (.inr "cells", .ref c0), (.inr "turn", .int 0)], rfl, by show 4 ≤ 15; decide, ?_⟩
  have em : mergeK [] [(.inr "large", .ref l), (.inr "rest", .int 0), (.inr "cells", .ref c0), (.inr "turn", .int 0)] = drK l c0 0 0 := rfl
  rw [em]
  refine hq d l c0 _ (r1.trans (grow_done r1.ok hd own_dK own_dK r2).1) nd nl nc ⟨0, 0, lg, upd_same, by decide, by decide, ?_, hlg, ?_, ?_, hcl⟩
  · rw [upd_ne hdl]
    exact cut_sub _ _ (r2.ex _ _ (up gl))
  · rw [upd_ne hcd]
    exact cut_sub _ _ hc
  · intro x hx
    obtain ⟨y, _, rfl⟩ := List.mem_map.mp hx
    exact absI_nn y
end
end Fw
/-! # FwLaw: the law's own body: the draw begun, then the rest -/
namespace Fw
open PySem PySem.Spec PyProof.Rows L2
open Evl (Ex)
def mB1 : EM := mLc (iScr (mVar 0)) (gNm 2) (mTest (mOp fGe (mCB fAbs (mCons (mVar 2) mNil)) (mPow (mC (.int 10)) (mC (.int 18))))) (mSub (mCB fAbs (mCons (mVar 2) mNil)) (mPow (mC (.int 10)) (mC (.int 18)))) [2]
def mB3 : EM := mLc (iScr (mVar 0)) (gNm 2) tTT (mCB fAbs (mCons (mVar 2) mNil)) [2]
theorem lc_abs {a x : Option D} {k : List D → Prop} : ∀ (ns acc : List Int), acc.length + ns.length ≤ 16777216 → k ((acc ++ ns.map absI).map D.int) →
    lcGo (gNm 2) tTT (mCB fAbs (mCons (mVar 2) mNil)) [a, x, none] k (ns.map D.int) (acc.map D.int)
  | [], acc, _, h => by
    rw [List.map_nil, List.append_nil] at h
    exact h
  | n :: ns, acc, hl, h => by
    rw [List.map_cons]
    unfold lcGo
    walk_at "fws"
    simp only [if_true]
    walk_at "fws"
    rw [List.length_cons] at hl
    refine ⟨by rw [List.length_map]; omega, ?_⟩
    have := lc_abs (a := a) (x := x) (k := k) ns (acc ++ [absI n]) (by rw [List.length_append, List.length_singleton]; omega) (by simpa using h)
    rw [List.map_append] at this
    exact this
theorem lc_big {a x : Option D} {k : List D → Prop} (hk : ∀ lg : List Int, (∀ z ∈ lg, 0 ≤ z) → k (lg.map D.int)) : ∀ (ns acc : List Int), acc.length + ns.length ≤ 16777216 → (∀ z ∈ acc, 0 ≤ z) →
    lcGo (gNm 2) (mTest (mOp fGe (mCB fAbs (mCons (mVar 2) mNil)) (mPow (mC (.int 10)) (mC (.int 18))))) (mSub (mCB fAbs (mCons (mVar 2) mNil)) (mPow (mC (.int 10)) (mC (.int 18)))) [a, x, none] k (ns.map D.int) (acc.map D.int)
  | [], acc, _, h => hk acc h
  | n :: ns, acc, hl, h => by
    have cp : CPow 10 18 := ⟨by decide, by decide, by decide⟩
    rw [List.map_cons]
    rw [List.length_cons] at hl
    unfold lcGo
    walk_at "fws"
    refine ⟨cp, ?_⟩
    by_cases hb : (10 : Int) ^ Int.toNat 18 ≤ (if n < 0 then -n else n)
    · rw [if_pos (decide_eq_true hb)]
      refine ⟨cp, by rw [List.length_map]; omega, ?_⟩
      have := lc_big (a := a) (x := x) hk ns (acc ++ [(if n < 0 then -n else n) - (10 : Int) ^ Int.toNat 18]) (by rw [List.length_append, List.length_singleton]; omega) (by
        intro z hz
        rcases List.mem_append.mp hz with hz | hz
        · exact h z hz
        · rw [List.mem_singleton.mp hz]
          omega)
      rw [List.map_append] at this
      exact this
    · rw [if_neg (by simpa using hb)]
      exact lc_big (a := a) (x := x) hk ns acc (by omega) h
theorem d1_ok (ns : List Int) (post : D → Prop) (ex : EX → Prop) (hl : ns.length ≤ 16777216) (h : ∀ lg : List Int, (∀ x ∈ lg, 0 ≤ x) → post (.lst (lg.map D.int))) : mB1 [some (.scr ns), none, none] post ex := by
  unfold mB1 mLc
  walk_at "fws"
  exact ⟨ns, rfl, lc_big (acc := []) (fun lg hlg => h lg hlg) ns (by simpa using hl) (fun _ z => nomatch z)⟩
theorem d3_ok (ns : List Int) (x : Option D) (post : D → Prop) (ex : EX → Prop) (hl : ns.length ≤ 16777216) (h : post (.lst ((ns.map absI).map D.int))) : mB3 [some (.scr ns), x, none] post ex := by
  unfold mB3 mLc
  walk_at "fws"
  exact ⟨ns, rfl, lc_abs (acc := []) ns (by simpa using hl) (by simpa using h)⟩
end Fw
namespace Fw
open PySem PySem.Spec PyProof.Rows L2
open Evl (Ex)
variable [TabsOf]
/-- what the law does: True -/
def spLaw (K : PySem.W.Frag) : Sp := fun vs H Q _ => ∃ (a : Addr) (ns : List Int), vs = [.ref a] ∧ SqL K H a (ns.map V.int) ∧ ns.length ≤ 16777216 ∧ LamX.Tabs (TabsOf.tb K) H ∧ ∀ H', Q (.bl true) H'
section
variable {P : Program} {w : World} {K : PySem.W.Frag} {mg : Str → Option Value} {base : Heap} {st : Stmt} {rest : List Stmt} {m : SM} {k kb : Nat} {N' : List Str} {p1 p2 p3 p4 p5 : Pos}
theorem law_ok {fd : FuncData} (p pb : He.Defn) (F : FunD K "law" "law" (defArgs st) (defBody st) (defScope st) [] [] (He.fAd K p) fd) (S : FnScope ("script" :: "draw" :: N') ["script"] (defScope st))
    (B : ∃ fd, Binds K fd ["script"] [] ∧ PySem.W.keepIn K (.ref (He.fAd K pb)) = true ∧ FnOk P w K mg base (L2.CX P w) kb (He.fAd K pb) fd ["script"] (spBegun K)) (hkb : kb ≤ k)
    (hgb : mg "_law_begun" = some (.ref (He.fAd K pb))) (hglb : (defScope st).names.lookup ("_law_begun" : Str) = some .globalImplicit) (hs : (defScope st).names.lookup ("script" : Str) = some .local) (hd : (defScope st).names.lookup ("draw" : Str) = some .local)
    (body : defBody st = .Assign [.Name "draw" p1] (.Call (.Name "_law_begun" p2) [.Name "script" p3] [] p4) p5 :: rest)
    (h : ∀ (A : Around) (outer : List PySem.Env) (s : Shared) (H : Hp) (E : XK), Room k (cxF P w K mg base ("script" :: "draw" :: N') "law" st p A outer s H E).A → BX (cxF P w K mg base ("script" :: "draw" :: N') "law" st p A outer s H E) E rest m)
    (hsw : ∀ (A : Around) (outer : List PySem.Env) (s : Shared) (H : Hp) (E : XK) (X : Cx), X = cxF P w K mg base ("script" :: "draw" :: N') "law" st p A outer s H E → swapsWith (.Call (.Name "_law_begun" p2) [.Name "script" p3] [] p4) (some (.Name "draw" p1)) p5.line X.env = pure false)
    (pu : ∀ ns : List Int, ns.length ≤ 16777216 → m (some (.scr ns) :: some .drw :: List.replicate N'.length none) { nx := fun _ => False, rt := fun d => d = .bl true }) :
    FnOk P w K mg base (L2.CX P w) (k + 1) (He.fAd K p) fd ["script"] (spLaw K) := by
  obtain ⟨fb, bb, kpb, okb⟩ := B
  obtain ⟨oc, od, dV, kV, doc, pm, an, cdv, ct, osl, rfl, lk, hcd, hD, hK⟩ := F.ex
  obtain ⟨c, rfl⟩ := He.codeIn_ref hcd
  have ec : He.codeOf K p = c := He.codeOf_eq lk rfl
  refine fn_of lk hcd S ?_ ?_
  · rintro vs H Q E ⟨a, ns, rfl, _⟩
    rfl
  rintro A outer s H vs Q E hr ⟨a, ns, rfl, hsq, hlen, htb, hq⟩
  have h := h A outer s H E
  have hsw := hsw A outer s H E _ rfl
  unfold cxF at h hsw
  rw [ec] at h hsw
  obtain ⟨t, q, ev⟩ := h hr
  rw [body]
  refine ⟨_, pss_cons (ps_set (i := 1) S.nd rfl (.inl hd) (pe_call okb (hr.mono hkb) hglb hgb kpb bb .nil cx_passes (pa_cons (pe_var (i := 0) rfl (.inl hs) (by decide) (by decide)) pa_nil)) hsw (.inr hd)) q, ?_⟩
  refine ⟨.ref a, rfl, a, ns, rfl, hsq, hlen, htb, ?_⟩
  intro d l c0 H' r nd nl nc dr
  have ok' : (⟨some (d, l, c0), ns.map absI, TabsOf.tb K, []⟩ : Wld).ok H' := ⟨(fun _ _ _ z => by cases z; exact dr), r.ok.tb, (fun _ z => nomatch z), (fun _ z => nomatch z), (fun _ z => nomatch z)⟩
  have hsq' : SqL K (Wld.cut ⟨some (d, l, c0), ns.map absI, TabsOf.tb K, []⟩ H') a (ns.map V.int) := by
    have h1 : SqL K ((W00 K).cut H) a (ns.map V.int) := sqL_cut (fun _ _ => w00_M a) hsq
    have out : ∀ {o : HO}, (W00 K).cut H a = some o → Wld.cut ⟨some (d, l, c0), ns.map absI, TabsOf.tb K, []⟩ H' a = some o := by
      intro o e
      have e' := r.ex _ _ e
      have ne : a ∉ (⟨some (d, l, c0), ns.map absI, TabsOf.tb K, []⟩ : Wld).M := by
        intro z
        have z : a ∈ [d, l, c0] := z
        simp only [List.mem_cons, List.not_mem_nil, or_false] at z
        rcases z with rfl | rfl | rfl
        · rw [nd] at e
          cases e
        · rw [nl] at e
          cases e
        · rw [nc] at e
          cases e
      unfold Wld.cut at e' ⊢
      rw [if_neg (w00_M a)] at e'
      rw [if_neg ne]
      exact e'
    rcases h1 with (h1 | ⟨o, h1⟩) | h1
    · exact .inl (.inl (out h1))
    · exact .inl (.inr ⟨o, out h1⟩)
    · exact .inr h1
  refine ev ⟨some (d, l, c0), ns.map absI, TabsOf.tb K, []⟩ _ H' _ _ _ ⟨?_, rfl, ?_⟩ ok' (pu ns hlen) ⟨fun _ _ _ _ _ z => z.elim, ?_, fun _ _ _ _ _ z => z.elim, fun _ _ _ _ _ z => z.elim, fun _ _ _ _ _ z => z.elim⟩
  · unfold L2.start
    simp
  · intro i dd e
    match i, e with
    | 0, e =>
      cases e
      exact ⟨.ref a, rfl, .scr hsq'⟩
    | 1, e =>
      cases e
      exact ⟨.ref d, rfl, .drw rfl⟩
    | i + 2, e =>
      rw [List.getElem?_cons_succ, List.getElem?_cons_succ, List.getElem?_replicate] at e
      split at e <;> cases e
  · intro v H2 dd r2 hv hp
    cases hp
    cases hv
    exact hq H2
end
end Fw
namespace K01
open PySem PySem.Spec PyProof.Rows L2 Fw
-- GENERATED-HEAD firstwrong_k01_sorts_and_values
/-! ### the text by its places -/
def top (i : Nat) : Stmt := PySem.Challenge.pw_firstwrong_k01_sorts_and_values.main.body.getD i (.Pass ⟨0, 0, 0, 0⟩)
abbrev s_BadNumber_init : Stmt := inClass (top 2) 0
def d_BadNumber_init : He.DefD := ⟨("BadNumber", some "__init__"), "__init__", "BadNumber.__init__", defArgs s_BadNumber_init, defBody s_BadNumber_init, defScope s_BadNumber_init, [], []⟩
abbrev s_is_number : Stmt := top 4
def d_is_number : He.DefD := ⟨("is_number", none), "is_number", "is_number", defArgs s_is_number, defBody s_is_number, defScope s_is_number, [], []⟩
abbrev s_is_number_in : Stmt := top 5
def d_is_number_in : He.DefD := ⟨("is_number_in", none), "is_number_in", "is_number_in", defArgs s_is_number_in, defBody s_is_number_in, defScope s_is_number_in, [], []⟩
abbrev s_is_int : Stmt := top 6
def d_is_int : He.DefD := ⟨("is_int", none), "is_int", "is_int", defArgs s_is_int, defBody s_is_int, defScope s_is_int, [], []⟩
abbrev s_is_one_of : Stmt := top 7
def d_is_one_of : He.DefD := ⟨("is_one_of", none), "is_one_of", "is_one_of", defArgs s_is_one_of, defBody s_is_one_of, defScope s_is_one_of, [], []⟩
abbrev s_is_tuple_of : Stmt := top 8
def d_is_tuple_of : He.DefD := ⟨("is_tuple_of", none), "is_tuple_of", "is_tuple_of", defArgs s_is_tuple_of, defBody s_is_tuple_of, defScope s_is_tuple_of, [], []⟩
abbrev s_is_pointer_to : Stmt := top 12
def d_is_pointer_to : He.DefD := ⟨("is_pointer_to", none), "is_pointer_to", "is_pointer_to", defArgs s_is_pointer_to, defBody s_is_pointer_to, defScope s_is_pointer_to, [], []⟩
abbrev s_is_sort : Stmt := top 13
def d_is_sort : He.DefD := ⟨("is_sort", none), "is_sort", "is_sort", defArgs s_is_sort, defBody s_is_sort, defScope s_is_sort, [], []⟩
abbrev s_is_pointer : Stmt := top 14
def d_is_pointer : He.DefD := ⟨("is_pointer", none), "is_pointer", "is_pointer", defArgs s_is_pointer, defBody s_is_pointer, defScope s_is_pointer, [], []⟩
abbrev s_is_value : Stmt := top 15
def d_is_value : He.DefD := ⟨("is_value", none), "is_value", "is_value", defArgs s_is_value, defBody s_is_value, defScope s_is_value, [], []⟩
abbrev s_is_of_sort : Stmt := top 16
def d_is_of_sort : He.DefD := ⟨("is_of_sort", none), "is_of_sort", "is_of_sort", defArgs s_is_of_sort, defBody s_is_of_sort, defScope s_is_of_sort, [], []⟩
abbrev s__law_begun : Stmt := top 18
def d__law_begun : He.DefD := ⟨("_law_begun", none), "_law_begun", "_law_begun", defArgs s__law_begun, defBody s__law_begun, defScope s__law_begun, [], []⟩
abbrev s__law_mixed : Stmt := top 19
def d__law_mixed : He.DefD := ⟨("_law_mixed", none), "_law_mixed", "_law_mixed", defArgs s__law_mixed, defBody s__law_mixed, defScope s__law_mixed, [], []⟩
abbrev s__law_take : Stmt := top 20
def d__law_take : He.DefD := ⟨("_law_take", none), "_law_take", "_law_take", defArgs s__law_take, defBody s__law_take, defScope s__law_take, [], []⟩
abbrev s__law_pick : Stmt := top 21
def d__law_pick : He.DefD := ⟨("_law_pick", none), "_law_pick", "_law_pick", defArgs s__law_pick, defBody s__law_pick, defScope s__law_pick, [], []⟩
abbrev s__law_is_truth : Stmt := top 22
def d__law_is_truth : He.DefD := ⟨("_law_is_truth", none), "_law_is_truth", "_law_is_truth", defArgs s__law_is_truth, defBody s__law_is_truth, defScope s__law_is_truth, [], []⟩
abbrev s__law_caught : Stmt := top 23
def d__law_caught : He.DefD := ⟨("_law_caught", none), "_law_caught", "_law_caught", defArgs s__law_caught, defBody s__law_caught, defScope s__law_caught, [], []⟩
abbrev s__law_size : Stmt := top 24
def d__law_size : He.DefD := ⟨("_law_size", none), "_law_size", "_law_size", defArgs s__law_size, defBody s__law_size, defScope s__law_size, [], []⟩
abbrev s_law : Stmt := top 25
def d_law : He.DefD := ⟨("law", none), "law", "law", defArgs s_law, defBody s_law, defScope s_law, [], []⟩
def fn : List He.DefD := [d_BadNumber_init, d_is_number, d_is_number_in, d_is_int, d_is_one_of, d_is_tuple_of, d_is_pointer_to, d_is_sort, d_is_pointer, d_is_value, d_is_of_sort, d__law_begun, d__law_mixed, d__law_take, d__law_pick, d__law_is_truth, d__law_caught, d__law_size, d_law]
def fa0 : List He.Fa := [.glo "WrongError", .glo "BadNumber", .glo "is_number", .glo "is_number_in", .glo "is_int", .glo "is_one_of", .glo "is_tuple_of", .glo "is_pointer_to", .glo "is_sort", .glo "is_pointer", .glo "is_value", .glo "is_of_sort", .glo "_law_begun", .glo "_law_mixed", .glo "_law_take", .glo "_law_pick", .glo "_law_is_truth", .glo "_law_caught", .glo "_law_size", .glo "law", .free "ValueError", .free "abs", .free "all", .free "bool", .free "int", .free "isinstance", .free "len", .free "min", .free "range", .free "str", .free "tuple"]
def fa : List He.Fa := fa0
def tf : List He.Defn := [("law", none)]
/-! ### the names of each def by slot: parameters, then the others -/
theorem sc_BadNumber_init : FnScope ["self", "part"] ["self", "part"] (defScope s_BadNumber_init) := ⟨rfl, rfl, rfl, by decide +kernel, rfl, by decide +kernel, by decide +kernel⟩
theorem sc_is_number : FnScope ["thing"] ["thing"] (defScope s_is_number) := ⟨rfl, rfl, rfl, by decide +kernel, rfl, by decide +kernel, by decide +kernel⟩
theorem sc_is_number_in : FnScope ["thing", "low", "high"] ["thing", "low", "high"] (defScope s_is_number_in) := ⟨rfl, rfl, rfl, by decide +kernel, rfl, by decide +kernel, by decide +kernel⟩
theorem sc_is_int : FnScope ["thing"] ["thing"] (defScope s_is_int) := ⟨rfl, rfl, rfl, by decide +kernel, rfl, by decide +kernel, by decide +kernel⟩
theorem sc_is_one_of : FnScope ["thing", "words"] ["thing", "words"] (defScope s_is_one_of) := ⟨rfl, rfl, rfl, by decide +kernel, rfl, by decide +kernel, by decide +kernel⟩
theorem sc_is_tuple_of : FnScope ["thing", "many"] ["thing", "many"] (defScope s_is_tuple_of) := ⟨rfl, rfl, rfl, by decide +kernel, rfl, by decide +kernel, by decide +kernel⟩
theorem sc_is_pointer_to : FnScope ["thing", "deep", "around"] ["thing", "deep"] (defScope s_is_pointer_to) := ⟨rfl, rfl, rfl, by decide +kernel, rfl, by decide +kernel, by decide +kernel⟩
theorem sc_is_sort : FnScope ["thing"] ["thing"] (defScope s_is_sort) := ⟨rfl, rfl, rfl, by decide +kernel, rfl, by decide +kernel, by decide +kernel⟩
theorem sc_is_pointer : FnScope ["thing", "slot", "life", "offset", "part"] ["thing"] (defScope s_is_pointer) := ⟨rfl, rfl, rfl, by decide +kernel, rfl, by decide +kernel, by decide +kernel⟩
theorem sc_is_value : FnScope ["sort", "thing"] ["sort", "thing"] (defScope s_is_value) := ⟨rfl, rfl, rfl, by decide +kernel, rfl, by decide +kernel, by decide +kernel⟩
theorem sc_is_of_sort : FnScope ["sort", "thing"] ["sort", "thing"] (defScope s_is_of_sort) := ⟨rfl, rfl, rfl, by decide +kernel, rfl, by decide +kernel, by decide +kernel⟩
theorem sc__law_begun : FnScope ["script", "large", "grain"] ["script"] (defScope s__law_begun) := ⟨rfl, rfl, rfl, by decide +kernel, rfl, by decide +kernel, by decide +kernel⟩
theorem sc__law_mixed : FnScope ["draw", "turn", "found", "great", "blend", "grain"] ["draw"] (defScope s__law_mixed) := ⟨rfl, rfl, rfl, by decide +kernel, rfl, by decide +kernel, by decide +kernel⟩
theorem sc__law_take : FnScope ["draw", "amount", "found"] ["draw", "amount"] (defScope s__law_take) := ⟨rfl, rfl, rfl, by decide +kernel, rfl, by decide +kernel, by decide +kernel⟩
theorem sc__law_pick : FnScope ["draw", "some"] ["draw", "some"] (defScope s__law_pick) := ⟨rfl, rfl, rfl, by decide +kernel, rfl, by decide +kernel, by decide +kernel⟩
theorem sc__law_is_truth : FnScope ["found", "due"] ["found", "due"] (defScope s__law_is_truth) := ⟨rfl, rfl, rfl, by decide +kernel, rfl, by decide +kernel, by decide +kernel⟩
theorem sc__law_caught : FnScope ["work", "caught", "error"] ["work"] (defScope s__law_caught) := ⟨rfl, rfl, rfl, by decide +kernel, rfl, by decide +kernel, by decide +kernel⟩
theorem sc__law_size : FnScope ["draw", "way"] ["draw"] (defScope s__law_size) := ⟨rfl, rfl, rfl, by decide +kernel, rfl, by decide +kernel, by decide +kernel⟩
theorem sc_law : FnScope ["script", "draw", "sorts_here", "sort_here", "odd", "bad", "caught", "turn", "number", "slot_here", "life_here", "far", "pointer", "is_a_pointer", "due"] ["script"] (defScope s_law) := ⟨rfl, rfl, rfl, by decide +kernel, rfl, by decide +kernel, by decide +kernel⟩
/-! ### what the top leaves -/
structure Tx (K : PySem.W.Frag) (mg : Str → Option Value) : Prop where
  g_WrongError : mg "WrongError" = some (.ref (He.ga K "WrongError"))
  g_BadNumber : mg "BadNumber" = some (.ref (He.ga K "BadNumber"))
  g_is_number : mg "is_number" = some (.ref (He.ga K "is_number"))
  g_is_number_in : mg "is_number_in" = some (.ref (He.ga K "is_number_in"))
  g_is_int : mg "is_int" = some (.ref (He.ga K "is_int"))
  g_is_one_of : mg "is_one_of" = some (.ref (He.ga K "is_one_of"))
  g_is_tuple_of : mg "is_tuple_of" = some (.ref (He.ga K "is_tuple_of"))
  g_is_pointer_to : mg "is_pointer_to" = some (.ref (He.ga K "is_pointer_to"))
  g_is_sort : mg "is_sort" = some (.ref (He.ga K "is_sort"))
  g_is_pointer : mg "is_pointer" = some (.ref (He.ga K "is_pointer"))
  g_is_value : mg "is_value" = some (.ref (He.ga K "is_value"))
  g_is_of_sort : mg "is_of_sort" = some (.ref (He.ga K "is_of_sort"))
  g__law_begun : mg "_law_begun" = some (.ref (He.ga K "_law_begun"))
  g__law_mixed : mg "_law_mixed" = some (.ref (He.ga K "_law_mixed"))
  g__law_take : mg "_law_take" = some (.ref (He.ga K "_law_take"))
  g__law_pick : mg "_law_pick" = some (.ref (He.ga K "_law_pick"))
  g__law_is_truth : mg "_law_is_truth" = some (.ref (He.ga K "_law_is_truth"))
  g__law_caught : mg "_law_caught" = some (.ref (He.ga K "_law_caught"))
  g__law_size : mg "_law_size" = some (.ref (He.ga K "_law_size"))
  g_law : mg "law" = some (.ref (He.ga K "law"))
  f_ValueError : mg "ValueError" = none
  f_abs : mg "abs" = none
  f_all : mg "all" = none
  f_bool : mg "bool" = none
  f_int : mg "int" = none
  f_isinstance : mg "isinstance" = none
  f_len : mg "len" = none
  f_min : mg "min" = none
  f_range : mg "range" = none
  f_str : mg "str" = none
  f_tuple : mg "tuple" = none
  d_BadNumber_init : ∃ fd, FunD K "__init__" "BadNumber.__init__" (defArgs s_BadNumber_init) (defBody s_BadNumber_init) (defScope s_BadNumber_init) [] [] (He.fAd K ("BadNumber", some "__init__")) fd
  d_is_number : ∃ fd, FunD K "is_number" "is_number" (defArgs s_is_number) (defBody s_is_number) (defScope s_is_number) [] [] (He.fAd K ("is_number", none)) fd
  d_is_number_in : ∃ fd, FunD K "is_number_in" "is_number_in" (defArgs s_is_number_in) (defBody s_is_number_in) (defScope s_is_number_in) [] [] (He.fAd K ("is_number_in", none)) fd
  d_is_int : ∃ fd, FunD K "is_int" "is_int" (defArgs s_is_int) (defBody s_is_int) (defScope s_is_int) [] [] (He.fAd K ("is_int", none)) fd
  d_is_one_of : ∃ fd, FunD K "is_one_of" "is_one_of" (defArgs s_is_one_of) (defBody s_is_one_of) (defScope s_is_one_of) [] [] (He.fAd K ("is_one_of", none)) fd
  d_is_tuple_of : ∃ fd, FunD K "is_tuple_of" "is_tuple_of" (defArgs s_is_tuple_of) (defBody s_is_tuple_of) (defScope s_is_tuple_of) [] [] (He.fAd K ("is_tuple_of", none)) fd
  d_is_pointer_to : ∃ fd, FunD K "is_pointer_to" "is_pointer_to" (defArgs s_is_pointer_to) (defBody s_is_pointer_to) (defScope s_is_pointer_to) [] [] (He.fAd K ("is_pointer_to", none)) fd
  d_is_sort : ∃ fd, FunD K "is_sort" "is_sort" (defArgs s_is_sort) (defBody s_is_sort) (defScope s_is_sort) [] [] (He.fAd K ("is_sort", none)) fd
  d_is_pointer : ∃ fd, FunD K "is_pointer" "is_pointer" (defArgs s_is_pointer) (defBody s_is_pointer) (defScope s_is_pointer) [] [] (He.fAd K ("is_pointer", none)) fd
  d_is_value : ∃ fd, FunD K "is_value" "is_value" (defArgs s_is_value) (defBody s_is_value) (defScope s_is_value) [] [] (He.fAd K ("is_value", none)) fd
  d_is_of_sort : ∃ fd, FunD K "is_of_sort" "is_of_sort" (defArgs s_is_of_sort) (defBody s_is_of_sort) (defScope s_is_of_sort) [] [] (He.fAd K ("is_of_sort", none)) fd
  d__law_begun : ∃ fd, FunD K "_law_begun" "_law_begun" (defArgs s__law_begun) (defBody s__law_begun) (defScope s__law_begun) [] [] (He.fAd K ("_law_begun", none)) fd
  d__law_mixed : ∃ fd, FunD K "_law_mixed" "_law_mixed" (defArgs s__law_mixed) (defBody s__law_mixed) (defScope s__law_mixed) [] [] (He.fAd K ("_law_mixed", none)) fd
  d__law_take : ∃ fd, FunD K "_law_take" "_law_take" (defArgs s__law_take) (defBody s__law_take) (defScope s__law_take) [] [] (He.fAd K ("_law_take", none)) fd
  d__law_pick : ∃ fd, FunD K "_law_pick" "_law_pick" (defArgs s__law_pick) (defBody s__law_pick) (defScope s__law_pick) [] [] (He.fAd K ("_law_pick", none)) fd
  d__law_is_truth : ∃ fd, FunD K "_law_is_truth" "_law_is_truth" (defArgs s__law_is_truth) (defBody s__law_is_truth) (defScope s__law_is_truth) [] [] (He.fAd K ("_law_is_truth", none)) fd
  d__law_caught : ∃ fd, FunD K "_law_caught" "_law_caught" (defArgs s__law_caught) (defBody s__law_caught) (defScope s__law_caught) [] [] (He.fAd K ("_law_caught", none)) fd
  d__law_size : ∃ fd, FunD K "_law_size" "_law_size" (defArgs s__law_size) (defBody s__law_size) (defScope s__law_size) [] [] (He.fAd K ("_law_size", none)) fd
  d_law : ∃ fd, FunD K "law" "law" (defArgs s_law) (defBody s_law) (defScope s_law) [] [] (He.fAd K ("law", none)) fd
theorem tx_of {K : PySem.W.Frag} {h : Heap} {mg : Str → Option Value} (X : K.In h) (G : h.Ns mainGlobals mg) (c : He.SaysD fa fn K) : Tx K mg where
  g_WrongError := He.glo_ok X G (c.fact 0 (f := .glo "WrongError") rfl)
  g_BadNumber := He.glo_ok X G (c.fact 1 (f := .glo "BadNumber") rfl)
  g_is_number := He.glo_ok X G (c.fact 2 (f := .glo "is_number") rfl)
  g_is_number_in := He.glo_ok X G (c.fact 3 (f := .glo "is_number_in") rfl)
  g_is_int := He.glo_ok X G (c.fact 4 (f := .glo "is_int") rfl)
  g_is_one_of := He.glo_ok X G (c.fact 5 (f := .glo "is_one_of") rfl)
  g_is_tuple_of := He.glo_ok X G (c.fact 6 (f := .glo "is_tuple_of") rfl)
  g_is_pointer_to := He.glo_ok X G (c.fact 7 (f := .glo "is_pointer_to") rfl)
  g_is_sort := He.glo_ok X G (c.fact 8 (f := .glo "is_sort") rfl)
  g_is_pointer := He.glo_ok X G (c.fact 9 (f := .glo "is_pointer") rfl)
  g_is_value := He.glo_ok X G (c.fact 10 (f := .glo "is_value") rfl)
  g_is_of_sort := He.glo_ok X G (c.fact 11 (f := .glo "is_of_sort") rfl)
  g__law_begun := He.glo_ok X G (c.fact 12 (f := .glo "_law_begun") rfl)
  g__law_mixed := He.glo_ok X G (c.fact 13 (f := .glo "_law_mixed") rfl)
  g__law_take := He.glo_ok X G (c.fact 14 (f := .glo "_law_take") rfl)
  g__law_pick := He.glo_ok X G (c.fact 15 (f := .glo "_law_pick") rfl)
  g__law_is_truth := He.glo_ok X G (c.fact 16 (f := .glo "_law_is_truth") rfl)
  g__law_caught := He.glo_ok X G (c.fact 17 (f := .glo "_law_caught") rfl)
  g__law_size := He.glo_ok X G (c.fact 18 (f := .glo "_law_size") rfl)
  g_law := He.glo_ok X G (c.fact 19 (f := .glo "law") rfl)
  f_ValueError := He.free_ok X G (c.fact 20 (f := .free "ValueError") rfl)
  f_abs := He.free_ok X G (c.fact 21 (f := .free "abs") rfl)
  f_all := He.free_ok X G (c.fact 22 (f := .free "all") rfl)
  f_bool := He.free_ok X G (c.fact 23 (f := .free "bool") rfl)
  f_int := He.free_ok X G (c.fact 24 (f := .free "int") rfl)
  f_isinstance := He.free_ok X G (c.fact 25 (f := .free "isinstance") rfl)
  f_len := He.free_ok X G (c.fact 26 (f := .free "len") rfl)
  f_min := He.free_ok X G (c.fact 27 (f := .free "min") rfl)
  f_range := He.free_ok X G (c.fact 28 (f := .free "range") rfl)
  f_str := He.free_ok X G (c.fact 29 (f := .free "str") rfl)
  f_tuple := He.free_ok X G (c.fact 30 (f := .free "tuple") rfl)
  d_BadNumber_init := c.def_ 0 (d := d_BadNumber_init) rfl
  d_is_number := c.def_ 1 (d := d_is_number) rfl
  d_is_number_in := c.def_ 2 (d := d_is_number_in) rfl
  d_is_int := c.def_ 3 (d := d_is_int) rfl
  d_is_one_of := c.def_ 4 (d := d_is_one_of) rfl
  d_is_tuple_of := c.def_ 5 (d := d_is_tuple_of) rfl
  d_is_pointer_to := c.def_ 6 (d := d_is_pointer_to) rfl
  d_is_sort := c.def_ 7 (d := d_is_sort) rfl
  d_is_pointer := c.def_ 8 (d := d_is_pointer) rfl
  d_is_value := c.def_ 9 (d := d_is_value) rfl
  d_is_of_sort := c.def_ 10 (d := d_is_of_sort) rfl
  d__law_begun := c.def_ 11 (d := d__law_begun) rfl
  d__law_mixed := c.def_ 12 (d := d__law_mixed) rfl
  d__law_take := c.def_ 13 (d := d__law_take) rfl
  d__law_pick := c.def_ 14 (d := d__law_pick) rfl
  d__law_is_truth := c.def_ 15 (d := d__law_is_truth) rfl
  d__law_caught := c.def_ 16 (d := d__law_caught) rfl
  d__law_size := c.def_ 17 (d := d__law_size) rfl
  d_law := c.def_ 18 (d := d_law) rfl
def loose : List PySem.Str := (["WrongError", "BadNumber", "is_number", "is_number_in", "is_int", "is_one_of", "is_tuple_of", "NULL", "PLAIN", "is_pointer_to", "is_sort", "is_pointer", "is_value", "is_of_sort", "_law_begun", "_law_mixed", "_law_take", "_law_pick", "_law_is_truth", "_law_caught"] : List PySem.Str) ++ (["_law_size"] : List PySem.Str)
abbrev lawAt : Nat := 25

abbrev R : PySem.W.OpenRow := PySem.W.OpenLaw.row PySem.Challenge.rw_firstwrong_k01_sorts_and_values
def ns : List Str := ["WrongError", "BadNumber"]
abbrev nsL : List Str := ns
def sub (a b : Str) : Bool := a == b || (b == "WrongError" && ns.contains a)
def exK (K : PySem.W.Frag) : Bool := ns.all fun a => (ns.all fun b => decide (PySem.W.kitOne K (.ref (He.ga K a)) (.ref (He.ga K b)) = some (sub a b))) && (decide (PySem.W.kitOne K (.type "NoneType") (.ref (He.ga K a)) = some false) &&
  decide (PySem.W.exmOne K (.ref (He.ga K a)) (.ref (He.ga K "WrongError")) = some true))
def e_xc_WrongError (K : PySem.W.Frag) : Bool := xcB K (He.ga K "WrongError")
def e_xc_BadNumber (K : PySem.W.Frag) : Bool := xcB K (He.ga K "BadNumber")
def e_xi_BadNumber (K : PySem.W.Frag) : Bool := xiB K (He.ga K "BadNumber") (He.fAd K ("BadNumber", some "__init__"))
def e_no_BadNumber_part (K : PySem.W.Frag) : Bool := decide (PySem.W.findIn K (.ref (He.ga K "BadNumber")) "part" = some none)
def e_xb (K : PySem.W.Frag) : Bool := xbB K (He.ga K "WrongError")
def e_atts (K : PySem.W.Frag) : Bool := (["part"] : List Str).all fun f => nsL.all fun n => decide (PySem.W.findIn K (.ref (He.ga K n)) f = some none)
def e_c_NULL (K : PySem.W.Frag) : Bool := conAt K "NULL" (.tup [.int 0, .int 0, .int 0])
def e_c_PLAIN (K : PySem.W.Frag) : Bool := conAt K "PLAIN" (.tup [.str "int", .str "byte"])
def exs : List (PySem.W.Frag → Bool) := [exK, e_xc_WrongError, e_xc_BadNumber, e_xi_BadNumber, e_no_BadNumber_part, e_xb, e_atts, e_c_NULL, e_c_PLAIN]
def ex (K : PySem.W.Frag) : Bool := exs.all fun e => e K
abbrev hk : PySem.W.Hook := Fw.hookY 5 fa fn tf ex
def ob (s : PySem.W.SharedT) : Fw.AlY := Fw.obsY 5 fa fn tf ex (HandSHeadRun.getT s)
theorem ob_eq (s : PySem.W.SharedT) : ob s = hk.obs s.abs := Fw.obsY_eq (HandSHeadRun.getT_eq s)
theorem run (w : World) : HandSHeadRun.RunEq R (PySem.W.view R.prog [lawAt]) hk ob 8000 loose w := by
  intro os
  kernel_rfl
/-- what is known of the errors and of the module's constants -/
structure Ty (K : PySem.W.Frag) (mg : Str → Option Value) : Prop extends Tx K mg where
  k : exK K = true
  xc_WrongError : e_xc_WrongError K = true
  xc_BadNumber : e_xc_BadNumber K = true
  xi_BadNumber : e_xi_BadNumber K = true
  no_BadNumber_part : e_no_BadNumber_part K = true
  xb : e_xb K = true
  atts : e_atts K = true
  c_NULL : ConOk K mg "NULL" (.tup [.int 0, .int 0, .int 0])
  c_PLAIN : ConOk K mg "PLAIN" (.tup [.str "int", .str "byte"])
theorem ty_of {K : PySem.W.Frag} {h : Heap} {mg : Str → Option Value} (X : K.In h) (G : h.Ns mainGlobals mg) (c : Fw.SaysY fa fn tf ex h K) : Ty K mg where
  toTx := tx_of X G c.d
  k := List.all_eq_true.mp c.more exK (by simp [exs])
  xc_WrongError := List.all_eq_true.mp c.more e_xc_WrongError (by simp [exs])
  xc_BadNumber := List.all_eq_true.mp c.more e_xc_BadNumber (by simp [exs])
  xi_BadNumber := List.all_eq_true.mp c.more e_xi_BadNumber (by simp [exs])
  no_BadNumber_part := List.all_eq_true.mp c.more e_no_BadNumber_part (by simp [exs])
  xb := List.all_eq_true.mp c.more e_xb (by simp [exs])
  atts := List.all_eq_true.mp c.more e_atts (by simp [exs])
  c_NULL := conAt_ok X G (List.all_eq_true.mp c.more e_c_NULL (by simp [exs]))
  c_PLAIN := conAt_ok X G (List.all_eq_true.mp c.more e_c_PLAIN (by simp [exs]))
end K01
namespace K01
open PySem PySem.Spec PyProof.Rows L2 Fw
def lamQ : Str := (envOfC "law" (defScope s_law) 0 0 .none).qual ++ "<lambda>"
instance : TabsOf := ⟨fun K => [((He.cT K ("law", none)).2, lamQ)]⟩
section
variable {P : Program} {w : World} {K : PySem.W.Frag} {mg : Str → Option Value} {base : Heap} {A : Around} {outer : List PySem.Env} {s : Shared} {H : Hp} {E : XK}
theorem ed_BadNumber (T : Ty K mg) : ErrDef P w K mg base "BadNumber" "part" :=
  errDef_of ("BadNumber", some "__init__") T.g_BadNumber (xc_ok T.xc_BadNumber) T.xi_BadNumber (of_decide_eq_true T.no_BadNumber_part) T.d_BadNumber_init sc_BadNumber_init T.g_WrongError (xb_ok T.xb) (by decide +kernel) (by decide +kernel) (by decide +kernel) (by decide) (by decide)
    (fun _ _ _ _ _ _ us h => match us, h with | [_, _], _ => rfl) rfl (fun cdv A outer s H E X e => by rw [e]; exact ⟨_, rfl⟩)
theorem no_part (T : Ty K mg) : ∀ n ∈ ns, ∀ fs : List (Str × D), (fs.lookup ("part" : Str)).isSome = true → PySem.W.findIn K (.ref (He.ga K n)) "part" = some none := fun n hn _ _ => of_decide_eq_true (List.all_eq_true.mp (List.all_eq_true.mp T.atts "part" (by decide)) n hn)
theorem exk (T : Ty K mg) {a : Str} (ha : a ∈ ns) : (∀ b ∈ ns, PySem.W.kitOne K (.ref (He.ga K a)) (.ref (He.ga K b)) = some (sub a b)) ∧ PySem.W.kitOne K (.type "NoneType") (.ref (He.ga K a)) = some false ∧ PySem.W.exmOne K (.ref (He.ga K a)) (.ref (He.ga K "WrongError")) = some true := by
  have h := List.all_eq_true.mp T.k a ha
  simp only [Bool.and_eq_true, decide_eq_true_eq, List.all_eq_true] at h
  exact ⟨h.1, h.2.1, h.2.2⟩
theorem kinds_of (T : Ty K mg) : Kinds K mg ns sub where
  at_ := by
    simp only [ns, List.forall_mem_cons]
    exact ⟨T.g_WrongError, T.g_BadNumber, fun _ z => nomatch z⟩
  xc := by
    simp only [ns, List.forall_mem_cons]
    exact ⟨xc_ok T.xc_WrongError, xc_ok T.xc_BadNumber, fun _ z => nomatch z⟩
  kit := fun n hn m hm => (exk T hn).1 m hm
  non := fun m hm => (exk T hm).2.1
theorem gl_is_number_isinstance : (defScope s_is_number).names.lookup ("isinstance" : Str) = some .globalImplicit := by decide +kernel
theorem gl_is_number_int : (defScope s_is_number).names.lookup ("int" : Str) = some .globalImplicit := by decide +kernel
theorem gl_is_number_bool : (defScope s_is_number).names.lookup ("bool" : Str) = some .globalImplicit := by decide +kernel
def m_is_number : SM := (sRet (mAndV (mIsi "int" (mVar 0)) (mNotV (mIsi "bool" (mVar 0)))))
theorem b_is_number (T : Ty K mg)  (hr : Room 0 (cxF P w K mg base ["thing"] "is_number" s_is_number ("is_number", none) A outer s H E).A) : BX (cxF P w K mg base ["thing"] "is_number" s_is_number ("is_number", none) A outer s H E) E (defBody s_is_number) m_is_number :=
  (bx_one (sx_ret (px_and (px_isi gl_is_number_isinstance T.f_isinstance gl_is_number_int T.f_int (by decide +kernel) (px_var 0)) (px_one (px_not (px_isi gl_is_number_isinstance T.f_isinstance gl_is_number_bool T.f_bool (by decide +kernel) (px_var 0)))))))
def isNum : D → Bool | .int _ => true | _ => false
def F_is_number : FM := fun ds post ex => ∃ d, ds = [d] ∧ isErr d = false ∧ post (.bl (isNum d))
theorem spec_is_number : ∀ ds post ex, F_is_number ds post ex → funM 1 m_is_number ds post ex := by
  rintro ds post ex ⟨d, rfl, he, hp⟩
  unfold m_is_number
  walk_at "fws"
  simp only [he, kit_int he, kit_bool he, Option.some.injEq, exists_eq_left', true_and]
  cases d <;> first | exact hp | (cases he; done)
theorem good_is_number (T : Ty K mg)  : Good P w K mg base "is_number" "is_number" s_is_number 1 ["thing"] F_is_number :=
  (good_fd ("is_number", none) T.g_is_number T.d_is_number sc_is_number (fun _ _ _ _ _ _ us h => match us, h with | [_], _ => rfl) fun A outer s H E hr => b_is_number T  hr).mono spec_is_number
theorem gl_is_number_in_is_number : (defScope s_is_number_in).names.lookup ("is_number" : Str) = some .globalImplicit := by decide +kernel
def m_is_number_in : SM := (sRet (mAndV (mCall 1 F_is_number (mCons (mVar 0) mNil)) (mChain fLe fLe (mVar 1) (mVar 0) (mVar 2))))
theorem b_is_number_in (T : Ty K mg) (G_is_number : Good P w K mg base "is_number" "is_number" s_is_number 1 ["thing"] F_is_number) (hr : Room 1 (cxF P w K mg base ["thing", "low", "high"] "is_number_in" s_is_number_in ("is_number_in", none) A outer s H E).A) : BX (cxF P w K mg base ["thing", "low", "high"] "is_number_in" s_is_number_in ("is_number_in", none) A outer s H E) E (defBody s_is_number_in) m_is_number_in :=
  (bx_one (sx_ret (px_and (px_call G_is_number (hr.mono (by decide)) cx_passes gl_is_number_in_is_number (ax_cons (px_var 0) ax_nil)) (px_one (px_chain op_le (fun W => dLe W _) op_le (fun W => dLe W _) (px_var 1) (px_var 0) (px_var 2))))))
def inR (d : D) (lo hi : Int) : Bool := match d with | .int i => decide (lo ≤ i) && decide (i ≤ hi) | _ => false
def F_is_number_in : FM := fun ds post ex => ∃ d lo hi, ds = [d, .int lo, .int hi] ∧ isErr d = false ∧ post (.bl (inR d lo hi))
theorem spec_is_number_in : ∀ ds post ex, F_is_number_in ds post ex → funM 3 m_is_number_in ds post ex := by
  rintro ds post ex ⟨d, lo, hi, rfl, he, hp⟩
  unfold m_is_number_in F_is_number
  walk_at "fws"
  refine ⟨he, ?_⟩
  cases d <;> first
    | exact hp
    | (cases he; done)
    | skip
  case int i =>
    show if true = true then _ else _
    rw [if_pos rfl]
    walk_at "fws"
    have hp : post (.bl (decide (lo ≤ i) && decide (i ≤ hi))) := hp
    by_cases h : lo ≤ i
    · simpa [h] using hp
    · simpa [h] using hp
theorem good_is_number_in (T : Ty K mg) (G_is_number : Good P w K mg base "is_number" "is_number" s_is_number 1 ["thing"] F_is_number) : Good P w K mg base "is_number_in" "is_number_in" s_is_number_in 2 ["thing", "low", "high"] F_is_number_in :=
  (good_fd ("is_number_in", none) T.g_is_number_in T.d_is_number_in sc_is_number_in (fun _ _ _ _ _ _ us h => match us, h with | [_, _, _], _ => rfl) fun A outer s H E hr => b_is_number_in T G_is_number hr).mono spec_is_number_in
theorem gl_is_int_is_number_in : (defScope s_is_int).names.lookup ("is_number_in" : Str) = some .globalImplicit := by decide +kernel
def m_is_int : SM := (sRet (mCall 3 F_is_number_in (mCons (mVar 0) (mCons (mNeg (mPow (mC (.int 2)) (mC (.int 31)))) (mCons (mSub (mPow (mC (.int 2)) (mC (.int 31))) (mC (.int 1))) mNil)))))
theorem b_is_int (T : Ty K mg) (G_is_number_in : Good P w K mg base "is_number_in" "is_number_in" s_is_number_in 2 ["thing", "low", "high"] F_is_number_in) (hr : Room 2 (cxF P w K mg base ["thing"] "is_int" s_is_int ("is_int", none) A outer s H E).A) : BX (cxF P w K mg base ["thing"] "is_int" s_is_int ("is_int", none) A outer s H E) E (defBody s_is_int) m_is_int :=
  (bx_one (sx_ret (px_call G_is_number_in (hr.mono (by decide)) cx_passes gl_is_int_is_number_in (ax_cons (px_var 0) (ax_cons (px_neg (px_pow px_int px_int)) (ax_cons (px_sub (px_pow px_int px_int) px_int) ax_nil))))))
def F_is_int : FM := fun ds post ex => ∃ d, ds = [d] ∧ isErr d = false ∧ post (.bl (inR d (-2147483648) 2147483647))
theorem spec_is_int : ∀ ds post ex, F_is_int ds post ex → funM 1 m_is_int ds post ex := by
  rintro ds post ex ⟨d, rfl, he, hp⟩
  unfold m_is_int F_is_number_in
  walk_at "fws"
  exact ⟨⟨by decide, by decide, by decide⟩, ⟨by decide, by decide, by decide⟩, he, hp⟩
theorem good_is_int (T : Ty K mg) (G_is_number_in : Good P w K mg base "is_number_in" "is_number_in" s_is_number_in 2 ["thing", "low", "high"] F_is_number_in) : Good P w K mg base "is_int" "is_int" s_is_int 3 ["thing"] F_is_int :=
  (good_fd ("is_int", none) T.g_is_int T.d_is_int sc_is_int (fun _ _ _ _ _ _ us h => match us, h with | [_], _ => rfl) fun A outer s H E hr => b_is_int T G_is_number_in hr).mono spec_is_int
theorem gl_is_one_of_isinstance : (defScope s_is_one_of).names.lookup ("isinstance" : Str) = some .globalImplicit := by decide +kernel
theorem gl_is_one_of_str : (defScope s_is_one_of).names.lookup ("str" : Str) = some .globalImplicit := by decide +kernel
def m_is_one_of : SM := (sRet (mAndV (mIsi "str" (mVar 0)) (mOp fIn (mVar 0) (mVar 1))))
theorem b_is_one_of (T : Ty K mg)  (hr : Room 0 (cxF P w K mg base ["thing", "words"] "is_one_of" s_is_one_of ("is_one_of", none) A outer s H E).A) : BX (cxF P w K mg base ["thing", "words"] "is_one_of" s_is_one_of ("is_one_of", none) A outer s H E) E (defBody s_is_one_of) m_is_one_of :=
  (bx_one (sx_ret (px_and (px_isi gl_is_one_of_isinstance T.f_isinstance gl_is_one_of_str T.f_str (by decide +kernel) (px_var 0)) (px_one (px_in (px_var 0) (px_var 1))))))
def F_is_one_of : FM := fun ds post ex => ∃ d ws, ds = [d, .tup ws] ∧ isErr d = false ∧ ws.all flatD = true ∧ post (.bl (isStrB d && inD d ws))
theorem spec_is_one_of : ∀ ds post ex, F_is_one_of ds post ex → funM 2 m_is_one_of ds post ex := by
  rintro ds post ex ⟨d, ws, rfl, he, hf, hp⟩
  unfold m_is_one_of
  walk_at "fws"
  simp only [he, kit_str he, Option.some.injEq, exists_eq_left', true_and]
  cases d <;> first
    | exact hp
    | (cases he; done)
    | skip
  case str x => exact ⟨_, ⟨ws, rfl, rfl, hf, rfl⟩, hp⟩
theorem good_is_one_of (T : Ty K mg)  : Good P w K mg base "is_one_of" "is_one_of" s_is_one_of 1 ["thing", "words"] F_is_one_of :=
  (good_fd ("is_one_of", none) T.g_is_one_of T.d_is_one_of sc_is_one_of (fun _ _ _ _ _ _ us h => match us, h with | [_, _], _ => rfl) fun A outer s H E hr => b_is_one_of T  hr).mono spec_is_one_of
theorem gl_is_tuple_of_isinstance : (defScope s_is_tuple_of).names.lookup ("isinstance" : Str) = some .globalImplicit := by decide +kernel
theorem gl_is_tuple_of_tuple : (defScope s_is_tuple_of).names.lookup ("tuple" : Str) = some .globalImplicit := by decide +kernel
theorem gl_is_tuple_of_len : (defScope s_is_tuple_of).names.lookup ("len" : Str) = some .globalImplicit := by decide +kernel
def m_is_tuple_of : SM := (sRet (mAndV (mIsi "tuple" (mVar 0)) (mOp fEq (mCB fLen (mCons (mVar 0) mNil)) (mVar 1))))
theorem b_is_tuple_of (T : Ty K mg)  (hr : Room 0 (cxF P w K mg base ["thing", "many"] "is_tuple_of" s_is_tuple_of ("is_tuple_of", none) A outer s H E).A) : BX (cxF P w K mg base ["thing", "many"] "is_tuple_of" s_is_tuple_of ("is_tuple_of", none) A outer s H E) E (defBody s_is_tuple_of) m_is_tuple_of :=
  (bx_one (sx_ret (px_and (px_isi gl_is_tuple_of_isinstance T.f_isinstance gl_is_tuple_of_tuple T.f_tuple (by decide +kernel) (px_var 0)) (px_one (px_eq hr (px_len gl_is_tuple_of_len T.f_len (ax_cons (px_var 0) ax_nil)) (px_var 1))))))
def isTupN (d : D) (n : Int) : Bool := match d with | .tup xs => decide ((xs.length : Int) = n) | _ => false
def F_is_tuple_of : FM := fun ds post ex => ∃ d n, ds = [d, .int n] ∧ isErr d = false ∧ post (.bl (isTupN d n))
theorem spec_is_tuple_of : ∀ ds post ex, F_is_tuple_of ds post ex → funM 2 m_is_tuple_of ds post ex := by
  rintro ds post ex ⟨d, n, rfl, he, hp⟩
  unfold m_is_tuple_of
  walk_at "fws"
  simp only [he, kit_tuple he, Option.some.injEq, exists_eq_left', true_and]
  cases d <;> first
    | exact hp
    | (cases he; done)
    | skip
  case tup xs =>
    show if true = true then _ else _
    rw [if_pos rfl]
    walk_at "fws"
    exact hp
theorem good_is_tuple_of (T : Ty K mg)  : Good P w K mg base "is_tuple_of" "is_tuple_of" s_is_tuple_of 1 ["thing", "many"] F_is_tuple_of :=
  (good_fd ("is_tuple_of", none) T.g_is_tuple_of T.d_is_tuple_of sc_is_tuple_of (fun _ _ _ _ _ _ us h => match us, h with | [_, _], _ => rfl) fun A outer s H E hr => b_is_tuple_of T  hr).mono spec_is_tuple_of
theorem gl_is_pointer_to_is_tuple_of : (defScope s_is_pointer_to).names.lookup ("is_tuple_of" : Str) = some .globalImplicit := by decide +kernel
theorem gl_is_pointer_to_is_one_of : (defScope s_is_pointer_to).names.lookup ("is_one_of" : Str) = some .globalImplicit := by decide +kernel
theorem gl_is_pointer_to_PLAIN : (defScope s_is_pointer_to).names.lookup ("PLAIN" : Str) = some .globalImplicit := by decide +kernel
def m_is_pointer_to : SM := (sSeq (sSet 2 (mC (.int 0))) (sSeq (sWhile (mAnd (mTest (mCall 2 F_is_tuple_of (mCons (mVar 0) (mCons (mC (.int 2)) mNil)))) (mAnd (mTest (mCall 2 F_is_one_of (mCons (mOp fIx (mVar 0) (mC (.int 0))) (mCons (mTup (mCons (mC (.str "to")) mNil)) mNil)))) (mTest (mOp fLt (mVar 2) (mVar 1))))) (sSeq (sSet 0 (mOp fIx (mVar 0) (mC (.int 1)))) (sAug 2 (fI (· + ·)) (mC (.int 1))))) (sRet (mCall 2 F_is_one_of (mCons (mVar 0) (mCons (mC (.tup [.str "int", .str "byte"])) mNil))))))
theorem b_is_pointer_to (T : Ty K mg) (G_is_tuple_of : Good P w K mg base "is_tuple_of" "is_tuple_of" s_is_tuple_of 1 ["thing", "many"] F_is_tuple_of) (G_is_one_of : Good P w K mg base "is_one_of" "is_one_of" s_is_one_of 1 ["thing", "words"] F_is_one_of) (hr : Room 1 (cxF P w K mg base ["thing", "deep", "around"] "is_pointer_to" s_is_pointer_to ("is_pointer_to", none) A outer s H E).A) : BX (cxF P w K mg base ["thing", "deep", "around"] "is_pointer_to" s_is_pointer_to ("is_pointer_to", none) A outer s H E) E (defBody s_is_pointer_to) m_is_pointer_to :=
  (bx_cons (sx_set 2 sc_is_pointer_to.nd px_int) (bx_cons (sx_while cx_own ((wx_and (tx_val (px_call G_is_tuple_of (hr.mono (by decide)) cx_passes gl_is_pointer_to_is_tuple_of (ax_cons (px_var 0) (ax_cons px_int ax_nil)))) (wx_and (tx_val (px_call G_is_one_of (hr.mono (by decide)) cx_passes gl_is_pointer_to_is_one_of (ax_cons (px_ix (px_var 0) px_int) (ax_cons (px_tup (ax_cons px_str ax_nil)) ax_nil)))) (wx_and1 (tx_lt (px_var 2) (px_var 1)))))).tx (bx_cons (sx_set 0 sc_is_pointer_to.nd (px_ix (px_var 0) px_int)) (bx_one (sx_augAdd 2 sc_is_pointer_to.nd px_int)))) (bx_one (sx_ret (px_call G_is_one_of (hr.mono (by decide)) cx_passes gl_is_pointer_to_is_one_of (ax_cons (px_var 0) (ax_cons (px_con T.c_PLAIN gl_is_pointer_to_PLAIN) ax_nil)))))))
theorem pd_ne {d : D} (h : pd d = true) : isErr d = false := by cases d <;> first | rfl | (unfold pd at h; cases h)
theorem pds_cons {d : D} {ds : List D} (h : pds (d :: ds) = true) : pd d = true ∧ pds ds = true := by
  unfold pds at h
  exact Bool.and_eq_true_iff.mp h
theorem pd_tup {ds : List D} (h : pd (.tup ds) = true) : pds ds = true := by
  unfold pd at h
  exact h
def toB (d : D) : Option D := match d with
  | .tup [.str x, b] => if x = "to" then some b else none
  | _ => none
def plB (d : D) : Bool := isStrB d && inD d [.str "int", .str "byte"]
def sortB (d : D) : Bool := match toB d with
  | none => plB d
  | some b => match toB b with
    | none => plB b
    | some c => plB c
theorem toB_pd {d b : D} (h : pd d = true) (e : toB d = some b) : pd b = true := by
  unfold toB at e
  split at e
  · split at e
    · cases e
      exact (pds_cons (pds_cons (pd_tup h)).2).1
    · cases e
  · cases e
def cPT : TM := mAnd (mTest (mCall 2 F_is_tuple_of (mCons (mVar 0) (mCons (mC (.int 2)) mNil)))) (mAnd (mTest (mCall 2 F_is_one_of (mCons (mOp fIx (mVar 0) (mC (.int 0))) (mCons (mTup (mCons (mC (.str "to")) mNil)) mNil)))) (mTest (mOp fLt (mVar 2) (mVar 1))))
def bPT : SM := sSeq (sSet 0 (mOp fIx (mVar 0) (mC (.int 1)))) (sAug 2 (fI (· + ·)) (mC (.int 1)))
theorem str_in {x y : Str} : inD (.str x) [.str y] = decide (x = y) := by
  show (y == x || false) = _
  rw [Bool.or_false]
  by_cases h : x = y
  · subst h
    simp
  · rw [decide_eq_false h]
    simpa using fun z => h z.symm
theorem cPT_does {post : Bool → Prop} {ex : EX → Prop} {d : D} {a : Int} (h : pd d = true) (hp : post ((toB d).isSome && decide (a < 2))) : cPT [some d, some (.int 2), some (.int a)] post ex := by
  unfold cPT F_is_tuple_of F_is_one_of
  walk_at "fws"
  refine ⟨pd_ne h, ?_⟩
  by_cases h2 : isTupN d 2 = true
  · rw [if_pos h2]
    obtain ⟨x, y, rfl⟩ : ∃ x y, d = .tup [x, y] := by
      unfold isTupN at h2
      split at h2
      · rename_i xs
        match xs, h2 with
        | [x, y], _ => exact ⟨x, y, rfl⟩
        | [], h2 => simp at h2
        | [_], h2 => simp at h2
        | _ :: _ :: _ :: r, h2 => simp at h2; omega
      · cases h2
    have hx := (pds_cons (pd_tup h)).1
    refine ⟨x, ⟨_, 0, rfl, rfl, rfl⟩, pd_ne hx, rfl, ?_⟩
    by_cases h3 : (isStrB x && inD x [.str "to"]) = true
    · rw [if_pos h3]
      cases x <;> first
        | (cases h3; done)
        | skip
      case str z =>
        have hz : z = "to" := by
          have := (Bool.and_eq_true_iff.mp h3).2
          rw [str_in] at this
          exact of_decide_eq_true this
        subst hz
        have et : toB (.tup [.str "to", y]) = some y := by
          show (if ("to" : Str) = "to" then some y else none) = some y
          rw [if_pos rfl]
        rw [et] at hp
        exact hp
    · rw [if_neg h3]
      have et : toB (.tup [x, y]) = none := by
        unfold toB
        split
        · rename_i z b e
          cases e
          rw [if_neg]
          rintro rfl
          exact h3 (by rw [str_in]; rfl)
        · rfl
      rw [et] at hp
      exact hp
  · rw [if_neg h2]
    have et : toB d = none := by
      unfold toB
      split
      · exact absurd rfl h2
      · rfl
    rw [et] at hp
    exact hp
theorem toB_some {d b : D} (e : toB d = some b) : ∃ x, d = .tup [x, b] := by
  unfold toB at e
  split at e
  · split at e
    · cases e
      exact ⟨_, rfl⟩
    · cases e
  · cases e
theorem pt_step {F : SE} {n : Nat} {d : D} {a : Int} (h : pd d = true)
    (k : match toB d with
      | some b => if a < 2 then whGo cPT bPT F n [some b, some (.int 2), some (.int (a + 1))] else F.nx [some d, some (.int 2), some (.int a)]
      | none => F.nx [some d, some (.int 2), some (.int a)]) : whGo cPT bPT F (n + 1) [some d, some (.int 2), some (.int a)] := by
  show cPT _ (fun p => if p = true then bPT _ { F with nx := whGo cPT bPT F n, ct := whGo cPT bPT F n, bk := F.nx } else F.nx _) F.ex
  generalize whGo cPT bPT F n = J at k ⊢
  refine cPT_does h ?_
  cases e : toB d with
  | none =>
    rw [e] at k
    exact k
  | some b =>
    rw [e] at k
    have k : if a < 2 then J [some b, some (.int 2), some (.int (a + 1))] else F.nx [some d, some (.int 2), some (.int a)] := k
    obtain ⟨x, rfl⟩ := toB_some e
    by_cases h4 : a < 2
    · rw [if_pos h4] at k
      simp only [Option.isSome_some, h4, decide_true, Bool.and_self, if_true]
      unfold bPT
      walk_at "fws"
      exact ⟨b, ⟨_, 1, rfl, rfl, rfl⟩, k⟩
    · rw [if_neg h4] at k
      simp only [Option.isSome_some, h4, decide_false, Bool.and_false, Bool.false_eq_true, if_false]
      exact k
def F_is_pointer_to : FM := fun ds post ex => ∃ d, ds = [d, .int 2] ∧ pd d = true ∧ post (.bl (sortB d))
theorem spec_is_pointer_to : ∀ ds post ex, F_is_pointer_to ds post ex → funM 3 m_is_pointer_to ds post ex := by
  rintro ds post ex ⟨d, rfl, h, hp⟩
  unfold m_is_pointer_to F_is_one_of
  walk_at "fws"
  have fin (d : D) (a : Int) (h : pd d = true) (hp : post (.bl (plB d))) : isErr d = false ∧ [D.str "int", D.str "byte"].all flatD = true ∧ post (.bl (isStrB d && inD d [D.str "int", D.str "byte"])) := ⟨pd_ne h, rfl, hp⟩
  refine ⟨3, ?_⟩
  refine pt_step h ?_
  unfold sortB at hp
  cases e : toB d with
  | none =>
    rw [e] at hp
    walk_at "fws"
    exact fin d 0 h hp
  | some b =>
    rw [e] at hp
    have hb := toB_pd h e
    show if (0 : Int) < 2 then _ else _
    rw [if_pos (by decide)]
    refine pt_step hb ?_
    cases e2 : toB b with
    | none =>
      have hp : post (.bl (match toB b with | none => plB b | some c => plB c)) := hp
      rw [e2] at hp
      walk_at "fws"
      exact fin b 1 hb hp
    | some c =>
      have hp : post (.bl (match toB b with | none => plB b | some c => plB c)) := hp
      rw [e2] at hp
      have hc := toB_pd hb e2
      show if (0 + 1 : Int) < 2 then _ else _
      rw [if_pos (by decide)]
      refine pt_step hc ?_
      have last : ∀ δ, δ = [some c, some (D.int 2), some (D.int (0 + 1 + 1))] → True := fun _ _ => trivial
      cases e3 : toB c with
      | none =>
        walk_at "fws"
        exact fin c 2 hc hp
      | some d3 =>
        show if (0 + 1 + 1 : Int) < 2 then _ else _
        rw [if_neg (by decide)]
        walk_at "fws"
        exact fin c 2 hc hp
theorem good_is_pointer_to (T : Ty K mg) (G_is_tuple_of : Good P w K mg base "is_tuple_of" "is_tuple_of" s_is_tuple_of 1 ["thing", "many"] F_is_tuple_of) (G_is_one_of : Good P w K mg base "is_one_of" "is_one_of" s_is_one_of 1 ["thing", "words"] F_is_one_of) : Good P w K mg base "is_pointer_to" "is_pointer_to" s_is_pointer_to 2 ["thing", "deep"] F_is_pointer_to :=
  (good_fd ("is_pointer_to", none) T.g_is_pointer_to T.d_is_pointer_to sc_is_pointer_to (fun _ _ _ _ _ _ us h => match us, h with | [_, _], _ => rfl) fun A outer s H E hr => b_is_pointer_to T G_is_tuple_of G_is_one_of hr).mono spec_is_pointer_to
theorem gl_is_sort_is_pointer_to : (defScope s_is_sort).names.lookup ("is_pointer_to" : Str) = some .globalImplicit := by decide +kernel
def m_is_sort : SM := (sRet (mCall 2 F_is_pointer_to (mCons (mVar 0) (mCons (mC (.int 2)) mNil))))
theorem b_is_sort (T : Ty K mg) (G_is_pointer_to : Good P w K mg base "is_pointer_to" "is_pointer_to" s_is_pointer_to 2 ["thing", "deep"] F_is_pointer_to) (hr : Room 2 (cxF P w K mg base ["thing"] "is_sort" s_is_sort ("is_sort", none) A outer s H E).A) : BX (cxF P w K mg base ["thing"] "is_sort" s_is_sort ("is_sort", none) A outer s H E) E (defBody s_is_sort) m_is_sort :=
  (bx_one (sx_ret (px_call G_is_pointer_to (hr.mono (by decide)) cx_passes gl_is_sort_is_pointer_to (ax_cons (px_var 0) (ax_cons px_int ax_nil)))))
def F_is_sort : FM := fun ds post ex => ∃ d, ds = [d] ∧ pd d = true ∧ post (.bl (sortB d))
theorem spec_is_sort : ∀ ds post ex, F_is_sort ds post ex → funM 1 m_is_sort ds post ex := by
  rintro ds post ex ⟨d, rfl, h, hp⟩
  unfold m_is_sort F_is_pointer_to
  walk_at "fws"
  exact ⟨h, hp⟩
theorem good_is_sort (T : Ty K mg) (G_is_pointer_to : Good P w K mg base "is_pointer_to" "is_pointer_to" s_is_pointer_to 2 ["thing", "deep"] F_is_pointer_to) : Good P w K mg base "is_sort" "is_sort" s_is_sort 3 ["thing"] F_is_sort :=
  (good_fd ("is_sort", none) T.g_is_sort T.d_is_sort sc_is_sort (fun _ _ _ _ _ _ us h => match us, h with | [_], _ => rfl) fun A outer s H E hr => b_is_sort T G_is_pointer_to hr).mono spec_is_sort
theorem gl_is_pointer_is_tuple_of : (defScope s_is_pointer).names.lookup ("is_tuple_of" : Str) = some .globalImplicit := by decide +kernel
theorem gl_is_pointer_all : (defScope s_is_pointer).names.lookup ("all" : Str) = some .globalImplicit := by decide +kernel
theorem gl_is_pointer_NULL : (defScope s_is_pointer).names.lookup ("NULL" : Str) = some .globalImplicit := by decide +kernel
def m_is_pointer : SM := (sSeq (sIf (mOr (mNot (mTest (mCall 2 F_is_tuple_of (mCons (mVar 0) (mCons (mC (.int 3)) mNil))))) (mNot (mTest (mCB fAll (mCons (mLc (iSq (mVar 0)) (gNm 4) tTT (mCall 1 F_is_number (mCons (mVar 4) mNil)) [4]) mNil))))) (sRet (mC (.bl false))) sNx) (sSeq (sIf (mTest (mOp fEq (mVar 0) (mC (.tup [.int (0), .int (0), .int (0)])))) (sRet (mC (.bl true))) sNx) (sSeq (sTo (gTp 3 (gCn (gNm 1) (gCn (gNm 2) (gCn (gNm 3) gNl)))) (mVar 0)) (sRet (mAndV (mChain fLe fLe (mC (.int 0)) (mVar 1) (mC (.int 31))) (mAndV (mChain fLe fLe (mC (.int 1)) (mVar 2) (mPow (mC (.int 2)) (mC (.int 30)))) (mChain fLe fLe (mC (.int 0)) (mVar 3) (mC (.int 16)))))))))
theorem b_is_pointer (T : Ty K mg) (G_is_tuple_of : Good P w K mg base "is_tuple_of" "is_tuple_of" s_is_tuple_of 1 ["thing", "many"] F_is_tuple_of) (G_is_number : Good P w K mg base "is_number" "is_number" s_is_number 1 ["thing"] F_is_number) (hr : Room 1 (cxF P w K mg base ["thing", "slot", "life", "offset", "part"] "is_pointer" s_is_pointer ("is_pointer", none) A outer s H E).A) : BX (cxF P w K mg base ["thing", "slot", "life", "offset", "part"] "is_pointer" s_is_pointer ("is_pointer", none) A outer s H E) E (defBody s_is_pointer) m_is_pointer :=
  (bx_cons (sx_if ((wx_or (tx_not (tx_val (px_call G_is_tuple_of (hr.mono (by decide)) cx_passes gl_is_pointer_is_tuple_of (ax_cons (px_var 0) (ax_cons px_int ax_nil))))) (wx_or1 (tx_not (tx_val (px_all rfl gl_is_pointer_all T.f_all (ax_cons (px_lc1 (i := 4) sc_is_pointer.nd (ix_sq (px_var 0)) (fun _ _ _ _ _ => (px_call G_is_number (hr.mono (by decide)) passes_no (gl_k (by kernel_rfl)) (ax_cons (px_var 4) ax_nil)))) ax_nil))))))).tx (bx_one (sx_ret px_bl)) bx_nil) (bx_cons (sx_if (tx_eq hr (px_var 0) (px_con T.c_NULL gl_is_pointer_NULL)) (bx_one (sx_ret px_bl)) bx_nil) (bx_cons (sx_to (px_var 0) (gx_tup rfl (gxs_cons (gx_name 1 sc_is_pointer.nd) (gxs_cons (gx_name 2 sc_is_pointer.nd) (gxs_cons (gx_name 3 sc_is_pointer.nd) gxs_nil))))) (bx_one (sx_ret (px_and (px_chain op_le (fun W => dLe W _) op_le (fun W => dLe W _) px_int (px_var 1) px_int) (px_and (px_chain op_le (fun W => dLe W _) op_le (fun W => dLe W _) px_int (px_var 2) (px_pow px_int px_int)) (px_one (px_chain op_le (fun W => dLe W _) op_le (fun W => dLe W _) px_int (px_var 3) px_int)))))))))
def ptrB (d : D) : Bool := match d with
  | .tup [.int a, .int b, .int c] => (decide (a = 0) && (decide (b = 0) && decide (c = 0))) || ((decide (0 ≤ a) && decide (a ≤ 31)) && ((decide (1 ≤ b) && decide (b ≤ 1073741824)) && (decide (0 ≤ c) && decide (c ≤ 16))))
  | _ => false
def F_is_pointer : FM := fun ds post ex => ∃ d, ds = [d] ∧ pd d = true ∧ post (.bl (ptrB d))
theorem chainB {lo x hi : Int} {post : D → Prop} (h : post (.bl (decide (lo ≤ x) && decide (x ≤ hi)))) :
    if decide (lo ≤ x) = true then post (.bl (decide (x ≤ hi))) else post (.bl false) := by
  by_cases q : lo ≤ x
  · simpa [q] using h
  · simpa [q] using h
theorem ptr_three {a b c : Int} {post : D → Prop} (hp : post (.bl (ptrB (.tup [.int a, .int b, .int c])))) :
    (fEq (.tup [.int a, .int b, .int c]) (.tup [.int 0, .int 0, .int 0]) (.bl (decide (a = 0) && (decide (b = 0) && decide (c = 0))))) := by
  refine ⟨⟨rfl, by show 1 ≤ 64; decide⟩, ⟨rfl, by decide⟩, ?_⟩
  show D.bl _ = D.bl ((a == 0) && ((b == 0) && ((c == 0) && true)))
  rw [Bool.and_true]
  rfl
theorem spec_is_pointer : ∀ ds post ex, F_is_pointer ds post ex → funM 5 m_is_pointer ds post ex := by
  rintro ds post ex ⟨d, rfl, h, hp⟩
  unfold m_is_pointer F_is_tuple_of F_is_number
  walk_at "fws"
  refine ⟨pd_ne h, ?_⟩
  by_cases h2 : isTupN d 3 = true
  · simp only [h2, Bool.not_true, Bool.false_eq_true, if_false]
    obtain ⟨x, y, z, rfl⟩ : ∃ x y z, d = .tup [x, y, z] := by
      unfold isTupN at h2
      split at h2
      · rename_i xs
        match xs, h2 with
        | [x, y, z], _ => exact ⟨x, y, z, rfl⟩
        | [], h2 => simp at h2
        | [_], h2 => simp at h2
        | [_, _], h2 => simp at h2
        | _ :: _ :: _ :: _ :: r, h2 => simp at h2; omega
      · cases h2
    have hx := pds_cons (pd_tup h)
    have hy := pds_cons hx.2
    have hz := pds_cons hy.2
    unfold mLc
    walk_at "fws"
    have e1 : wipeE [some (D.tup [x, y, z]), none, none, none, none] [4] = [some (.tup [x, y, z]), none, none, none, none] := rfl
    rw [e1]
    simp only [lcGo]
    walk_at "fws"
    refine ⟨pd_ne hx.1, by decide, pd_ne hy.1, by decide, pd_ne hz.1, by decide, ?_⟩
    refine ⟨_, ⟨[isNum x, isNum y, isNum z], rfl, rfl⟩, _, rfl, ?_⟩
    by_cases hn : ([isNum x, isNum y, isNum z].all id) = true
    · simp only [hn, Bool.not_true, Bool.false_eq_true, if_false]
      have q : isNum x = true ∧ isNum y = true ∧ isNum z = true := by simpa using hn
      cases x <;> first
        | (cases q.1; done)
        | skip
      cases y <;> first
        | (cases q.2.1; done)
        | skip
      cases z <;> first
        | (cases q.2.2; done)
        | skip
      rename_i a b c
      refine ⟨_, ptr_three hp, _, rfl, ?_⟩
      have hp : post (.bl ((decide (a = 0) && (decide (b = 0) && decide (c = 0))) || ((decide (0 ≤ a) && decide (a ≤ 31)) && ((decide (1 ≤ b) && decide (b ≤ 1073741824)) && (decide (0 ≤ c) && decide (c ≤ 16)))))) := hp
      have e30 : (2 : Int) ^ Int.toNat 30 = 1073741824 := by decide
      walk_at "fws"
      rw [e30]
      have cp : CPow 2 30 := ⟨by decide, by decide, by decide⟩
      revert hp
      cases (decide (a = 0) && (decide (b = 0) && decide (c = 0))) with
      | true =>
        intro hp
        exact hp
      | false =>
        simp only [cp, true_and, Bool.false_eq_true, if_false, Bool.false_or]
        cases decide (0 ≤ a) <;> cases decide (a ≤ 31) <;> cases decide (1 ≤ b) <;> cases decide (b ≤ 1073741824) <;> cases decide (0 ≤ c) <;> cases decide (c ≤ 16) <;> intro hp <;> exact hp
    · have e : ([isNum x, isNum y, isNum z].all id) = false := by simpa using hn
      simp only [e, Bool.not_false, if_true]
      have ep : ptrB (.tup [x, y, z]) = false := by
        unfold ptrB
        split
        · rename_i a b c q
          cases q
          exact absurd rfl hn
        · rfl
      rw [ep] at hp
      exact hp
  · have e : isTupN d 3 = false := by simpa using h2
    have ep : ptrB d = false := by
      unfold ptrB
      split
      · exact absurd rfl h2
      · rfl
    rw [ep] at hp
    simp only [e, Bool.not_false, if_true]
    exact hp
theorem good_is_pointer (T : Ty K mg) (G_is_tuple_of : Good P w K mg base "is_tuple_of" "is_tuple_of" s_is_tuple_of 1 ["thing", "many"] F_is_tuple_of) (G_is_number : Good P w K mg base "is_number" "is_number" s_is_number 1 ["thing"] F_is_number) : Good P w K mg base "is_pointer" "is_pointer" s_is_pointer 2 ["thing"] F_is_pointer :=
  (good_fd ("is_pointer", none) T.g_is_pointer T.d_is_pointer sc_is_pointer (fun _ _ _ _ _ _ us h => match us, h with | [_], _ => rfl) fun A outer s H E hr => b_is_pointer T G_is_tuple_of G_is_number hr).mono spec_is_pointer
theorem gl_is_of_sort_is_int : (defScope s_is_of_sort).names.lookup ("is_int" : Str) = some .globalImplicit := by decide +kernel
theorem gl_is_of_sort_is_number_in : (defScope s_is_of_sort).names.lookup ("is_number_in" : Str) = some .globalImplicit := by decide +kernel
theorem gl_is_of_sort_is_pointer : (defScope s_is_of_sort).names.lookup ("is_pointer" : Str) = some .globalImplicit := by decide +kernel
def m_is_of_sort : SM := (sSeq (sIf (mTest (mOp fEq (mVar 0) (mC (.str "int")))) (sRet (mCall 1 F_is_int (mCons (mVar 1) mNil))) sNx) (sSeq (sIf (mTest (mOp fEq (mVar 0) (mC (.str "byte")))) (sRet (mCall 3 F_is_number_in (mCons (mVar 1) (mCons (mC (.int 0)) (mCons (mC (.int 255)) mNil))))) sNx) (sRet (mCall 1 F_is_pointer (mCons (mVar 1) mNil)))))
theorem b_is_of_sort (T : Ty K mg) (G_is_int : Good P w K mg base "is_int" "is_int" s_is_int 3 ["thing"] F_is_int) (G_is_number_in : Good P w K mg base "is_number_in" "is_number_in" s_is_number_in 2 ["thing", "low", "high"] F_is_number_in) (G_is_pointer : Good P w K mg base "is_pointer" "is_pointer" s_is_pointer 2 ["thing"] F_is_pointer) (hr : Room 3 (cxF P w K mg base ["sort", "thing"] "is_of_sort" s_is_of_sort ("is_of_sort", none) A outer s H E).A) : BX (cxF P w K mg base ["sort", "thing"] "is_of_sort" s_is_of_sort ("is_of_sort", none) A outer s H E) E (defBody s_is_of_sort) m_is_of_sort :=
  (bx_cons (sx_if (tx_eq hr (px_var 0) px_str) (bx_one (sx_ret (px_call G_is_int (hr.mono (by decide)) cx_passes gl_is_of_sort_is_int (ax_cons (px_var 1) ax_nil)))) bx_nil) (bx_cons (sx_if (tx_eq hr (px_var 0) px_str) (bx_one (sx_ret (px_call G_is_number_in (hr.mono (by decide)) cx_passes gl_is_of_sort_is_number_in (ax_cons (px_var 1) (ax_cons px_int (ax_cons px_int ax_nil)))))) bx_nil) (bx_one (sx_ret (px_call G_is_pointer (hr.mono (by decide)) cx_passes gl_is_of_sort_is_pointer (ax_cons (px_var 1) ax_nil))))))
def ofSort (s d : D) : Bool := if eqd s (.str "int") = true then inR d (-2147483648) 2147483647 else if eqd s (.str "byte") = true then inR d 0 255 else ptrB d
def F_is_of_sort : FM := fun ds post ex => ∃ s d, ds = [s, d] ∧ eqOk s ∧ pd d = true ∧ post (.bl (ofSort s d))
theorem spec_is_of_sort : ∀ ds post ex, F_is_of_sort ds post ex → funM 2 m_is_of_sort ds post ex := by
  rintro ds post ex ⟨s, d, rfl, hs, h, hp⟩
  unfold m_is_of_sort F_is_int F_is_number_in F_is_pointer
  walk_at "fws"
  refine ⟨_, ⟨hs, ⟨by decide +kernel, by decide +kernel⟩, rfl⟩, _, rfl, ?_⟩
  unfold ofSort at hp
  by_cases h1 : eqd s (.str "int") = true
  · rw [if_pos h1] at hp ⊢
    exact ⟨pd_ne h, hp⟩
  · rw [if_neg h1] at hp ⊢
    refine ⟨_, ⟨hs, ⟨by decide +kernel, by decide +kernel⟩, rfl⟩, _, rfl, ?_⟩
    by_cases h3 : eqd s (.str "byte") = true
    · rw [if_pos h3] at hp ⊢
      exact ⟨pd_ne h, hp⟩
    · rw [if_neg h3] at hp ⊢
      exact ⟨h, hp⟩
theorem good_is_of_sort (T : Ty K mg) (G_is_int : Good P w K mg base "is_int" "is_int" s_is_int 3 ["thing"] F_is_int) (G_is_number_in : Good P w K mg base "is_number_in" "is_number_in" s_is_number_in 2 ["thing", "low", "high"] F_is_number_in) (G_is_pointer : Good P w K mg base "is_pointer" "is_pointer" s_is_pointer 2 ["thing"] F_is_pointer) : Good P w K mg base "is_of_sort" "is_of_sort" s_is_of_sort 4 ["sort", "thing"] F_is_of_sort :=
  (good_fd ("is_of_sort", none) T.g_is_of_sort T.d_is_of_sort sc_is_of_sort (fun _ _ _ _ _ _ us h => match us, h with | [_, _], _ => rfl) fun A outer s H E hr => b_is_of_sort T G_is_int G_is_number_in G_is_pointer hr).mono spec_is_of_sort
theorem gl_is_value_is_sort : (defScope s_is_value).names.lookup ("is_sort" : Str) = some .globalImplicit := by decide +kernel
theorem gl_is_value_BadNumber : (defScope s_is_value).names.lookup ("BadNumber" : Str) = some .globalImplicit := by decide +kernel
theorem gl_is_value_is_of_sort : (defScope s_is_value).names.lookup ("is_of_sort" : Str) = some .globalImplicit := by decide +kernel
def m_is_value : SM := (sSeq (sIf (mNot (mTest (mCall 1 F_is_sort (mCons (mVar 0) mNil)))) (sRaise "BadNumber" "part" (mC (.str "sort"))) sNx) (sRet (mCall 2 F_is_of_sort (mCons (mVar 0) (mCons (mVar 1) mNil)))))
theorem b_is_value (T : Ty K mg) (G_is_sort : Good P w K mg base "is_sort" "is_sort" s_is_sort 3 ["thing"] F_is_sort) (G_is_of_sort : Good P w K mg base "is_of_sort" "is_of_sort" s_is_of_sort 4 ["sort", "thing"] F_is_of_sort) (hr : Room 4 (cxF P w K mg base ["sort", "thing"] "is_value" s_is_value ("is_value", none) A outer s H E).A) : BX (cxF P w K mg base ["sort", "thing"] "is_value" s_is_value ("is_value", none) A outer s H E) E (defBody s_is_value) m_is_value :=
  (bx_cons (sx_if (tx_not (tx_val (px_call G_is_sort (hr.mono (by decide)) cx_passes gl_is_value_is_sort (ax_cons (px_var 0) ax_nil)))) (bx_one (sx_raise (ed_BadNumber T) rfl cx_takes (hr.mono (by decide)) gl_is_value_BadNumber px_str)) bx_nil) (bx_one (sx_ret (px_call G_is_of_sort (hr.mono (by decide)) cx_passes gl_is_value_is_of_sort (ax_cons (px_var 0) (ax_cons (px_var 1) ax_nil))))))
def F_is_value : FM := fun ds post ex => ∃ s d, ds = [s, d] ∧ eqOk s ∧ (if sortB s = true then pd d = true ∧ post (.bl (ofSort s d)) else ex ("BadNumber", [("part", .str "sort")]))
theorem spec_is_value : ∀ ds post ex, F_is_value ds post ex → funM 2 m_is_value ds post ex := by
  rintro ds post ex ⟨s, d, rfl, hs, hp⟩
  unfold m_is_value F_is_sort F_is_of_sort
  walk_at "fws"
  refine ⟨hs.1, ?_⟩
  by_cases h : sortB s = true
  · rw [if_pos h] at hp
    simp only [h, Bool.not_true, Bool.false_eq_true, if_false]
    exact ⟨hs, hp.1, hp.2⟩
  · rw [if_neg h] at hp
    have e : sortB s = false := by simpa using h
    simp only [e, Bool.not_false, if_true]
    exact hp
theorem good_is_value (T : Ty K mg) (G_is_sort : Good P w K mg base "is_sort" "is_sort" s_is_sort 3 ["thing"] F_is_sort) (G_is_of_sort : Good P w K mg base "is_of_sort" "is_of_sort" s_is_of_sort 4 ["sort", "thing"] F_is_of_sort) : Good P w K mg base "is_value" "is_value" s_is_value 5 ["sort", "thing"] F_is_value :=
  (good_fd ("is_value", none) T.g_is_value T.d_is_value sc_is_value (fun _ _ _ _ _ _ us h => match us, h with | [_, _], _ => rfl) fun A outer s H E hr => b_is_value T G_is_sort G_is_of_sort hr).mono spec_is_value
theorem begun_law (T : Ty K mg) : ∃ fd, Binds K fd ["script"] [] ∧ PySem.W.keepIn K (.ref (He.fAd K ("_law_begun", none))) = true ∧ FnOk P w K mg base (L2.CX P w) 1 (He.fAd K ("_law_begun", none)) fd ["script"] (spBegun K) :=
  begun_ok (m1 := mB1) (m3 := mB3) (k := 0) ("_law_begun", none) T.d__law_begun sc__law_begun (by decide +kernel) (fun _ _ _ _ _ _ us h => match us, h with | [_], _ => rfl) rfl
    (fun A outer s H E hr => (nsx_lc1t (i := 2) (q := 1) sc__law_begun.nd (ix_scr (px_var 0)) (fun _ _ _ _ _ => (tx_ge (px_abs (gl_k (by kernel_rfl)) T.f_abs (ax_cons (px_var 2) ax_nil)) (px_pow px_int px_int))) (fun _ _ _ _ _ => (px_sub (px_abs (gl_k (by kernel_rfl)) T.f_abs (ax_cons (px_var 2) ax_nil)) (px_pow px_int px_int)))))
    (fun A outer s H E hr => (nx_lc1 (i := 2) sc__law_begun.nd (ix_scr (px_var 0)) (fun _ _ _ _ _ => (px_abs (gl_k (by kernel_rfl)) T.f_abs (ax_cons (px_var 2) ax_nil))))) d1_ok d3_ok
theorem gl__law_mixed_int : (defScope s__law_mixed).names.lookup ("int" : Str) = some .globalImplicit := by decide +kernel
def m__law_mixed : SM := (sSeq (sDrPut (mVar 0) (mOp fAdd (mDrI (mVar 0)) (mC (.int 1)))) (sSeq (sPar 1 2 (mCons (mCB fInt (mCons (mDrI (mVar 0)) mNil)) (mCons (mC (.int 0)) mNil))) (sSeq (sFor (iSq (mLst (mCons (mC (.int 2147483629)) (mCons (mC (.int 2147483587)) (mCons (mC (.int 2147483579)) mNil))))) (gNm 3) (sSeq (sSet 4 (mMod (mOp fAdd (mMul (mVar 1) (mC (.int 69621))) (mFdiv (mVar 3) (mC (.int 7)))) (mVar 3))) (sSeq (sFor (iDrC (mVar 0)) (gNm 5) (sSet 4 (mMod (mOp fAdd (mMul (mVar 4) (mC (.int 48271))) (mCB fInt (mCons (mVar 5) mNil))) (mVar 3)))) (sSet 2 (mOp fAdd (mMul (mVar 2) (mC (.int 2147483647))) (mMod (mPow (mVar 4) (mC (.int 5))) (mVar 3))))))) (sRet (mVar 2)))))
theorem b__law_mixed (T : Ty K mg)  (hr : Room 0 (cxF P w K mg base ["draw", "turn", "found", "great", "blend", "grain"] "_law_mixed" s__law_mixed ("_law_mixed", none) A outer s H E).A) : BX (cxF P w K mg base ["draw", "turn", "found", "great", "blend", "grain"] "_law_mixed" s__law_mixed ("_law_mixed", none) A outer s H E) E (defBody s__law_mixed) m__law_mixed :=
  (bx_cons (sx_drPut (.inr rfl) hr (px_var 0) (px_add (px_drInt (.inr rfl) hr (px_var 0)) px_int)) (bx_cons (sx_par 1 2 sc__law_mixed.nd (ax_cons (px_toInt gl__law_mixed_int T.f_int (ax_cons (px_drInt (.inr rfl) hr (px_var 0)) ax_nil)) (ax_cons px_int ax_nil))) (bx_cons (sx_for cx_own rfl (ix_sq (px_lst (ax_cons px_int (ax_cons px_int (ax_cons px_int ax_nil))))) (gx_name 3 sc__law_mixed.nd) (bx_cons (sx_set 4 sc__law_mixed.nd (px_mod (px_add (px_mul (px_var 1) px_int) (px_fdiv (px_var 3) px_int)) (px_var 3))) (bx_cons (sx_for cx_own rfl (ix_drC hr (px_var 0)) (gx_name 5 sc__law_mixed.nd) (bx_one (sx_set 4 sc__law_mixed.nd (px_mod (px_add (px_mul (px_var 4) px_int) (px_toInt gl__law_mixed_int T.f_int (ax_cons (px_var 5) ax_nil))) (px_var 3))))) (bx_one (sx_set 2 sc__law_mixed.nd (px_add (px_mul (px_var 2) px_int) (px_mod (px_pow (px_var 4) px_int) (px_var 3)))))))) (bx_one (sx_ret (px_var 2))))))
def F__law_mixed : FM := fun ds post ex => ds = [.drw] ∧ ∀ n : Int, 0 ≤ n → post (.int n)
theorem spec__law_mixed : ∀ ds post ex, F__law_mixed ds post ex → funM 6 m__law_mixed ds post ex := by
  rintro ds post ex ⟨rfl, hp⟩
  unfold m__law_mixed
  walk_at "fws"
  intro n hn
  refine ⟨by omega, fun t ht => ?_⟩
  refine forGo_inv (I := fun δ => ∃ (f : Int) (a b c : Option D), δ = [some .drw, some (.int t), some (.int f), a, b, c] ∧ 0 ≤ f) _ _ ⟨0, _, _, _, rfl, by decide⟩ ?_ ?_
  · rintro d δ k hd ⟨f, a, b, c, rfl, hf⟩ hk
    obtain ⟨g, hg, h0, h1⟩ : ∃ g : Int, d = .int g ∧ 0 < g ∧ g < 2 ^ 62 := by
      simp only [List.mem_cons, List.not_mem_nil, or_false] at hd
      rcases hd with rfl | rfl | rfl <;> exact ⟨_, rfl, by decide, by decide⟩
    subst hg
    walk_at "fws"
    refine ⟨.inr ⟨by decide, by decide⟩, ⟨by decide, by decide⟩, h0, ?_⟩
    intro cs hcs
    refine forGo_inv (I := fun δ => ∃ (bl : Int) (c : Option D), δ = [some .drw, some (.int t), some (.int f), some (.int g), some (.int bl), c] ∧ 0 ≤ bl ∧ bl < g) _ _ ⟨_, _, rfl, Int.emod_nonneg _ (by omega), Int.emod_lt_of_pos _ h0⟩ ?_ ?_
    · rintro d δ k2 hd ⟨bl, c, rfl, hb0, hb1⟩ hk2
      obtain ⟨x, hx, rfl⟩ := List.mem_map.mp hd
      walk_at "fws"
      exact ⟨.inr ⟨by decide, by decide⟩, h0, hk2 _ ⟨_, _, rfl, Int.emod_nonneg _ (by omega), Int.emod_lt_of_pos _ h0⟩⟩
    · rintro δ ⟨bl, c, rfl, hb0, hb1⟩
      walk_at "fws"
      refine ⟨.inr ⟨by decide, by decide⟩, ⟨by decide, by decide, by omega⟩, h0, hk _ ⟨_, _, _, _, rfl, ?_⟩⟩
      have := Int.emod_nonneg (bl ^ (5 : Int).toNat) (show g ≠ 0 by omega)
      omega
  · rintro δ ⟨f, a, b, c, rfl, hf⟩
    walk_at "fws"
    exact hp f hf
theorem good__law_mixed (T : Ty K mg)  : Good P w K mg base "_law_mixed" "_law_mixed" s__law_mixed 1 ["draw"] F__law_mixed :=
  (good_fd ("_law_mixed", none) T.g__law_mixed T.d__law_mixed sc__law_mixed (fun _ _ _ _ _ _ us h => match us, h with | [_], _ => rfl) fun A outer s H E hr => b__law_mixed T  hr).mono spec__law_mixed
theorem gl__law_take__law_mixed : (defScope s__law_take).names.lookup ("_law_mixed" : Str) = some .globalImplicit := by decide +kernel
theorem gl__law_take_int : (defScope s__law_take).names.lookup ("int" : Str) = some .globalImplicit := by decide +kernel
def m__law_take : SM := (sSeq (sIf (mTest (mOp fEq (mDrI (mVar 0)) (mC (.int 0)))) (sDrPut (mVar 0) (mDrPop 0 (mCall 1 F__law_mixed (mCons (mVar 0) mNil)))) sNx) (sSeq (sSet 2 (mMod (mCB fInt (mCons (mDrI (mVar 0)) mNil)) (mVar 1))) (sSeq (sDrPut (mVar 0) (mFdiv (mCB fInt (mCons (mDrI (mVar 0)) mNil)) (mVar 1))) (sRet (mVar 2)))))
theorem b__law_take (T : Ty K mg) (G__law_mixed : Good P w K mg base "_law_mixed" "_law_mixed" s__law_mixed 1 ["draw"] F__law_mixed) (hr : Room 1 (cxF P w K mg base ["draw", "amount", "found"] "_law_take" s__law_take ("_law_take", none) A outer s H E).A) : BX (cxF P w K mg base ["draw", "amount", "found"] "_law_take" s__law_take ("_law_take", none) A outer s H E) E (defBody s__law_take) m__law_take :=
  (bx_cons (sx_if (tx_eq hr (px_drInt (.inl rfl) hr (px_var 0)) px_int) (bx_one (sx_drPut (.inl rfl) hr (px_var 0) (px_drPop 0 hr (px_call G__law_mixed (hr.mono (by decide)) cx_passes gl__law_take__law_mixed (ax_cons (px_var 0) ax_nil))))) bx_nil) (bx_cons (sx_set 2 sc__law_take.nd (px_mod (px_toInt gl__law_take_int T.f_int (ax_cons (px_drInt (.inl rfl) hr (px_var 0)) ax_nil)) (px_var 1))) (bx_cons (sx_drPut (.inl rfl) hr (px_var 0) (px_fdiv (px_toInt gl__law_take_int T.f_int (ax_cons (px_drInt (.inl rfl) hr (px_var 0)) ax_nil)) (px_var 1))) (bx_one (sx_ret (px_var 2))))))
def F__law_take : FM := fun ds post ex => ∃ n : Int, ds = [.drw, .int n] ∧ 0 < n ∧ n.natAbs.log2 < 9000 ∧ ∀ j : Int, 0 ≤ j → j < n → post (.int j)
theorem spec__law_take : ∀ ds post ex, F__law_take ds post ex → funM 3 m__law_take ds post ex := by
  rintro ds post ex ⟨n, rfl, h0, hl, hp⟩
  unfold m__law_take F__law_mixed
  walk_at "fws"
  have fin : ∀ j : Int, 0 ≤ j → 0 < n ∧ ∀ m : Int, 0 ≤ m → CDivW m n ∧ 0 ≤ m / n ∧ post (.int (j % n)) := fun j hj =>
    ⟨h0, fun m hm => ⟨⟨h0, hl⟩, Int.ediv_nonneg hm (by omega), hp _ (Int.emod_nonneg _ (by omega)) (Int.emod_lt_of_pos _ h0)⟩⟩
  intro r hr
  split
  · exact ⟨fun a ha => ⟨ha, fun b hb => fin b hb⟩, fun a ha => ⟨ha, fun b hb => fin b hb⟩⟩
  · exact fun b hb => fin b hb
theorem good__law_take (T : Ty K mg) (G__law_mixed : Good P w K mg base "_law_mixed" "_law_mixed" s__law_mixed 1 ["draw"] F__law_mixed) : Good P w K mg base "_law_take" "_law_take" s__law_take 2 ["draw", "amount"] F__law_take :=
  (good_fd ("_law_take", none) T.g__law_take T.d__law_take sc__law_take (fun _ _ _ _ _ _ us h => match us, h with | [_, _], _ => rfl) fun A outer s H E hr => b__law_take T G__law_mixed hr).mono spec__law_take
theorem gl__law_pick_len : (defScope s__law_pick).names.lookup ("len" : Str) = some .globalImplicit := by decide +kernel
theorem gl__law_pick__law_take : (defScope s__law_pick).names.lookup ("_law_take" : Str) = some .globalImplicit := by decide +kernel
def m__law_pick : SM := (sRet (mOp fIx (mVar 1) (mCall 2 F__law_take (mCons (mVar 0) (mCons (mCB fLen (mCons (mVar 1) mNil)) mNil)))))
theorem b__law_pick (T : Ty K mg) (G__law_take : Good P w K mg base "_law_take" "_law_take" s__law_take 2 ["draw", "amount"] F__law_take) (hr : Room 2 (cxF P w K mg base ["draw", "some"] "_law_pick" s__law_pick ("_law_pick", none) A outer s H E).A) : BX (cxF P w K mg base ["draw", "some"] "_law_pick" s__law_pick ("_law_pick", none) A outer s H E) E (defBody s__law_pick) m__law_pick :=
  (bx_one (sx_ret (px_ix (px_var 1) (px_call G__law_take (hr.mono (by decide)) cx_passes gl__law_pick__law_take (ax_cons (px_var 0) (ax_cons (px_len gl__law_pick_len T.f_len (ax_cons (px_var 1) ax_nil)) ax_nil))))))
def F__law_pick : FM := fun ds post ex => ∃ xs, (ds = [.drw, .lst xs] ∨ ds = [.drw, .tup xs]) ∧ 0 < xs.length ∧ xs.length ≤ 16777216 ∧ ∀ x ∈ xs, post x
theorem log_small {n : Nat} (h : n ≤ 16777216) : n.log2 < 9000 := by
  by_cases h0 : n = 0
  · subst h0
    decide
  · have := Nat.log2_lt h0 |>.mpr (show n < 2 ^ 25 by omega)
    omega
theorem spec__law_pick : ∀ ds post ex, F__law_pick ds post ex → funM 2 m__law_pick ds post ex := by
  rintro ds post ex ⟨xs, rfl | rfl, h0, hl, hp⟩
  all_goals
    unfold m__law_pick F__law_take
    walk_at "fws"
    refine ⟨by omega, by rw [Int.natAbs_natCast]; exact log_small hl, fun j hj0 hj1 => ?_⟩
    obtain ⟨x, hx, e⟩ := at_of hj0 hj1
    exact ⟨x, ⟨xs, j, rfl, rfl, e⟩, hp x hx⟩
theorem good__law_pick (T : Ty K mg) (G__law_take : Good P w K mg base "_law_take" "_law_take" s__law_take 2 ["draw", "amount"] F__law_take) : Good P w K mg base "_law_pick" "_law_pick" s__law_pick 3 ["draw", "some"] F__law_pick :=
  (good_fd ("_law_pick", none) T.g__law_pick T.d__law_pick sc__law_pick (fun _ _ _ _ _ _ us h => match us, h with | [_, _], _ => rfl) fun A outer s H E hr => b__law_pick T G__law_take hr).mono spec__law_pick
def m__law_is_truth : SM := (sRet (mIf (mTest (mVar 1)) (mOp fIsB (mVar 0) (mC (.bl true))) (mOp fIsB (mVar 0) (mC (.bl false)))))
theorem b__law_is_truth (T : Ty K mg)  (hr : Room 0 (cxF P w K mg base ["found", "due"] "_law_is_truth" s__law_is_truth ("_law_is_truth", none) A outer s H E).A) : BX (cxF P w K mg base ["found", "due"] "_law_is_truth" s__law_is_truth ("_law_is_truth", none) A outer s H E) E (defBody s__law_is_truth) m__law_is_truth :=
  (bx_one (sx_ret (px_if (tx_val (px_var 1)) (px_isB (px_var 0) px_bl) (px_isB (px_var 0) px_bl))))
def F__law_is_truth : FM := fun ds post ex => ∃ a b, ds = [.bl a, .bl b] ∧ post (.bl (decide (a = b)))
theorem spec__law_is_truth : ∀ ds post ex, F__law_is_truth ds post ex → funM 2 m__law_is_truth ds post ex := by
  rintro ds post ex ⟨a, b, rfl, hp⟩
  unfold m__law_is_truth
  walk_at "fws"
  cases a <;> cases b <;> exact hp
theorem good__law_is_truth (T : Ty K mg)  : Good P w K mg base "_law_is_truth" "_law_is_truth" s__law_is_truth 1 ["found", "due"] F__law_is_truth :=
  (good_fd ("_law_is_truth", none) T.g__law_is_truth T.d__law_is_truth sc__law_is_truth (fun _ _ _ _ _ _ us h => match us, h with | [_, _], _ => rfl) fun A outer s H E hr => b__law_is_truth T  hr).mono spec__law_is_truth
theorem gl__law_size__law_take : (defScope s__law_size).names.lookup ("_law_take" : Str) = some .globalImplicit := by decide +kernel
theorem gl__law_size__law_pick : (defScope s__law_size).names.lookup ("_law_pick" : Str) = some .globalImplicit := by decide +kernel
def m__law_size : SM := (sSeq (sSet 1 (mCall 2 F__law_take (mCons (mVar 0) (mCons (mC (.int 12)) mNil)))) (sSeq (sIf (mTest (mOp fEq (mVar 1) (mC (.int 0)))) (sRet (mCall 2 F__law_pick (mCons (mVar 0) (mCons (mLst (mCons (mSub (mPow (mC (.int 2)) (mC (.int 31))) (mC (.int 1))) (mCons (mSub (mC (.int 0)) (mPow (mC (.int 2)) (mC (.int 31)))) (mCons (mC (.int 65536)) (mCons (mSub (mC (.int 0)) (mC (.int 65536))) (mCons (mSub (mCall 2 F__law_take (mCons (mVar 0) (mCons (mPow (mC (.int 2)) (mC (.int 32))) mNil))) (mPow (mC (.int 2)) (mC (.int 31)))) mNil)))))) mNil)))) sNx) (sRet (mSub (mCall 2 F__law_take (mCons (mVar 0) (mCons (mC (.int 21)) mNil))) (mC (.int 10))))))
theorem b__law_size (T : Ty K mg) (G__law_take : Good P w K mg base "_law_take" "_law_take" s__law_take 2 ["draw", "amount"] F__law_take) (G__law_pick : Good P w K mg base "_law_pick" "_law_pick" s__law_pick 3 ["draw", "some"] F__law_pick) (hr : Room 3 (cxF P w K mg base ["draw", "way"] "_law_size" s__law_size ("_law_size", none) A outer s H E).A) : BX (cxF P w K mg base ["draw", "way"] "_law_size" s__law_size ("_law_size", none) A outer s H E) E (defBody s__law_size) m__law_size :=
  (bx_cons (sx_set 1 sc__law_size.nd (px_call G__law_take (hr.mono (by decide)) cx_passes gl__law_size__law_take (ax_cons (px_var 0) (ax_cons px_int ax_nil)))) (bx_cons (sx_if (tx_eq hr (px_var 1) px_int) (bx_one (sx_ret (px_call G__law_pick (hr.mono (by decide)) cx_passes gl__law_size__law_pick (ax_cons (px_var 0) (ax_cons (px_lst (ax_cons (px_sub (px_pow px_int px_int) px_int) (ax_cons (px_sub px_int (px_pow px_int px_int)) (ax_cons px_int (ax_cons (px_sub px_int px_int) (ax_cons (px_sub (px_call G__law_take (hr.mono (by decide)) cx_passes gl__law_size__law_take (ax_cons (px_var 0) (ax_cons (px_pow px_int px_int) ax_nil))) (px_pow px_int px_int)) ax_nil)))))) ax_nil))))) bx_nil) (bx_one (sx_ret (px_sub (px_call G__law_take (hr.mono (by decide)) cx_passes gl__law_size__law_take (ax_cons (px_var 0) (ax_cons px_int ax_nil))) px_int)))))
def F__law_size : FM := fun ds post ex => ds = [.drw] ∧ ∀ j : Int, post (.int j)
theorem spec__law_size : ∀ ds post ex, F__law_size ds post ex → funM 2 m__law_size ds post ex := by
  rintro ds post ex ⟨rfl, hp⟩
  unfold m__law_size F__law_take F__law_pick
  walk_at "fws"
  refine ⟨by decide, by decide, fun j h0 h1 => ?_⟩
  split
  · refine ⟨⟨by decide, by decide, by decide⟩, ⟨by decide, by decide, by decide⟩, ⟨by decide, by decide, by decide⟩, by decide, by decide, fun i i0 i1 => ?_⟩
    refine ⟨⟨by decide, by decide, by decide⟩, _, .inl rfl, by show 0 < 5; decide, by show 5 ≤ 16777216; decide, ?_⟩
    intro x hx
    simp only [List.mem_cons, List.not_mem_nil, or_false] at hx
    rcases hx with rfl | rfl | rfl | rfl | rfl <;> exact hp _
  · refine ⟨by decide, by decide, fun i i0 i1 => hp _⟩
theorem good__law_size (T : Ty K mg) (G__law_take : Good P w K mg base "_law_take" "_law_take" s__law_take 2 ["draw", "amount"] F__law_take) (G__law_pick : Good P w K mg base "_law_pick" "_law_pick" s__law_pick 3 ["draw", "some"] F__law_pick) : Good P w K mg base "_law_size" "_law_size" s__law_size 4 ["draw"] F__law_size :=
  (good_fd ("_law_size", none) T.g__law_size T.d__law_size sc__law_size (fun _ _ _ _ _ _ us h => match us, h with | [_], _ => rfl) fun A outer s H E hr => b__law_size T G__law_take G__law_pick hr).mono spec__law_size
def perm_1_0 {α : Type} (l : List α) : List α := match l with | [a0] => [a0] | _ => []
theorem perm_1_0_ok : PermOk @perm_1_0 := ⟨fun r0 => by cases r0 with | nil => exact .nil | cons h0 r1 => (cases r1 with | nil => exact .cons h0 (.nil) | cons h1 r2 => (exact .nil)), fun r0 => by cases r0 with | nil => exact .nil | cons h0 r1 => (cases r1 with | nil => exact .cons h0 (.nil) | cons h1 r2 => (exact .nil))⟩
def perm_2_10 {α : Type} (l : List α) : List α := match l with | [a0, a1] => [a1, a0] | _ => []
theorem perm_2_10_ok : PermOk @perm_2_10 := ⟨fun r0 => by cases r0 with | nil => exact .nil | cons h0 r1 => (cases r1 with | nil => exact .nil | cons h1 r2 => (cases r2 with | nil => exact .cons h1 (.cons h0 (.nil)) | cons h2 r3 => (exact .nil))), fun r0 => by cases r0 with | nil => exact .nil | cons h0 r1 => (cases r1 with | nil => exact .nil | cons h1 r2 => (cases r2 with | nil => exact .cons h1 (.cons h0 (.nil)) | cons h2 r3 => (exact .nil)))⟩
theorem gl_law_is_sort : (defScope s_law).names.lookup ("is_sort" : Str) = some .globalImplicit := by decide +kernel
theorem gl_law__law_caught : (defScope s_law).names.lookup ("_law_caught" : Str) = some .globalImplicit := by decide +kernel
theorem gl_law_isinstance : (defScope s_law).names.lookup ("isinstance" : Str) = some .globalImplicit := by decide +kernel
theorem gl_law_BadNumber : (defScope s_law).names.lookup ("BadNumber" : Str) = some .globalImplicit := by decide +kernel
theorem gl_law_len : (defScope s_law).names.lookup ("len" : Str) = some .globalImplicit := by decide +kernel
theorem gl_law_min : (defScope s_law).names.lookup ("min" : Str) = some .globalImplicit := by decide +kernel
theorem gl_law_range : (defScope s_law).names.lookup ("range" : Str) = some .globalImplicit := by decide +kernel
theorem gl_law__law_size : (defScope s_law).names.lookup ("_law_size" : Str) = some .globalImplicit := by decide +kernel
theorem gl_law__law_take : (defScope s_law).names.lookup ("_law_take" : Str) = some .globalImplicit := by decide +kernel
theorem gl_law__law_pick : (defScope s_law).names.lookup ("_law_pick" : Str) = some .globalImplicit := by decide +kernel
theorem gl_law_is_value : (defScope s_law).names.lookup ("is_value" : Str) = some .globalImplicit := by decide +kernel
theorem gl_law__law_is_truth : (defScope s_law).names.lookup ("_law_is_truth" : Str) = some .globalImplicit := by decide +kernel
theorem gl_law_tuple : (defScope s_law).names.lookup ("tuple" : Str) = some .globalImplicit := by decide +kernel
def m_law : SM := (sSeq (sSet 2 (mLst (mCons (mC (.str "int")) (mCons (mC (.str "byte")) (mCons (mTup (mCons (mC (.str "to")) (mCons (mC (.str "int")) mNil))) (mCons (mTup (mCons (mC (.str "to")) (mCons (mC (.str "byte")) mNil))) (mCons (mTup (mCons (mC (.str "to")) (mCons (mTup (mCons (mC (.str "to")) (mCons (mC (.str "int")) mNil))) mNil))) (mCons (mTup (mCons (mC (.str "to")) (mCons (mTup (mCons (mC (.str "to")) (mCons (mC (.str "byte")) mNil))) mNil))) mNil)))))))) (sSeq (sFor (iSq (mVar 2)) (gNm 3) (sIf (mOr (mTest (mOp fNotB (mCall 1 F_is_sort (mCons (mVar 3) mNil)) (mC (.bl true)))) (mTest (mOp fNotB (mCallK 1 1 @perm_1_0 F_is_sort (mCons (mVar 3) mNil)) (mC (.bl true))))) (sRet (mC (.bl false))) sNx)) (sSeq (sSet 4 (mLst (mCons (mC .non) (mCons (mC (.int 5)) (mCons (mC (.str "")) (mCons (mC (.str "ints")) (mCons (mTup (mCons (mC (.str "int")) mNil)) (mCons (mTup (mCons (mC (.str "to")) mNil)) (mCons (mTup (mCons (mC (.str "to")) (mCons (mC .non) mNil))) (mCons (mLst (mCons (mC (.str "to")) (mCons (mC (.str "int")) mNil))) (mCons (mTup (mCons (mC (.str "to")) (mCons (mC (.str "int")) (mCons (mC (.str "int")) mNil)))) (mCons (mTup (mCons (mC (.str "to")) (mCons (mTup (mCons (mC (.str "to")) (mCons (mTup (mCons (mC (.str "to")) (mCons (mC (.str "int")) mNil))) mNil))) mNil))) mNil)))))))))))) (sSeq (sFor (iSq (mOp fAdd (mVar 4) (mLst (mCons (mTup (mCons (mC (.str "at")) (mCons (mC (.str "int")) mNil))) (mCons (mTup (mCons (mC (.int 5)) (mCons (mC (.str "int")) mNil))) (mCons (mTup (mCons (mC (.str "to")) (mCons (mLst (mCons (mC (.str "to")) (mCons (mC (.str "int")) mNil))) mNil))) (mCons (mTup mNil) mNil))))))) (gNm 5) (sSeq (sIf (mTest (mOp fNotB (mCall 1 F_is_sort (mCons (mVar 5) mNil)) (mC (.bl false)))) (sRet (mC (.bl false))) sNx) (sSeq (sSet 6 (mCaught ns (mCall 2 F_is_value (mCons (mVar 5) (mCons (mC .non) mNil))))) (sIf (mOr (mNot (mTest (mIsC ns sub "BadNumber" (mVar 6)))) (mTest (mOp fNe (mExF ns "part" (mVar 6)) (mC (.str "sort"))))) (sRet (mC (.bl false))) sNx)))) (sSeq (sFor (iRange (mCons (mOp fAdd (mC (.int 1)) (mCB fMin (mCons (mCB fLen (mCons (mVar 0) mNil)) (mCons (mC (.int 6)) mNil)))) mNil)) (gNm 7) (sSeq (sSet 8 (mCall 2 F__law_pick (mCons (mVar 1) (mCons (mLst (mCons (mCall 1 F__law_size (mCons (mVar 1) mNil)) (mCons (mSub (mCall 2 F__law_take (mCons (mVar 1) (mCons (mC (.int 700)) mNil))) (mC (.int 200))) (mCons (mSub (mCall 2 F__law_take (mCons (mVar 1) (mCons (mPow (mC (.int 2)) (mC (.int 33))) mNil))) (mPow (mC (.int 2)) (mC (.int 32)))) mNil)))) mNil)))) (sSeq (sPar3 9 10 11 (mCons (mSub (mCall 2 F__law_take (mCons (mVar 1) (mCons (mC (.int 40)) mNil))) (mC (.int 4))) (mCons (mCall 2 F__law_pick (mCons (mVar 1) (mCons (mLst (mCons (mC (.int 0)) (mCons (mC (.int 1)) (mCons (mC (.int 2)) (mCons (mPow (mC (.int 2)) (mC (.int 30))) (mCons (mOp fAdd (mPow (mC (.int 2)) (mC (.int 30))) (mC (.int 1))) (mCons (mNeg (mC (.int 1))) mNil))))))) mNil))) (mCons (mSub (mCall 2 F__law_take (mCons (mVar 1) (mCons (mC (.int 20)) mNil))) (mC (.int 2))) mNil)))) (sSeq (sSet 12 (mTup (mCons (mVar 9) (mCons (mVar 10) (mCons (mVar 11) mNil))))) (sSeq (sSet 13 (mOrV (mOp fEq (mVar 12) (mTup (mCons (mC (.int 0)) (mCons (mC (.int 0)) (mCons (mC (.int 0)) mNil))))) (mAndV (mChain fLe fLe (mC (.int 0)) (mVar 9) (mC (.int 31))) (mAndV (mChain fLe fLe (mC (.int 1)) (mVar 10) (mPow (mC (.int 2)) (mC (.int 30)))) (mChain fLe fLe (mC (.int 0)) (mVar 11) (mC (.int 16))))))) (sFor (iSq (mVar 2)) (gNm 3) (sSeq (sSet 14 (mGet (mDic [.inr "int", .inr "byte"] (mCons (mChain fLe fLe (mSub (mC (.int 0)) (mPow (mC (.int 2)) (mC (.int 31)))) (mVar 8) (mSub (mPow (mC (.int 2)) (mC (.int 31))) (mC (.int 1)))) (mCons (mChain fLe fLe (mC (.int 0)) (mVar 8) (mC (.int 255))) mNil))) (mVar 3) (mC (.bl false)))) (sSeq (sIf (mOr (mNot (mTest (mCall 2 F__law_is_truth (mCons (mCall 2 F_is_value (mCons (mVar 3) (mCons (mVar 8) mNil))) (mCons (mVar 14) mNil))))) (mNot (mTest (mCall 2 F__law_is_truth (mCons (mCall 2 F_is_value (mCons (mVar 3) (mCons (mVar 12) mNil))) (mCons (mAndV (mIsi "tuple" (mVar 3)) (mVar 13)) mNil)))))) (sRet (mC (.bl false))) sNx) (sSeq (sIf (mNot (mTest (mCall 2 F__law_is_truth (mCons (mCallK 2 2 @perm_2_10 F_is_value (mCons (mTup (mCons (mC (.int 0)) (mCons (mC (.int 0)) (mCons (mC (.int 0)) mNil)))) (mCons (mVar 3) mNil))) (mCons (mIsi "tuple" (mVar 3)) mNil))))) (sRet (mC (.bl false))) sNx) (sSeq (sSet 4 (mLst (mCons (mC .non) (mCons (mC (.bl true)) (mCons (mC (.bl false)) (mCons (mC (.str "0")) (mCons (mLst (mCons (mC (.int 0)) (mCons (mC (.int 0)) (mCons (mC (.int 0)) mNil)))) (mCons (mTup (mCons (mC (.int 0)) (mCons (mC (.int 0)) mNil))) (mCons (mTup (mCons (mC (.int 0)) (mCons (mC (.int 0)) (mCons (mC (.int 0)) (mCons (mC (.int 0)) mNil))))) (mCons (mTup (mCons (mC (.int 1)) (mCons (mC (.int 0)) (mCons (mC (.int 0)) mNil)))) (mCons (mTup (mCons (mC (.int 0)) (mCons (mC (.int 0)) (mCons (mC (.int 1)) mNil)))) (mCons (mTup (mCons (mC (.int 0)) (mCons (mC (.bl true)) (mCons (mC (.int 0)) mNil)))) (mCons (mTup (mCons (mC (.int 0)) (mCons (mC (.int 1)) (mCons (mC .non) mNil)))) (mCons (mTup (mCons (mC (.int 0)) (mCons (mC (.int 1)) (mCons (mC (.int 17)) mNil)))) mNil)))))))))))))) (sFor (iSq (mOp fAdd (mVar 4) (mLst (mCons (mTup (mCons (mC (.int 32)) (mCons (mC (.int 1)) (mCons (mC (.int 0)) mNil)))) (mCons (mPow (mC (.int 2)) (mC (.int 31))) (mCons (mSub (mSub (mC (.int 0)) (mPow (mC (.int 2)) (mC (.int 31)))) (mC (.int 1))) mNil)))))) (gNm 5) (sIf (mTest (mOp fNotB (mCall 2 F_is_value (mCons (mVar 3) (mCons (mVar 5) mNil))) (mC (.bl false)))) (sRet (mC (.bl false))) sNx)))))))))))) (sRet (mC (.bl true))))))))
theorem b_law (T : Ty K mg) (G_is_sort : Good P w K mg base "is_sort" "is_sort" s_is_sort 3 ["thing"] F_is_sort) (G_is_value : Good P w K mg base "is_value" "is_value" s_is_value 5 ["sort", "thing"] F_is_value) (G__law_pick : Good P w K mg base "_law_pick" "_law_pick" s__law_pick 3 ["draw", "some"] F__law_pick) (G__law_size : Good P w K mg base "_law_size" "_law_size" s__law_size 4 ["draw"] F__law_size) (G__law_take : Good P w K mg base "_law_take" "_law_take" s__law_take 2 ["draw", "amount"] F__law_take) (G__law_is_truth : Good P w K mg base "_law_is_truth" "_law_is_truth" s__law_is_truth 1 ["found", "due"] F__law_is_truth) {fdc : FuncData} (Fc : FunD K "_law_caught" "_law_caught" (defArgs s__law_caught) (defBody s__law_caught) (defScope s__law_caught) [] [] (He.fAd K ("_law_caught", none)) fdc) (TB : LamX.TabB base mg (He.codeOf K ("law", none)) (He.cT K ("law", none)).2) (hr : Room 7 (cxF P w K mg base ["script", "draw", "sorts_here", "sort_here", "odd", "bad", "caught", "turn", "number", "slot_here", "life_here", "far", "pointer", "is_a_pointer", "due"] "law" s_law ("law", none) A outer s H E).A) : BX (cxF P w K mg base ["script", "draw", "sorts_here", "sort_here", "odd", "bad", "caught", "turn", "number", "slot_here", "life_here", "far", "pointer", "is_a_pointer", "due"] "law" s_law ("law", none) A outer s H E) E (defBody s_law).tail m_law :=
  (bx_cons (sx_set 2 sc_law.nd (px_lst (ax_cons px_str (ax_cons px_str (ax_cons (px_tup (ax_cons px_str (ax_cons px_str ax_nil))) (ax_cons (px_tup (ax_cons px_str (ax_cons px_str ax_nil))) (ax_cons (px_tup (ax_cons px_str (ax_cons (px_tup (ax_cons px_str (ax_cons px_str ax_nil))) ax_nil))) (ax_cons (px_tup (ax_cons px_str (ax_cons (px_tup (ax_cons px_str (ax_cons px_str ax_nil))) ax_nil))) ax_nil)))))))) (bx_cons (sx_for cx_own rfl (ix_sq (px_var 2)) (gx_name 3 sc_law.nd) (bx_one (sx_if ((wx_or (tx_notB (px_call G_is_sort (hr.mono (by decide)) cx_passes gl_law_is_sort (ax_cons (px_var 3) ax_nil)) px_bl) (wx_or1 (tx_notB (px_callK (ks := ["thing"]) @perm_1_0 perm_1_0_ok G_is_sort (hr.mono (by decide)) cx_passes gl_law_is_sort (kx_cons (px_var 3) kx_nil) (hb := fun _ _ _ _ _ _ ws h => match ws, h with | [_], _ => rfl)) px_bl)))).tx (bx_one (sx_ret px_bl)) bx_nil))) (bx_cons (sx_set 4 sc_law.nd (px_lst (ax_cons px_non (ax_cons px_int (ax_cons px_str (ax_cons px_str (ax_cons (px_tup (ax_cons px_str ax_nil)) (ax_cons (px_tup (ax_cons px_str ax_nil)) (ax_cons (px_tup (ax_cons px_str (ax_cons px_non ax_nil))) (ax_cons (px_lst (ax_cons px_str (ax_cons px_str ax_nil))) (ax_cons (px_tup (ax_cons px_str (ax_cons px_str (ax_cons px_str ax_nil)))) (ax_cons (px_tup (ax_cons px_str (ax_cons (px_tup (ax_cons px_str (ax_cons (px_tup (ax_cons px_str (ax_cons px_str ax_nil))) ax_nil))) ax_nil))) ax_nil)))))))))))) (bx_cons (sx_for cx_own rfl (ix_sq (px_add (px_var 4) (px_lst (ax_cons (px_tup (ax_cons px_str (ax_cons px_str ax_nil))) (ax_cons (px_tup (ax_cons px_int (ax_cons px_str ax_nil))) (ax_cons (px_tup (ax_cons px_str (ax_cons (px_lst (ax_cons px_str (ax_cons px_str ax_nil))) ax_nil))) (ax_cons (px_tup ax_nil) ax_nil))))))) (gx_name 5 sc_law.nd) (bx_cons (sx_if (tx_notB (px_call G_is_sort (hr.mono (by decide)) cx_passes gl_law_is_sort (ax_cons (px_var 5) ax_nil)) px_bl) (bx_one (sx_ret px_bl)) bx_nil) (bx_cons (sx_set 6 sc_law.nd (px_caught (CW := He.ga K "WrongError") (ns := ns) (k := 5) (c := He.codeOf K ("law", none)) (P := (He.cT K ("law", none)).2) gl_law__law_caught T.g__law_caught Fc (binds_fd Fc (fun _ _ _ _ _ _ us h => match us, h with | [_], _ => rfl)) sc__law_caught (.inl (by decide +kernel)) (fun cdg q => caught_gives (X := (cxF P w K mg base ["script", "draw", "sorts_here", "sort_here", "odd", "bad", "caught", "turn", "number", "slot_here", "life_here", "far", "pointer", "is_a_pointer", "due"] "law" s_law ("law", none) A outer s H E)) (c := "WrongError") (by decide +kernel) T.g_WrongError (by decide) (by decide +kernel) (by decide +kernel)) (fun n hn => (exk T hn).2.2) TB rfl (List.mem_singleton.mpr rfl) (fun p hp _ => by rw [List.mem_singleton.mp hp]; rfl) (hr.mono (by decide)) (LamX.lamS_by (by kernel_rfl)) (fun A outer s H E2 f c2 hr2 => (px_call G_is_value (hr2.mono (by decide)) (passes_call (takes_of rfl rfl rfl rfl) fun _ _ _ _ h => h) (gl_k (by kernel_rfl)) (ax_cons (px_var 5) (ax_cons px_non ax_nil)))))) (bx_one (sx_if ((wx_or (tx_not (tx_val (px_isC (X := cxF P w K mg base ["script", "draw", "sorts_here", "sort_here", "odd", "bad", "caught", "turn", "number", "slot_here", "life_here", "far", "pointer", "is_a_pointer", "due"] "law" s_law ("law", none) A outer s H E) (kinds_of T) (by decide +kernel) gl_law_isinstance T.f_isinstance gl_law_BadNumber (px_var 6)))) (wx_or1 (tx_ne hr (px_exf (X := cxF P w K mg base ["script", "draw", "sorts_here", "sort_here", "odd", "bad", "caught", "turn", "number", "slot_here", "life_here", "far", "pointer", "is_a_pointer", "due"] "law" s_law ("law", none) A outer s H E) (kinds_of T) (no_part T) (px_var 6)) px_str)))).tx (bx_one (sx_ret px_bl)) bx_nil))))) (bx_cons (sx_for cx_own rfl (ix_range gl_law_range T.f_range (ax_cons (px_add px_int (px_min rfl gl_law_min T.f_min (ax_cons (px_len gl_law_len T.f_len (ax_cons (px_var 0) ax_nil)) (ax_cons px_int ax_nil)))) ax_nil)) (gx_name 7 sc_law.nd) (bx_cons (sx_set 8 sc_law.nd (px_call G__law_pick (hr.mono (by decide)) cx_passes gl_law__law_pick (ax_cons (px_var 1) (ax_cons (px_lst (ax_cons (px_call G__law_size (hr.mono (by decide)) cx_passes gl_law__law_size (ax_cons (px_var 1) ax_nil)) (ax_cons (px_sub (px_call G__law_take (hr.mono (by decide)) cx_passes gl_law__law_take (ax_cons (px_var 1) (ax_cons px_int ax_nil))) px_int) (ax_cons (px_sub (px_call G__law_take (hr.mono (by decide)) cx_passes gl_law__law_take (ax_cons (px_var 1) (ax_cons (px_pow px_int px_int) ax_nil))) (px_pow px_int px_int)) ax_nil)))) ax_nil)))) (bx_cons (sx_par3 9 10 11 sc_law.nd (ax_cons (px_sub (px_call G__law_take (hr.mono (by decide)) cx_passes gl_law__law_take (ax_cons (px_var 1) (ax_cons px_int ax_nil))) px_int) (ax_cons (px_call G__law_pick (hr.mono (by decide)) cx_passes gl_law__law_pick (ax_cons (px_var 1) (ax_cons (px_lst (ax_cons px_int (ax_cons px_int (ax_cons px_int (ax_cons (px_pow px_int px_int) (ax_cons (px_add (px_pow px_int px_int) px_int) (ax_cons (px_neg px_int) ax_nil))))))) ax_nil))) (ax_cons (px_sub (px_call G__law_take (hr.mono (by decide)) cx_passes gl_law__law_take (ax_cons (px_var 1) (ax_cons px_int ax_nil))) px_int) ax_nil)))) (bx_cons (sx_set 12 sc_law.nd (px_tup (ax_cons (px_var 9) (ax_cons (px_var 10) (ax_cons (px_var 11) ax_nil))))) (bx_cons (sx_set 13 sc_law.nd (px_or (px_eq hr (px_var 12) (px_tup (ax_cons px_int (ax_cons px_int (ax_cons px_int ax_nil))))) (px_one (px_and (px_chain op_le (fun W => dLe W _) op_le (fun W => dLe W _) px_int (px_var 9) px_int) (px_and (px_chain op_le (fun W => dLe W _) op_le (fun W => dLe W _) px_int (px_var 10) (px_pow px_int px_int)) (px_one (px_chain op_le (fun W => dLe W _) op_le (fun W => dLe W _) px_int (px_var 11) px_int))))))) (bx_one (sx_for cx_own rfl (ix_sq (px_var 2)) (gx_name 3 sc_law.nd) (bx_cons (sx_set 14 sc_law.nd (px_get hr (px_dic (dx_str (px_chain op_le (fun W => dLe W _) op_le (fun W => dLe W _) (px_sub px_int (px_pow px_int px_int)) (px_var 8) (px_sub (px_pow px_int px_int) px_int)) (dx_str (px_chain op_le (fun W => dLe W _) op_le (fun W => dLe W _) px_int (px_var 8) px_int) dx_nil)) (by decide +kernel)) (px_var 3) px_bl)) (bx_cons (sx_if ((wx_or (tx_not (tx_val (px_call G__law_is_truth (hr.mono (by decide)) cx_passes gl_law__law_is_truth (ax_cons (px_call G_is_value (hr.mono (by decide)) cx_passes gl_law_is_value (ax_cons (px_var 3) (ax_cons (px_var 8) ax_nil))) (ax_cons (px_var 14) ax_nil))))) (wx_or1 (tx_not (tx_val (px_call G__law_is_truth (hr.mono (by decide)) cx_passes gl_law__law_is_truth (ax_cons (px_call G_is_value (hr.mono (by decide)) cx_passes gl_law_is_value (ax_cons (px_var 3) (ax_cons (px_var 12) ax_nil))) (ax_cons (px_and (px_isi gl_law_isinstance T.f_isinstance gl_law_tuple T.f_tuple (by decide +kernel) (px_var 3)) (px_one (px_var 13))) ax_nil)))))))).tx (bx_one (sx_ret px_bl)) bx_nil) (bx_cons (sx_if (tx_not (tx_val (px_call G__law_is_truth (hr.mono (by decide)) cx_passes gl_law__law_is_truth (ax_cons (px_callK (ks := ["thing", "sort"]) @perm_2_10 perm_2_10_ok G_is_value (hr.mono (by decide)) cx_passes gl_law_is_value (kx_cons (px_tup (ax_cons px_int (ax_cons px_int (ax_cons px_int ax_nil)))) (kx_cons (px_var 3) kx_nil)) (hb := fun _ _ _ _ _ _ ws h => match ws, h with | [_, _], _ => rfl)) (ax_cons (px_isi gl_law_isinstance T.f_isinstance gl_law_tuple T.f_tuple (by decide +kernel) (px_var 3)) ax_nil))))) (bx_one (sx_ret px_bl)) bx_nil) (bx_cons (sx_set 4 sc_law.nd (px_lst (ax_cons px_non (ax_cons px_bl (ax_cons px_bl (ax_cons px_str (ax_cons (px_lst (ax_cons px_int (ax_cons px_int (ax_cons px_int ax_nil)))) (ax_cons (px_tup (ax_cons px_int (ax_cons px_int ax_nil))) (ax_cons (px_tup (ax_cons px_int (ax_cons px_int (ax_cons px_int (ax_cons px_int ax_nil))))) (ax_cons (px_tup (ax_cons px_int (ax_cons px_int (ax_cons px_int ax_nil)))) (ax_cons (px_tup (ax_cons px_int (ax_cons px_int (ax_cons px_int ax_nil)))) (ax_cons (px_tup (ax_cons px_int (ax_cons px_bl (ax_cons px_int ax_nil)))) (ax_cons (px_tup (ax_cons px_int (ax_cons px_int (ax_cons px_non ax_nil)))) (ax_cons (px_tup (ax_cons px_int (ax_cons px_int (ax_cons px_int ax_nil)))) ax_nil)))))))))))))) (bx_one (sx_for cx_own rfl (ix_sq (px_add (px_var 4) (px_lst (ax_cons (px_tup (ax_cons px_int (ax_cons px_int (ax_cons px_int ax_nil)))) (ax_cons (px_pow px_int px_int) (ax_cons (px_sub (px_sub px_int (px_pow px_int px_int)) px_int) ax_nil)))))) (gx_name 5 sc_law.nd) (bx_one (sx_if (tx_notB (px_call G_is_value (hr.mono (by decide)) cx_passes gl_law_is_value (ax_cons (px_var 3) (ax_cons (px_var 5) ax_nil))) px_bl) (bx_one (sx_ret px_bl)) bx_nil))))))))))))))) (bx_one (sx_ret px_bl)))))))
def lawK : Nat := 7
theorem law_fd {fd : FuncData} (F : FunD K "law" "law" (defArgs s_law) (defBody s_law) (defScope s_law) [] [] (He.fAd K ("law", none)) fd) (T : Ty K mg) (TB : LamX.TabB base mg (He.codeOf K ("law", none)) (He.cT K ("law", none)).2) (pu : ∀ ns : List Int, ns.length ≤ 16777216 → m_law (some (.scr ns) :: some .drw :: List.replicate 13 none) { nx := fun _ => False, rt := fun d => d = .bl true }) :
    FnOk P w K mg base (L2.CX P w) (7 + 1) (He.fAd K ("law", none)) fd ["script"] (spLaw K) := by
  have G_is_number : Good P w K mg base "is_number" "is_number" s_is_number 1 ["thing"] F_is_number := good_is_number T 
  have G_is_number_in : Good P w K mg base "is_number_in" "is_number_in" s_is_number_in 2 ["thing", "low", "high"] F_is_number_in := good_is_number_in T G_is_number
  have G_is_int : Good P w K mg base "is_int" "is_int" s_is_int 3 ["thing"] F_is_int := good_is_int T G_is_number_in
  have G_is_one_of : Good P w K mg base "is_one_of" "is_one_of" s_is_one_of 1 ["thing", "words"] F_is_one_of := good_is_one_of T 
  have G_is_tuple_of : Good P w K mg base "is_tuple_of" "is_tuple_of" s_is_tuple_of 1 ["thing", "many"] F_is_tuple_of := good_is_tuple_of T 
  have G_is_pointer_to : Good P w K mg base "is_pointer_to" "is_pointer_to" s_is_pointer_to 2 ["thing", "deep"] F_is_pointer_to := good_is_pointer_to T G_is_tuple_of G_is_one_of
  have G_is_sort : Good P w K mg base "is_sort" "is_sort" s_is_sort 3 ["thing"] F_is_sort := good_is_sort T G_is_pointer_to
  have G_is_pointer : Good P w K mg base "is_pointer" "is_pointer" s_is_pointer 2 ["thing"] F_is_pointer := good_is_pointer T G_is_tuple_of G_is_number
  have G_is_of_sort : Good P w K mg base "is_of_sort" "is_of_sort" s_is_of_sort 4 ["sort", "thing"] F_is_of_sort := good_is_of_sort T G_is_int G_is_number_in G_is_pointer
  have G_is_value : Good P w K mg base "is_value" "is_value" s_is_value 5 ["sort", "thing"] F_is_value := good_is_value T G_is_sort G_is_of_sort
  have G__law_mixed : Good P w K mg base "_law_mixed" "_law_mixed" s__law_mixed 1 ["draw"] F__law_mixed := good__law_mixed T 
  have G__law_take : Good P w K mg base "_law_take" "_law_take" s__law_take 2 ["draw", "amount"] F__law_take := good__law_take T G__law_mixed
  have G__law_pick : Good P w K mg base "_law_pick" "_law_pick" s__law_pick 3 ["draw", "some"] F__law_pick := good__law_pick T G__law_take
  have G__law_is_truth : Good P w K mg base "_law_is_truth" "_law_is_truth" s__law_is_truth 1 ["found", "due"] F__law_is_truth := good__law_is_truth T 
  have G__law_size : Good P w K mg base "_law_size" "_law_size" s__law_size 4 ["draw"] F__law_size := good__law_size T G__law_take G__law_pick
  obtain ⟨fdc, Fc⟩ := T.d__law_caught
  exact law_ok (N' := ["sorts_here", "sort_here", "odd", "bad", "caught", "turn", "number", "slot_here", "life_here", "far", "pointer", "is_a_pointer", "due"]) ("law", none) ("_law_begun", none) F sc_law (begun_law T) (by decide) T.g__law_begun (by decide +kernel) (by decide +kernel) (by decide +kernel) rfl
    (fun A outer s H E hr => b_law T G_is_sort G_is_value G__law_pick G__law_size G__law_take G__law_is_truth Fc TB hr) (fun A outer s H E X e => by rw [e]; rfl) pu
end
end K01
namespace K01
open PySem PySem.Spec PyProof.Rows L2 Fw
def S6 : List D := [.str "int", .str "byte", .tup [.str "to", .str "int"], .tup [.str "to", .str "byte"], .tup [.str "to", .tup [.str "to", .str "int"]], .tup [.str "to", .tup [.str "to", .str "byte"]]]
def odd1 : List D := [.non, .int 5, .str "", .str "ints", .tup [.str "int"], .tup [.str "to"], .tup [.str "to", .non], .lst [.str "to", .str "int"], .tup [.str "to", .str "int", .str "int"], .tup [.str "to", .tup [.str "to", .tup [.str "to", .str "int"]]]]
def odd1b : List D := [.tup [.str "at", .str "int"], .tup [.int 5, .str "int"], .tup [.str "to", .lst [.str "to", .str "int"]], .tup []]
def odd2 : List D := [.non, .bl true, .bl false, .str "0", .lst [.int 0, .int 0, .int 0], .tup [.int 0, .int 0], .tup [.int 0, .int 0, .int 0, .int 0], .tup [.int 1, .int 0, .int 0], .tup [.int 0, .int 0, .int 1], .tup [.int 0, .bl true, .int 0], .tup [.int 0, .int 1, .non], .tup [.int 0, .int 1, .int 17]]
def odd2b : List D := [.tup [.int 32, .int 1, .int 0], .int 2147483648, .int (-2147483649)]
def eqOkB (d : D) : Bool := pd d && decide ((toP d).depth ≤ 64)
theorem eqOk_of {d : D} (h : eqOkB d = true) : eqOk d := by
  have := Bool.and_eq_true_iff.mp h
  exact ⟨this.1, of_decide_eq_true this.2⟩
theorem s6_ok : ∀ d ∈ S6, pd d = true ∧ sortB d = true ∧ eqOk d := by
  have h : (S6.all fun d => eqOkB d && sortB d) = true := by decide +kernel
  intro d hd
  have := Bool.and_eq_true_iff.mp (List.all_eq_true.mp h d hd)
  exact ⟨(eqOk_of this.1).1, this.2, eqOk_of this.1⟩
theorem odd1_ok : ∀ d ∈ odd1 ++ odd1b, pd d = true ∧ sortB d = false ∧ eqOk d := by
  have h : ((odd1 ++ odd1b).all fun d => eqOkB d && !sortB d) = true := by decide +kernel
  intro d hd
  have := Bool.and_eq_true_iff.mp (List.all_eq_true.mp h d hd)
  exact ⟨(eqOk_of this.1).1, by simpa using this.2, eqOk_of this.1⟩
theorem odd2_ok : ∀ s ∈ S6, ∀ d ∈ odd2 ++ odd2b, pd d = true ∧ ofSort s d = false := by
  have h : (S6.all fun s => (odd2 ++ odd2b).all fun d => pd d && !ofSort s d) = true := by decide +kernel
  intro s hs d hd
  have := Bool.and_eq_true_iff.mp (List.all_eq_true.mp (List.all_eq_true.mp h s hs) d hd)
  exact ⟨this.1, by simpa using this.2⟩
theorem fLen_scr {ns : List Int} {z : D} : fLen [.scr ns] z ↔ z = .int (ns.length : Nat) := ⟨fun ⟨x, n, h1, h2, h⟩ => by cases h1; cases h2; exact h, fun h => ⟨_, _, rfl, rfl, h⟩⟩
def mG : EM := (mGet (mDic [.inr "int", .inr "byte"] (mCons (mChain fLe fLe (mSub (mC (.int 0)) (mPow (mC (.int 2)) (mC (.int 31)))) (mVar 8) (mSub (mPow (mC (.int 2)) (mC (.int 31))) (mC (.int 1)))) (mCons (mChain fLe fLe (mC (.int 0)) (mVar 8) (mC (.int 255))) mNil))) (mVar 3) (mC (.bl false)))
def mRest : SM := (sSeq (sIf (mOr (mNot (mTest (mCall 2 F__law_is_truth (mCons (mCall 2 F_is_value (mCons (mVar 3) (mCons (mVar 8) mNil))) (mCons (mVar 14) mNil))))) (mNot (mTest (mCall 2 F__law_is_truth (mCons (mCall 2 F_is_value (mCons (mVar 3) (mCons (mVar 12) mNil))) (mCons (mAndV (mIsi "tuple" (mVar 3)) (mVar 13)) mNil)))))) (sRet (mC (.bl false))) sNx) (sSeq (sIf (mNot (mTest (mCall 2 F__law_is_truth (mCons (mCallK 2 2 @perm_2_10 F_is_value (mCons (mTup (mCons (mC (.int 0)) (mCons (mC (.int 0)) (mCons (mC (.int 0)) mNil)))) (mCons (mVar 3) mNil))) (mCons (mIsi "tuple" (mVar 3)) mNil))))) (sRet (mC (.bl false))) sNx) (sSeq (sSet 4 (mLst (mCons (mC .non) (mCons (mC (.bl true)) (mCons (mC (.bl false)) (mCons (mC (.str "0")) (mCons (mLst (mCons (mC (.int 0)) (mCons (mC (.int 0)) (mCons (mC (.int 0)) mNil)))) (mCons (mTup (mCons (mC (.int 0)) (mCons (mC (.int 0)) mNil))) (mCons (mTup (mCons (mC (.int 0)) (mCons (mC (.int 0)) (mCons (mC (.int 0)) (mCons (mC (.int 0)) mNil))))) (mCons (mTup (mCons (mC (.int 1)) (mCons (mC (.int 0)) (mCons (mC (.int 0)) mNil)))) (mCons (mTup (mCons (mC (.int 0)) (mCons (mC (.int 0)) (mCons (mC (.int 1)) mNil)))) (mCons (mTup (mCons (mC (.int 0)) (mCons (mC (.bl true)) (mCons (mC (.int 0)) mNil)))) (mCons (mTup (mCons (mC (.int 0)) (mCons (mC (.int 1)) (mCons (mC .non) mNil)))) (mCons (mTup (mCons (mC (.int 0)) (mCons (mC (.int 1)) (mCons (mC (.int 17)) mNil)))) mNil)))))))))))))) (sFor (iSq (mOp fAdd (mVar 4) (mLst (mCons (mTup (mCons (mC (.int 32)) (mCons (mC (.int 1)) (mCons (mC (.int 0)) mNil)))) (mCons (mPow (mC (.int 2)) (mC (.int 31))) (mCons (mSub (mSub (mC (.int 0)) (mPow (mC (.int 2)) (mC (.int 31)))) (mC (.int 1))) mNil)))))) (gNm 5) (sIf (mTest (mOp fNotB (mCall 2 F_is_value (mCons (mVar 3) (mCons (mVar 5) mNil))) (mC (.bl false)))) (sRet (mC (.bl false))) sNx)))))
def mInner : SM := sSeq (sSet 14 mG) mRest
def dueB (x y : Bool) (d : D) : Bool := if eqd d (.str "int") = true then x else if eqd d (.str "byte") = true then y else false
theorem get_due (x y : Bool) : ∀ d ∈ S6, getD [.inr "int", .inr "byte"] [.bl x, .bl y] d (.bl false) = some (.bl (dueB x y d)) := by
  intro d hd
  simp only [S6, List.mem_cons, List.not_mem_nil, or_false] at hd
  rcases hd with rfl | rfl | rfl | rfl | rfl | rfl <;> cases x <;> cases y <;> kernel_rfl
theorem mG_does {a0 a1 a2 a4 a5 a6 a7 a9 a10 a11 a12 a13 a14 : Option D} {nm : Int} {d : D} {post : D → Prop} {ex : EX → Prop} (hd : d ∈ S6)
    (hp : post (.bl (dueB (inR (.int nm) (-2147483648) 2147483647) (inR (.int nm) 0 255) d))) : mG [a0, a1, a2, some d, a4, a5, a6, a7, some (.int nm), a9, a10, a11, a12, a13, a14] post ex := by
  unfold mG
  walk_at "fws"
  have cp : CPow 2 31 := ⟨by decide, by decide, by decide⟩
  have e31 : (2 : Int) ^ Int.toNat 31 = 2147483648 := by decide
  simp only [cp, true_and, e31]
  have hx : inR (.int nm) (-2147483648) 2147483647 = (decide (-2147483648 ≤ nm) && decide (nm ≤ 2147483647)) := rfl
  have hy : inR (.int nm) 0 255 = (decide (0 ≤ nm) && decide (nm ≤ 255)) := rfl
  rw [hx, hy] at hp
  have e1 : (0 : Int) - 2147483648 = -2147483648 := by decide
  have e2 : (2147483648 : Int) - 1 = 2147483647 := by decide
  rw [e1, e2]
  have fin : ∀ x y : Bool, x = (decide (-2147483648 ≤ nm) && decide (nm ≤ 2147483647)) → y = (decide (0 ≤ nm) && decide (nm ≤ 255)) → ([D.bl x, D.bl y].length = 2 → ∃ ks ds, D.dic [.inr "int", .inr "byte"] [.bl x, .bl y] = .dic ks ds ∧ ∃ r, getD ks ds d (.bl false) = some r ∧ post r) := by
    rintro x y rfl rfl _
    exact ⟨_, _, rfl, _, get_due _ _ d hd, hp⟩
  by_cases q1 : (-2147483648 : Int) ≤ nm
  · rw [if_pos (decide_eq_true q1)]
    by_cases q2 : (0 : Int) ≤ nm
    · rw [if_pos (decide_eq_true q2)]
      intro _
      exact fin _ _ (by simp [q1]) (by simp [q2]) rfl
    · rw [if_neg (by simpa using q2)]
      intro _
      exact fin _ _ (by simp [q1]) (by simp [q2]) rfl
  · rw [if_neg (by simpa using q1)]
    by_cases q2 : (0 : Int) ≤ nm
    · rw [if_pos (decide_eq_true q2)]
      intro _
      exact fin _ _ (by simp [q1]) (by simp [q2]) rfl
    · rw [if_neg (by simpa using q2)]
      intro _
      exact fin _ _ (by simp [q1]) (by simp [q2]) rfl
theorem s6_tup : ∀ d ∈ S6, (eqd d (.str "int") = true → isTupB d = false) ∧ (eqd d (.str "byte") = true → isTupB d = false) ∧ (eqd d (.str "int") = false → eqd d (.str "byte") = false → isTupB d = true) := by
  have h : (S6.all fun d => (!eqd d (.str "int") || !isTupB d) && ((!eqd d (.str "byte") || !isTupB d) && (eqd d (.str "int") || (eqd d (.str "byte") || isTupB d)))) = true := by decide +kernel
  intro d hd
  have := List.all_eq_true.mp h d hd
  revert this
  cases eqd d (.str "int") <;> cases eqd d (.str "byte") <;> cases isTupB d <;> simp
theorem of_tup {d : D} (hd : d ∈ S6) (l : List D) : ofSort d (.tup l) = (isTupB d && ptrB (.tup l)) := by
  obtain ⟨h1, h2, h3⟩ := s6_tup d hd
  unfold ofSort
  by_cases e1 : eqd d (.str "int") = true
  · rw [if_pos e1, h1 e1]
    rfl
  · rw [if_neg e1]
    by_cases e2 : eqd d (.str "byte") = true
    · rw [if_pos e2, h2 e2]
      rfl
    · rw [if_neg e2, h3 (by simpa using e1) (by simpa using e2)]
      rfl
theorem of_int {d : D} {nm : Int} : ofSort d (.int nm) = dueB (inR (.int nm) (-2147483648) 2147483647) (inR (.int nm) 0 255) d := rfl
theorem mRest_does {F : SE} {ns : List Int} {a4 a5 a6 a7 a9 a10 a11 : Option D} {nm A lf C : Int} {p : Bool} {d : D} (hd : d ∈ S6) (hp : p = ptrB (.tup [.int A, .int lf, .int C]))
    (hk : ∀ b4 b5, F.nx [some (.scr ns), some .drw, some (.lst S6), some d, b4, b5, a6, a7, some (.int nm), a9, a10, a11, some (.tup [.int A, .int lf, .int C]), some (.bl p), some (.bl (ofSort d (.int nm)))]) :
    mRest [some (.scr ns), some .drw, some (.lst S6), some d, a4, a5, a6, a7, some (.int nm), a9, a10, a11, some (.tup [.int A, .int lf, .int C]), some (.bl p), some (.bl (ofSort d (.int nm)))] F := by
  obtain ⟨h1, h2, h3⟩ := s6_ok d hd
  have cp : CPow 2 31 := ⟨by decide, by decide, by decide⟩
  have e31 : (2 : Int) ^ Int.toNat 31 = 2147483648 := by decide
  have pn : pd (.int nm) = true := rfl
  have pp : pd (.tup [.int A, .int lf, .int C]) = true := rfl
  have p0 : pd (.tup [.int 0, .int 0, .int 0]) = true := rfl
  have ne := pd_ne h1
  have z0 : ptrB (.tup [.int 0, .int 0, .int 0]) = true := by decide
  unfold mRest F__law_is_truth F_is_value perm_2_10
  walk_at "fws"
  simp only [h1, h2, h3, pn, pp, p0, ne, kit_tuple ne, true_and, if_true, decide_true, Bool.not_true, Bool.false_eq_true, if_false, Option.some.injEq, exists_eq_left', of_tup hd, ← hp, cp, e31, z0, Bool.and_true]
  have tail : forGo (gNm 5) (sIf (mTest (mOp fNotB (mCall 2 F_is_value (mCons (mVar 3) (mCons (mVar 5) mNil))) (mC (.bl false)))) (sRet (mC (.bl false))) sNx) F (odd2 ++ odd2b)
      [some (.scr ns), some .drw, some (.lst S6), some d, some (.lst odd2), a5, a6, a7, some (.int nm), a9, a10, a11, some (.tup [.int A, .int lf, .int C]), some (.bl p), some (.bl (ofSort d (.int nm)))] := by
    refine forGo_inv (I := fun δ => ∃ b5, δ = [some (.scr ns), some .drw, some (.lst S6), some d, some (.lst odd2), b5, a6, a7, some (.int nm), a9, a10, a11, some (.tup [.int A, .int lf, .int C]), some (.bl p), some (.bl (ofSort d (.int nm)))]) _ _ ⟨_, rfl⟩ ?_ ?_
    · rintro b δ k hb ⟨b5, rfl⟩ hk2
      obtain ⟨o1, o2⟩ := odd2_ok d hd b hb
      unfold F_is_value
      walk_at "fws"
      simp only [h2, h3, o1, o2, true_and, if_true, decide_true, Bool.not_true, Bool.false_eq_true, if_false]
      exact hk2 _ ⟨_, rfl⟩
    · rintro δ ⟨b5, rfl⟩
      exact hk _ _
  have e : (0 : Int) - 2147483648 - 1 = -2147483649 := by decide
  rw [e]
  have yes : ∀ p : Bool, ¬ (!decide ((true && p) = p)) = true := by decide
  have no : ∀ p : Bool, ¬ (!decide ((false && p) = false)) = true := by decide
  cases ht : isTupB d with
  | true =>
    rw [if_pos rfl, if_neg (yes p)]
    exact tail
  | false =>
    rw [if_neg Bool.false_ne_true, if_neg (no p)]
    exact tail
theorem inner {F : SE} {ns : List Int} {a3 a4 a5 a6 a7 a14 : Option D} {nm A lf C : Int} {p : Bool} (hp : p = ptrB (.tup [.int A, .int lf, .int C]))
    (hk : ∀ b3 b4 b5 b14, F.nx [some (.scr ns), some .drw, some (.lst S6), b3, b4, b5, a6, a7, some (.int nm), some (.int A), some (.int lf), some (.int C), some (.tup [.int A, .int lf, .int C]), some (.bl p), b14]) :
    forGo (gNm 3) mInner F S6 [some (.scr ns), some .drw, some (.lst S6), a3, a4, a5, a6, a7, some (.int nm), some (.int A), some (.int lf), some (.int C), some (.tup [.int A, .int lf, .int C]), some (.bl p), a14] := by
  refine forGo_inv (I := fun δ => ∃ b3 b4 b5 b14, δ = [some (.scr ns), some .drw, some (.lst S6), b3, b4, b5, a6, a7, some (.int nm), some (.int A), some (.int lf), some (.int C), some (.tup [.int A, .int lf, .int C]), some (.bl p), b14]) S6 _ ⟨_, _, _, _, rfl⟩ ?_ ?_
  · rintro d δ k hd ⟨b3, b4, b5, b14, rfl⟩ hk2
    show mG _ (fun x => mRest _ _) _
    exact mG_does hd (mRest_does hd hp fun b4 b5 => hk2 _ ⟨_, _, _, _, rfl⟩)
  · rintro δ ⟨b3, b4, b5, b14, rfl⟩
    exact hk _ _ _ _
theorem pu_law (ns : List Int) (hl : ns.length ≤ 16777216) : m_law (some (.scr ns) :: some .drw :: List.replicate 13 none) { nx := fun _ => False, rt := fun d => d = .bl true } := by
  unfold m_law
  walk_at "fws"
  refine forGo_inv (I := fun δ => ∃ a, δ = [some (.scr ns), some .drw, some (.lst S6), a, none, none, none, none, none, none, none, none, none, none, none]) S6 _ ⟨none, rfl⟩ ?_ ?_
  · rintro d δ k hd ⟨a, rfl⟩ hk
    obtain ⟨h1, h2, h3⟩ := s6_ok d hd
    unfold F_is_sort perm_1_0
    walk_at "fws"
    simp only [h1, h2, true_and, decide_true, Bool.not_true, Bool.false_eq_true, if_false]
    exact hk _ ⟨_, rfl⟩
  · rintro δ ⟨a, rfl⟩
    walk_at "fws"
    refine forGo_inv (I := fun δ => ∃ b c, δ = [some (.scr ns), some .drw, some (.lst S6), a, some (.lst odd1), b, c, none, none, none, none, none, none, none, none]) (odd1 ++ odd1b) _ ⟨none, none, rfl⟩ ?_ ?_
    · rintro d δ k hd ⟨b, c, rfl⟩ hk
      obtain ⟨h1, h2, h3⟩ := odd1_ok d hd
      unfold F_is_sort F_is_value mCaught
      walk_at "fws"
      simp only [h1, h2, true_and, decide_true, Bool.not_true, Bool.false_eq_true, if_false]
      refine ⟨h3, ?_⟩
      unfold mIsC mExF
      walk_at "fws"
      refine ⟨by decide, .inr ⟨_, _, rfl, by decide, ?_⟩⟩
      have hs : sub "BadNumber" "BadNumber" = true := by decide +kernel
      simp only [hs, Bool.not_true, Bool.false_eq_true, if_false]
      refine ⟨_, _, rfl, by decide, _, rfl, _, ⟨eqOk_of (by decide +kernel), eqOk_of (by decide +kernel), rfl⟩, _, rfl, ?_⟩
      have he : eqd (.str "sort") (.str "sort") = true := by decide +kernel
      rw [he]
      exact hk _ ⟨_, _, rfl⟩
    · rintro δ ⟨b, c, rfl⟩
      walk_at "fws"
      simp only [fLen_scr]
      walk_at "fws"
      refine ⟨?_, ?_, ?_⟩
      · split <;> omega
      · split <;> omega
      refine forGo_inv (I := fun δ => ∃ a3 a4 a5 a6 a7 a8 a9 a10 a11 a12 a13 a14, δ = [some (.scr ns), some .drw, some (.lst S6), a3, a4, a5, a6, a7, a8, a9, a10, a11, a12, a13, a14]) _ _ ⟨_, _, _, _, _, _, _, _, _, _, _, _, rfl⟩ ?_ ?_
      · rintro d δ k hd ⟨a3, a4, a5, a6, a7, a8, a9, a10, a11, a12, a13, a14, rfl⟩ hk
        unfold F__law_pick F__law_size F__law_take
        walk_at "fws"
        have cp : ∀ j : Int, 0 ≤ j → j ≤ 1000000 → CPow 2 j := fun j h0 h1 => ⟨h0, h1, by decide⟩
        refine fun j => ⟨by decide, by decide, fun j1 _ _ => ⟨cp _ (by decide) (by decide), by decide, by decide, fun j2 _ _ => ⟨cp _ (by decide) (by decide), _, .inl rfl, by show 0 < 3; decide, by show 3 ≤ 16777216; decide, fun x hx => ?_⟩⟩⟩
        obtain ⟨nm, rfl⟩ : ∃ nm : Int, x = .int nm := by
          simp only [List.mem_cons, List.not_mem_nil, or_false] at hx
          rcases hx with rfl | rfl | rfl <;> exact ⟨_, rfl⟩
        refine ⟨by decide, by decide, fun sl _ _ => ⟨cp _ (by decide) (by decide), cp _ (by decide) (by decide), _, .inl rfl, by show 0 < 6; decide, by show 6 ≤ 16777216; decide, fun y hy => ?_⟩⟩
        obtain ⟨lf, rfl⟩ : ∃ lf : Int, y = .int lf := by
          simp only [List.mem_cons, List.not_mem_nil, or_false] at hy
          rcases hy with rfl | rfl | rfl | rfl | rfl | rfl <;> exact ⟨_, rfl⟩
        refine ⟨by decide, by decide, fun fr _ _ => ?_⟩
        generalize sl - 4 = A
        generalize fr - 2 = C
        refine ⟨_, ptr_three (post := fun _ => True) trivial, _, rfl, ?_⟩
        have fin : ∀ p : Bool, p = ptrB (.tup [.int A, .int lf, .int C]) → ∀ F : SE, F.nx = k → forGo (gNm 3) mInner F S6 [some (.scr ns), some .drw, some (.lst S6), a3, a4, a5, a6, some d, some (.int nm), some (.int A), some (.int lf), some (.int C), some (.tup [.int A, .int lf, .int C]), some (.bl p), a14] :=
          fun p hp F hF => inner hp fun b3 b4 b5 b14 => by rw [hF]; exact hk _ ⟨_, _, _, _, _, _, _, _, _, _, _, _, rfl⟩
        walk_at "fws"
        have hpB : ptrB (.tup [.int A, .int lf, .int C]) = ((decide (A = 0) && (decide (lf = 0) && decide (C = 0))) || ((decide (0 ≤ A) && decide (A ≤ 31)) && ((decide (1 ≤ lf) && decide (lf ≤ 1073741824)) && (decide (0 ≤ C) && decide (C ≤ 16))))) := rfl
        have e30 : (2 : Int) ^ Int.toNat 30 = 1073741824 := by decide
        have cp30 : CPow 2 30 := cp _ (by decide) (by decide)
        rw [hpB] at fin
        simp only [e30, cp30, true_and]
        revert fin
        cases (decide (A = 0) && (decide (lf = 0) && decide (C = 0))) <;> cases decide (0 ≤ A) <;> cases decide (A ≤ 31) <;> cases decide (1 ≤ lf) <;> cases decide (lf ≤ 1073741824) <;> cases decide (0 ≤ C) <;> cases decide (C ≤ 16) <;> intro fin <;> exact fin _ rfl _ rfl
      · rintro δ ⟨a3, a4, a5, a6, a7, a8, a9, a10, a11, a12, a13, a14, rfl⟩
        walk_at "fws"
end K01
namespace K01
open PySem PySem.Spec PyProof.Rows L2 Fw
theorem at_law {w : World} {K : PySem.W.Frag} {h : Heap} {mg : Str → Option Value} {f : Addr} (X : K.In h) (G : h.Ns mainGlobals mg) (hfa : mg ("law" : Str) = some (.ref f)) (c : Fw.SaysY fa fn tf ex h K) :
    LamX.LawAtS PySem.Challenge.rw_firstwrong_k01_sorts_and_values w K (L2.CX (PySem.Challenge.rw_firstwrong_k01_sorts_and_values).prog w) (7 + 1) 63 "script" mg f h := by
  have T : Ty K mg := ty_of X G c
  have e := hfa.symm.trans T.g_law
  have e : f = He.fAd K ("law", none) := by
    have := Option.some.inj e
    cases this
    rfl
  subst e
  obtain ⟨fd0, F0⟩ := T.d_law
  have b := FunD.bindsA (ps := ["script"]) F0 fun _ _ _ _ _ _ us hl => match us, hl with | [_], _ => rfl
  refine ⟨fd0, [He.cT K ("law", none)], spLaw K, ?_, ?_, ?_, fun s v => b s [v] rfl, ?_, ?_⟩
  · intro p hp
    rw [List.mem_singleton.mp hp]
    exact c.empty _ (List.mem_singleton.mpr rfl)
  · intro p hp
    rw [List.mem_singleton.mp hp]
    exact c.out _ (List.mem_singleton.mpr rfl)
  · intro p hp
    rw [List.mem_singleton.mp hp]
    exact PySem.W.codeHd_of_K X (c.hd _ (List.mem_singleton.mpr rfl))
  · intro H a ns hl _ hT hS
    refine ⟨a, ns, rfl, hS, by omega, ?_, fun _ => rfl⟩
    intro p hp
    rw [List.mem_singleton.mp hp]
    exact LamX.TabS.nil (hT _ (List.mem_singleton.mpr rfl))
  · intro base _ _ TB
    exact law_fd (P := (PySem.Challenge.rw_firstwrong_k01_sorts_and_values).prog) (w := w) (base := base) F0 T (TB _ (List.mem_singleton.mpr rfl)) fun ns hl => pu_law ns hl
end K01
open PySem PySem.W PySem.Calls PyProof.Rows
set_option maxRecDepth 100000 in
set_option maxHeartbeats 0 in
theorem PySem.Challenge.cw_firstwrong_k01_sorts_and_values_holds : PySem.Challenge.rw_firstwrong_k01_sorts_and_values.Holds := by
  w_on; o_law
  refine HandSHeadRun.head_any (r := OpenLaw.row PySem.Challenge.rw_firstwrong_k01_sorts_and_values) (q := view (OpenLaw.row PySem.Challenge.rw_firstwrong_k01_sorts_and_values).prog [K01.lawAt]) (H := K01.hk) (ob := K01.ob) (M := 8000) (loose := K01.loose) (d := HandSHeadRun.topDef (OpenLaw.row PySem.Challenge.rw_firstwrong_k01_sorts_and_values).prog K01.lawAt) (kwd := []) K01.ob_eq
    (by kernel_rfl) (fun s => by kernel_rfl) K01.run (by kernel_rfl) (by kernel_rfl) (by kernel_rfl) (by rfl) (by first | assumption | decide +kernel) (by decide +kernel) ⟨rfl, rfl, rfl, rfl, rfl, by decide +kernel⟩ ?hw ?hc
  case hw => w_witness2
  case hc =>
    refine LamX.walk_ofTsE (l := PySem.Challenge.rw_firstwrong_k01_sorts_and_values) (n := 63) (k := 7 + 1) (x := "script") (CX := fun w => L2.CX (PySem.Challenge.rw_firstwrong_k01_sorts_and_values).prog w) rfl (by decide) (by kernel_rfl) ⟨rfl, by decide, by decide⟩ ?F ?cx
    case F =>
      intro w mg fa h Y G hmg0
      obtain ⟨K, KX, c⟩ := Y
      have hmg : mg ("law" : PySem.Str) = some (.ref fa) := by
        have e : (HandSHeadRun.topDef (OpenLaw.row PySem.Challenge.rw_firstwrong_k01_sorts_and_values).prog K01.lawAt).name = ("law" : PySem.Str) := by kernel_rfl
        rw [← e]
        exact hmg0
      exact ⟨K, KX, K01.at_law KX G hmg c⟩
    case cx =>
      intro w H s e s' h
      obtain ⟨a, B, H', cls, d, _, _, _, _, _, _, _, h⟩ := h
      exact h.elim
