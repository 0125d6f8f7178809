import PyProof.Rows.All
import Wide.All
import OpenK.AllK
import Wide.FinOn
import KE.KStateDown
import HandS.ForMost
import HandS.ForExc
import HandS.Defaults
import HandS.Lambda
import HandS.EndTab
import HandS.HeadWalk
import HandS.Head0
import HandS.Head1
import HandS.Head2
import HandS.HeadEnd
import HandS.HeadHook1
import HandS.HeadHook2
import HandS.HeadHook3
import HandS.HeadHook4
import HandS.ExcInit
import HandS.ExcIs
import HandS.ExcField
import HandS.ExcValue
import HandS.IsInst
import HandS.Wide
import HandS.Evl
import HandS.ClsMeth
import HandS.RaiseMore
import HandS.Flow
import HandS.TupAny
import HandS.Style
import HandS.Dict
import KE.KeyNested
import PyProof.ReprRoads
import PyProof.ReprText
import PyProof.ReprLen
import HandS.Iter
import KE.KLam
import HandS.SortRule
import HandS.TupMul
import PySem.Challenge.RW_firstwrong_k02_rows_of_bytes
set_option Elab.async false
set_option linter.all false
set_option maxRecDepth 100000
set_option maxHeartbeats 0
/-! # FwExc: own errors below an own error: told by facts, made, caught, kept as a value -/
namespace Fw
open PySem PySem.Spec PyProof.Rows L2

/-! ## what the written part says of an error's class -/
def oexClsB (K : PySem.W.Frag) (C : Addr) : Bool := match K.lookup C with
  | some ⟨.type "type", _, .cls cd, sl⟩ => (match cd.mro, sl.toList with
    | .ref C' :: bm, [_, _, _, _, some (.builtin n), _] =>
      C' == C && (n == "ValueError.__new__" && (!cd.hasDel && (cd.hasDict && PySem.HandSPX.refsVE bm)))
    | _, _ => false)
  | _ => false
theorem oexCls_ok {K : PySem.W.Frag} {C : Addr} (q : oexClsB K C = true) :
    ∃ nm q N bs bm sn sub ab col dd k0 k1 k2 k3 k5,
      K.lookup C = some (excClassObj nm q C N bs bm true sn sub ab col dd k0 k1 k2 k3 k5 "ValueError.__new__") ∧
        PySem.HandSPX.refsVE bm = true := by
  unfold oexClsB at q
  split at q
  case h_2 => cases q
  case h_1 dd cd sl ho =>
    split at q
    case h_2 => cases q
    case h_1 C' bm k0 k1 k2 k3 n k5 hm hs =>
      obtain ⟨nm, bs, mro, ns, qn, hd, sn, sub, ab, col, del⟩ := cd
      dsimp only at hm q
      simp only [Bool.and_eq_true, beq_iff_eq, Bool.not_eq_true'] at q
      obtain ⟨rfl, rfl, rfl, rfl, hv⟩ := q
      subst hm
      obtain ⟨l⟩ := sl
      dsimp only at hs
      subst hs
      exact ⟨nm, qn, ns, bs, bm, sn, sub, ab, col, dd, k0, k1, k2, k3, k5, ho, hv⟩

/-- all that is asked of an error's class at C -/
structure XC (K : PySem.W.Frag) (C : Addr) : Prop where
  ox : OexC K C
  xf : XfC K C
  is : ExcC K C
def xcB (K : PySem.W.Frag) (C : Addr) : Bool :=
  oexClsB K C && (xfB K C &&
  (decide (PySem.W.findIn K (.ref C) "__setattr__" = some (some (.builtin "object.__setattr__"))) &&
  (decide (PySem.W.typeIn K (.ref C) = some (.type "type")) && (PySem.W.keepIn K (.ref C) &&
  (decide (PySem.W.findIn K (.ref C) "__class__" = some (some (.builtin "object.__class__"))) &&
  (decide (PySem.W.specialIn K (.builtin "object.__class__") "__get__" = some (some (.builtin "getset_descriptor.__get__"))) &&
  (decide (PySem.W.takesIn K (.builtin "object.__class__") = some true) &&
  decide (PySem.W.mroIn K C (.type "object") = some true))))))))
theorem xc_ok {K : PySem.W.Frag} {C : Addr} (h : xcB K C = true) : XC K C := by
  unfold xcB at h
  simp only [Bool.and_eq_true, decide_eq_true_eq] at h
  obtain ⟨h1, h2, h3, h4, h5, h6, h7, h8, h9⟩ := h
  have f := xfB_ok h2
  exact ⟨⟨oexCls_ok h1, h3, f.exC, h4, h5⟩, f, ⟨f.ga, f.gg, f.exC, f.hdC, h6, h7, h8, h9⟩⟩

/-- the class at C has its own __init__ at f -/
def xiB (K : PySem.W.Frag) (C f : Addr) : Bool :=
  decide (PySem.W.findIn K (.ref C) "__init__" = some (some (.ref f))) && decide (PySem.W.typeIn K (.ref f) = some (.type "function"))
theorem xi_ok {K : PySem.W.Frag} {C f : Addr} (h : xiB K C f = true) :
    PySem.W.findIn K (.ref C) "__init__" = some (some (.ref f)) ∧ PySem.W.typeIn K (.ref f) = some (.type "function") := by
  unfold xiB at h
  simpa only [Bool.and_eq_true, decide_eq_true_eq] using h

/-- the class at C is read as an object: what its __init__ is (a built-in one) -/
structure XB (K : PySem.W.Frag) (C : Addr) : Prop where
  rd : PySem.W.readsIn K C (.type "type") = true
  sp : PySem.W.specialIn K (.ref C) "__getattribute__" = some (some (.builtin "type.__getattribute__"))
  fi : PySem.W.findCls K (.ref C) (.type "type") "__init__" = some (.val (.builtin "ValueError.__init__"))
def isVal (o : Option PySem.W.CFound) (v : Value) : Bool := match o with
  | some (.val u) => u == v
  | _ => false
theorem isVal_ok {o : Option PySem.W.CFound} {v : Value} (h : isVal o v = true) : o = some (.val v) := by
  unfold isVal at h
  split at h
  · rw [beq_iff_eq] at h
    rw [h]
  · cases h
def xbB (K : PySem.W.Frag) (C : Addr) : Bool := PySem.W.readsIn K C (.type "type") &&
  (decide (PySem.W.specialIn K (.ref C) "__getattribute__" = some (some (.builtin "type.__getattribute__"))) &&
  isVal (PySem.W.findCls K (.ref C) (.type "type") "__init__") (.builtin "ValueError.__init__"))
theorem xb_ok {K : PySem.W.Frag} {C : Addr} (h : xbB K C = true) : XB K C := by
  unfold xbB at h
  simp only [Bool.and_eq_true, decide_eq_true_eq] at h
  exact ⟨h.1, h.2.1, isVal_ok h.2.2⟩
end Fw
/-! # FwHook: the head's facts, read off what the module's names and the statics reach -/
namespace Fw
open PySem PySem.Spec PyProof.Rows L2
def asY (g : Addr → Option Obj) : Nat → List Addr
  | 0 => [mainGlobals, PySem.cStatics]
  | n + 1 => He.growD g (asY g n)
def fragY (n : Nat) (g : Addr → Option Obj) : PySem.W.Frag := He.frT g (PySem.sysModules :: asY g n)
abbrev AlY : Type := He.AlD × Bool
def obsY (n : Nat) (fa : List He.Fa) (fn : List He.DefD) (tf : List He.Defn) (ex : PySem.W.Frag → Bool) (g : Addr → Option Obj) : AlY :=
  (He.obsD fa fn (fragY n g), ex (fragY n g) && He.tabsB g tf (fragY n g))
/-- what is told of a fragment K of the heap h -/
structure SaysY (fa : List He.Fa) (fn : List He.DefD) (tf : List He.Defn) (ex : PySem.W.Frag → Bool) (h : Heap) (K : PySem.W.Frag) : Prop where
  d : He.SaysD fa fn K
  more : ex K = true
  hd : ∀ p ∈ tf, PySem.W.codeHdIn K (He.cT K p).1 (He.cT K p).2 = true
  out : ∀ p ∈ tf, K.lookup (He.cT K p).2 = none
  empty : ∀ p ∈ tf, h.get? (He.cT K p).2 = some { cls := .none, data := .fields #[] }
theorem saysY_of {n : Nat} {fa : List He.Fa} {fn : List He.DefD} {tf : List He.Defn} {ex : PySem.W.Frag → Bool} {h : Heap}
    (e : obsY n fa fn tf ex h.get? = (He.valD fn, true)) : SaysY fa fn tf ex h (fragY n h.get?) := by
  have e1 : He.obsD fa fn (fragY n h.get?) = He.valD fn := (Prod.mk.inj e).1
  have e2 : (ex (fragY n h.get?) && He.tabsB h.get? tf (fragY n h.get?)) = true := (Prod.mk.inj e).2
  have ⟨m, tb⟩ := Bool.and_eq_true_iff.mp e2
  have each (p) (hp : p ∈ tf) := Bool.and_eq_true_iff.mp (List.all_eq_true.mp tb p hp)
  have look (p) (hp : p ∈ tf) : ∃ o, h.get? (He.cT (fragY n h.get?) p).2 = some o ∧ He.emptyTab o = true := by
    have z := (each p hp).2
    split at z
    · exact ⟨_, by assumption, z⟩
    · cases z
  refine ⟨e1, m, fun p hp => (each p hp).1, fun p hp => ?_, fun p hp => ?_⟩
  · obtain ⟨o, q, z⟩ := look p hp
    exact He.frT_none q z
  · obtain ⟨o, q, z⟩ := look p hp
    rw [q, He.emptyTab_eq z]
def hookY (n : Nat) (fa : List He.Fa) (fn : List He.DefD) (tf : List He.Defn) (ex : PySem.W.Frag → Bool) : PySem.W.Hook where
  α := AlY
  obs := fun s => obsY n fa fn tf ex s.heap.get?
  val := fun _ => (He.valD fn, true)
  says := fun _ h => ∃ K : PySem.W.Frag, K.In h ∧ SaysY fa fn tf ex h K
  of := fun _ _ e => ⟨_, He.frT_in, saysY_of e⟩
  keeps := fun _ _ _ ⟨K, hK, c⟩ k => ⟨K, hK.keeps k, ⟨c.d, c.more, c.hd, c.out, fun p hp => k _ _ (c.empty p hp)⟩⟩
theorem obsY_eq {n : Nat} {fa : List He.Fa} {fn : List He.DefD} {tf : List He.Defn} {ex : PySem.W.Frag → Bool} {g : Addr → Option Obj} {s : Shared}
    (h : ∀ a, g a = s.heap.get? a) : obsY n fa fn tf ex g = (hookY n fa fn tf ex).obs s := by
  rw [show g = s.heap.get? from funext h]
  rfl
end Fw
/-! # FwRules: rules of my own over the hand layer -/
namespace Fw
open PySem PySem.Spec PyProof.Rows L2

/-! ## a def called by keywords alone -/
section
variable {X : Cx} {CX : CXT} {k : Nat} {f : Addr} {fd : FuncData} {ps ks : List Str} {sp : Sp} {E : XK} {x : Str} {p pos : Pos}
  {kws : List Keyword} {tk : TA} {g : List Value → List Value → List Value} {gV : List V → List V → List V}
theorem pe_callN0 (F : FnOk X.prog X.w X.K X.mg X.base CX k f fd ps sp) (hr : Room k X.A) (hg : Gl X x)
    (hm : X.mg x = some (.ref f)) (hk : PySem.W.keepIn X.K (.ref f) = true) (hb : KBn X.K fd ps 0 ks g gV)
    (hx : Passes CX X E) (hkw : PK X kws tk)
    (hall : (backToKw pos (keywordEach kws X.env)).all (·.1.isSome) = true := by rfl)
    (hks : (backToKw pos (keywordEach kws X.env)).filterMap (·.1) = ks := by rfl)
    (hdb : (x == ("__debug__" : Str)) = false := by decide)
    (hpl : ((backTo pos (starEach [] X.env)).any (·.1) || (backToKw pos (keywordEach kws X.env)).any (·.1.isNone)) = false := by rfl) :
    PE X (.Call (.Name x p) [] kws pos) (tCallN 0 ks.length sp gV E tNil tk) := by
  constructor
  intro pins s σ H Q I h
  refine wpAny_Call_Name_kw (ld_glob I hg hm ?_ hdb)
  refine PySem.W.callWith_KW0 (h₀ := X.base) I.ok.mod.kin hk hall ?_ hpl
  refine thn (hkw.run pos pins s σ H _ I h) ?_
  rintro ws s2 ⟨zs, H2, I2, rz, q1, q2, q3⟩
  refine ⟨I2.kIn, ?_⟩
  rw [hks]
  exact run_fnN (us := []) (vs := []) F hr hb hx I2 .nil rz q1 q2 q3
end

/-! ## Base.__init__(self, ..), Base an own class -/
section
variable {X : Cx} {e : Expr} {es : List Expr} {ta : TA} {x : Str} {C0 : Addr} {p1 p2 pos : Pos}
theorem pe_winit {pl : Sem Bool} (hg : Gl X x) (hm : X.mg x = some (.ref C0)) (B : XB X.K C0) (ha : PA X (e :: es) ta)
    (hdb : (x == ("__debug__" : Str)) = false := by decide)
    (hc : eval (.Call (.Attribute (.Name x p1) "__init__" p2) (e :: es) [] pos) X.env = (do
      let ov ← eval (.Name x p1) X.env
      standAt p2.atName
      let (f, first) ← holding [ov] (getMethod ov "__init__" pl)
      callWith pos f first (backTo pos (starEach (e :: es) X.env)) (backToKw pos (keywordEach [] X.env))) := by rfl)
    (he : starEach (e :: es) X.env = (false, eval e X.env) :: starEach es X.env := by rfl)
    (hpl : (backTo pos (starEach es X.env)).any (·.1) = false := by rfl) :
    PE X (.Call (.Attribute (.Name x p1) "__init__" p2) (e :: es) [] pos) (tVeI X.K ta) := by
  constructor
  intro pins s σ H Q I h
  refine PySem.W.methodCall_KW (ld_glob I hg hm ?_ hdb) hc
  refine PySem.W.method_cls I.kIn B.sp (PySem.W.cls_value I.kIn B.rd B.fi rfl ?_)
  show wpAny _ _ (callWith pos (Value.builtin "ValueError.__init__") [] (backTo pos (starEach (e :: es) X.env)) []) _ _ _
  refine PyProof.Rows.callWith_method1 (thn (ha.run pos pins _ σ H _ (I.tok _) h) ?_) he hpl
  rintro us s1 ⟨vs, H1, I1, r1, a, C, ws, rfl, hl, T, ea, q⟩
  cases r1
  case cons u0 ur ra rw' =>
    cases ra
    refine oinit_ok T I1 ea ?_ fun s' J => ⟨.non, H1, J, rfl, q⟩
    have := Paired.length rw'
    rw [sizeLine_eq]
    omega
end

/-! ## an error with one attribute: its __init__, and its raising -/
def spXi (C : Addr) (f : Str) : Sp := fun vs H Q _ => ∃ a v, vs = [.ref a, v] ∧ H a = some (exo a C none) ∧
  ∀ dx, H dx = none → dx ≠ a → Q .non (upd (upd H dx (exd dx [(f, v)])) a (exo a C (some dx)))
def tRz1 (C : Addr) (f : Str) (W : WX) (ta : TA) : TS := fun _ σ H => ta σ H fun vs H1 => ∃ v, vs = [v] ∧
  ∀ dx, H1 dx = none → W (.ref C) (some dx) σ (upd H1 dx (.xd [(f, v)]))
theorem heap_rz {H1 : Hp} {a dx : Addr} {C : Addr} {f : Str} {v : V} {o : HO} (ha : H1 a = none) (hne : dx ≠ a) :
    upd (del (upd (upd (upd H1 a o) dx (exd dx [(f, v)])) a (exo a C (some dx))) a) dx (.xd [(f, v)]) = upd H1 dx (.xd [(f, v)]) := by
  funext b
  by_cases h1 : b = dx
  · subst h1
    rw [upd_same, upd_same]
  · rw [upd_ne h1, upd_ne h1]
    by_cases h2 : b = a
    · subst h2
      rw [del_same, ha]
    · rw [del_ne h2, upd_ne h2, upd_ne h1, upd_ne h2]
theorem pa_up {X : Cx} {es : List Expr} {ta : TA} (ha : PA X es ta) :
    PA X es (fun σ H Q => ∃ Q1, ta σ H Q1 ∧ ∀ vs H1, Q1 vs H1 → Q vs H1) := by
  constructor
  rintro pos pins s σ H Q I ⟨Q1, h, up⟩
  refine wpAny_mono (ha.run pos pins s σ H Q1 I h) ?_ fun _ _ z => z
  rintro us s1 ⟨vs, H1, I1, r, q⟩
  exact ⟨vs, H1, I1, r, up vs H1 q⟩
section
variable {X : Cx} {CX : CXT} {x f : Str} {C fI : Addr} {k : Nat} {fd : FuncData} {ps : List Str} {e : Expr} {ta : TA} {W : WX} {p pos pos2 : Pos}
theorem pmk_rz1 (T : XC X.K C) (iC : PySem.W.findIn X.K (.ref C) "__init__" = some (some (.ref fI)))
    (tI : PySem.W.typeIn X.K (.ref fI) = some (.type "function"))
    (F1 : FnOk X.prog X.w X.K X.mg X.base CX k fI fd ps (spXi C f)) (hr : Room (k + 1) X.A) (hb : Binds X.K fd ps [])
    (hx : Passes CX X (fun _ _ _ => False)) (hg : Gl X x) (hm : X.mg x = some (.ref C)) (ha : PA X [e] ta)
    (hdb : (x == ("__debug__" : Str)) = false := by decide)
    (he : starEach [e] X.env = (false, eval e X.env) :: starEach [] X.env := by rfl)
    (hpl : (backTo pos (starEach [] X.env)).any (·.1) = false := by rfl) :
    PMk X (.Call (.Name x p) [e] [] pos) (fun σ H Q => ta σ H fun vs H1 => ∃ v, vs = [v] ∧ ∀ dx, H1 dx = none → Q (.ref C) (some dx) (upd H1 dx (.xd [(f, v)]))) := by
  intro pins s σ H Q I h
  refine pmk_oex (dvs := []) T.ox iC tI F1 hr hb .nil hx hg hm (pa_up ha) hdb he hpl pins s σ H Q I ?_
  refine ⟨_, h, ?_⟩
  rintro vs H1 ⟨v, rfl, q⟩
  refine ⟨(by show 1 ≤ 1000; decide), fun a ha0 => ⟨a, v, rfl, upd_same, fun dx hd hne => ⟨rfl, dx, [(f, v)], upd_same, ?_, ?_, ?_⟩⟩⟩
  · rw [upd_ne hne, upd_same]
  · rw [upd_ne hne] at hd
    exact hd
  · rw [upd_ne hne] at hd
    rw [heap_rz ha0 hne]
    exact q dx hd
theorem ps_rz1 (hc : X.calm = true) (tk : Takes X W) (T : XC X.K C) (iC : PySem.W.findIn X.K (.ref C) "__init__" = some (some (.ref fI)))
    (tI : PySem.W.typeIn X.K (.ref fI) = some (.type "function"))
    (F1 : FnOk X.prog X.w X.K X.mg X.base CX k fI fd ps (spXi C f)) (hr : Room (k + 1) X.A) (hb : Binds X.K fd ps [])
    (hx : Passes CX X (fun _ _ _ => False)) (hg : Gl X x) (hm : X.mg x = some (.ref C)) (ha : PA X [e] ta)
    (hdb : (x == ("__debug__" : Str)) = false := by decide)
    (he : starEach [e] X.env = (false, eval e X.env) :: starEach [] X.env := by rfl)
    (hpl : (backTo pos (starEach [] X.env)).any (·.1) = false := by rfl) :
    PS X (.Raise (some (.Call (.Name x p) [e] [] pos)) none pos2) (tRz1 C f W ta) :=
  ps_raise hc tk (pmk_rz1 T iC tI F1 hr hb hx hg hm ha hdb he hpl)
end

/-! ## an error that was caught stays as a value -/
/-- at a: an error of the class cls, its dict at d -/
def ExV (cls : Value) (d : Option Addr) (a : Addr) : HO := .ext fun h => ∃ oe vs, h.get? a = some oe ∧ Zc cls d oe ∧ oe.data = .fields vs
theorem exV_ok {P : Program} {w : World} {H : Hp} {h : Heap} {a : Addr} {cls : Value} {d : Option Addr} {oe : Obj} {vs : Array Value}
    (e : h.get? a = some oe) (z : Zc cls d oe) (hd : oe.data = .fields vs) : ObjOk P w H h a (ExV cls d a) := by
  refine ⟨⟨oe, vs, e, z, hd⟩, ⟨oe, e⟩, ?_⟩
  rintro h1 h2 ⟨o, v, q, r⟩ k
  exact ⟨o, v, k o q, r⟩
section
variable {X : Cx} {pins : List (Addr × Obj)} {σ : L2.St} {H : Hp} {s : Shared}
/-- an object of ours that nobody tracks is tracked from now on -/
theorem track {a : Addr} {o : HO} {oe : Obj} {vs : Array Value} (I : Inv X pins σ H s) (ha : s.heap.get? a = some oe)
    (hd : oe.data = .fields vs) (n : H a = none) (n0 : X.s_0.heap.get? a = none) (nL : a ≠ X.env.locals)
    (np : ∀ p ∈ X.pn ++ pins, p.1 ≠ a) (ok : ObjOk X.prog X.w (upd H a o) s.heap a o) : Inv X pins σ (upd H a o) s := by
  have other {b : Addr} {u : HO} (e : H b = some u) : b ≠ a := ne_of_none e n
  have old {b : Addr} {u : Obj} (e : X.s_0.heap.get? b = some u) : b ≠ a := by
    rintro rfl
    rw [n0] at e
    cases e
  have B := I.base
  refine ⟨I.ok, I.os, I.bare, ⟨B.keep, B.slot, ?_, B.there, ?_, ?_, ?_⟩, I.loc, I.cell, ?_, ?_, ?_, ?_, I.len⟩
  · intro b u e1 e2 e3
    rw [upd_ne (old e1)]
    exact B.free b u e1 e2 e3
  · intro b xs e
    have q := B.tups b xs e
    rw [upd_ne (other q)]
    exact q
  · intro b u v e
    have q := B.frzs b u v e
    rw [upd_ne (other q)]
    exact q
  · intro b qs e
    obtain ⟨m, q⟩ := B.tbls b qs e
    refine ⟨m, ?_⟩
    rw [upd_ne (other q)]
    exact q
  · rw [upd_ne (Ne.symm nL)]
    exact I.free
  · intro y c e
    have nc : c ≠ a := by
      rintro rfl
      obtain ⟨v, oc, h1, h2⟩ := I.cell y c e
      rw [ha] at h1
      cases h1
      rw [hd] at h2
      cases h2
    rw [upd_ne nc]
    exact I.freeC y c e
  · intro p hp
    obtain ⟨e1, e2, e3, e4, e5⟩ := I.pin p hp
    refine ⟨e1, ?_, e3, e4, e5⟩
    rw [upd_ne (np p hp)]
    exact e2
  · intro b u e
    by_cases hb : b = a
    · subst hb
      rw [upd_same] at e
      cases e
      exact ok
    · rw [upd_ne hb] at e
      refine (I.hok b u e).stay (fun _ _ _ q => q) ?_ ?_
      · intro c q
        rw [upd_ne (other q)]
        exact q
      · intro c xs q
        rw [upd_ne (other q)]
        exact q
end

section
variable {X : Cx} {x n m : Str} {c : Value} {i j : Nat} {body : List Stmt} {np q1 q2 q3 pos pos' : Pos} {tb : WX → TS}
/-- what the clause wishes of an error of the body: it is the clause's, and is kept in slot j -/
def wKeep (K : PySem.W.Frag) (c : Value) (i j n : Nat) (D : Ends) : WX := fun cls d σ H =>
  PySem.W.exmOne K cls c = some true ∧ (σ.length = n → ∀ a, H a = none → D.nx (((σ.set i (some (.ref a))).set j (some (.ref a))).set i none) (upd H a (ExV cls d a)))
/-- try: body / except x as n: m = n -/
theorem ps_try_keep (hs : X.stack = X.env :: X.outer) (hf : X.env.frame = some X.env.locals) (hex : X.ex = [])
    (hN : X.N.Nodup) (hi : X.N[i]? = some n) (hln : X.env.kindOf n = some .local)
    (hj : X.N[j]? = some m) (hlm : X.env.kindOf m = some .local) (hc : Names X x c)
    (hdn : (n == ("__debug__" : Str)) = false := by decide) (hcn : (n == ("__classdict__" : Str)) = false := by decide)
    (hb : ∀ (W : WX) (pn : List (Addr × Obj)) (xe : Value → Shared → Prop), Takes (X.tr pn xe) W →
      PassesOwn (model X.prog X.w) X.A X.env xe → PSs (X.tr pn xe) body (tb W)) :
    PS X (.Try body [.ExceptHandler (some (.Name x np)) (some n) [.Assign [.Name m q1] (.Name n q2) q3] pos'] [] [] pos)
      (fun D σ H => tb (wKeep X.K c i j X.N.length D) D σ H) := by
  constructor
  intro pins s σ H D I h
  have ok := I.ok
  have hfr : X.A.frames = some (X.env :: X.outer) := by rw [ok.frames, hs]
  have hlocN : Loc X.env.scope n := Or.inl hln
  have hlocM : Loc X.env.scope m := Or.inl hlm
  refine wpAny_Try_except ?_
  have run := (hb (wKeep X.K c i j X.N.length D) (X.pn ++ pins) (fun e s₁ => wpAny (model X.prog X.w) X.A (noteFrame e X.env)
      (fun _ s₂ => wpAny (model X.prog X.w) X.A (setFlight e none) (fun _ s₃ =>
        wpAny (model X.prog X.w) X.A (handleBy e X.env [.ExceptHandler (some (.Name x np)) (some n) [.Assign [.Name m q1] (.Name n q2) q3] pos'])
          (SP X pins D) X.xe s₃) X.xe s₂) X.xe s₁) ?takes PassesOwn.looking).run [] s σ H D (I.toTry _) h
  case takes =>
    rintro u s' ⟨a, B, sI, pins', σ', H', cls, d, rfl, J0, nb, up, sky, na, os, ag, hb1, hyes⟩
    have J : Inv X pins σ' H' sI := J0.ofTry ok
    have sky' : Sky B (X.env :: X.outer) a (Zc cls d) X.env.locals s'.heap := by
      rw [← hs]
      exact sky
    show wpAny (model X.prog X.w) X.A (noteFrame (.ref a) X.env) _ _ _
    refine Sky.land Zc.steady hfr hf sky' fun h3 fl3 up3 => ?_
    have J3 : Inv X pins σ' H' { s' with heap := h3 } := J.landed nb fl3.1 (up.trans up3) os ag
    obtain ⟨oe3, vs3, he3, hz3, hd3⟩ := fl3.there
    have nfr : a ∉ frs (X.env :: X.outer) := by
      intro hm
      obtain ⟨_, o', e', hnf⟩ := fl3.2.2.1.mem hm
      rw [he3] at e'
      cases e'
      exact hnf _ hd3
    have nL : a ≠ X.env.locals := fun z => nfr (List.mem_filterMap.mpr ⟨X.env, List.mem_cons_self, by rw [hf, z]⟩)
    have nF : a ∉ X.fs := by
      intro hm
      obtain ⟨e, he, q⟩ := List.mem_filterMap.mp hm
      exact nfr (List.mem_filterMap.mpr ⟨e, List.mem_cons_of_mem _ he, q⟩)
    -- the error was not there at the entry, nor is it one of the pins
    have nI : sI.heap.get? a = none := by
      cases e : sI.heap.get? a with
      | none => rfl
      | some o =>
        have z := nb a o e (by rw [hs]; exact nfr)
        rw [fl3.2.1] at z
        cases z
    have n0 : X.s_0.heap.get? a = none := by
      cases e : X.s_0.heap.get? a with
      | none => rfl
      | some o =>
        obtain ⟨o', z⟩ := J.base.there a o e (by rw [hex]; exact List.not_mem_nil)
        rw [nI] at z
        cases z
    have nP : ∀ p ∈ X.pn ++ pins, p.1 ≠ a := by
      intro p hp z
      obtain ⟨e, _⟩ := J.pin p hp
      rw [z, nI] at e
      cases e
    have S3 := J3.suite he3 hd3 na nL nF
    refine wpAny_handleBy_cons (codeAny_handlers_test ?_) (by intro q; cases q)
    have LT : PySem.W.Looks (model X.prog X.w) h3 (typeOf (.ref a)) cls := by
      intro A Q E s k q
      exact wpAny_typeOf_ref (k _ _ he3) (by rw [hz3.1]; exact q)
    have LM := PySem.W.exm_one (M := model X.prog X.w) J3.kIn LT hb1
    have test {Q : Value → Shared → Prop} {E : Value → Shared → Prop} (q : Q c { s' with heap := h3 }) :
        wpAny (model X.prog X.w) (X.A.mark (some (.ref a))) (eval (.Name x np) X.env) Q E { s' with heap := h3 } := by
      obtain ⟨hg, hdbg, hm | ⟨hm, hv, hnn⟩⟩ := hc
      · exact ld_glob (X := X.suite a ((a, oe3) :: (X.pn ++ pins))) S3 hg hm q hdbg
      · exact ld_blt (X := X.suite a ((a, oe3) :: (X.pn ++ pins))) S3 hg hm hv q hnn hdbg
    refine test (LM.here ?_)
    refine codeAny_handlers_suite_as ?_
    refine HandSPX.lands_againZ fl3 fun h4 fl4 up4 => ?_
    have J4 : Inv X pins σ' H' { s' with heap := h4 } := J.landed nb fl4.1 ((up.trans up3).trans up4) os ag
    obtain ⟨oe4, vs4, he4, hz4, hd4⟩ := fl4.there
    have S4 := J4.suite he4 hd4 na nL nF
    refine store_ok (X := X.suite a ((a, oe4) :: (X.pn ++ pins))) (v := .ref a) S4 hN hi hlocN rfl (fun s5 S5 => ?_) (.inr hln)
    have hset : (σ'.set i (some (V.ref a)))[i]? = some (some (V.ref a)) := by
      have hlt : i < σ'.length := by
        rw [J4.len]
        exact (List.getElem?_eq_some_iff.mp hi).1
      simp [hlt]
    have suite : PSs (X.suite a ((a, oe4) :: (X.pn ++ pins))) [.Assign [.Name m q1] (.Name n q2) q3] (tAsg (tVar i) (gName j)) :=
      pss_one (ps_set (i := j) hN hj hlocM (pe_var hi (.inl hln) hdn hcn) (hf := Or.inr hlm))
    refine wpAny_mono (suite.run [] s5 _ H' { nx := fun σ6 H6 => σ6 = (σ'.set i (some (.ref a))).set j (some (.ref a)) ∧ H6 = H', rt := fun _ _ => False } S5
      ⟨_, hset, rfl, rfl⟩) (fun f s6 hsp => ?_) (fun _ _ z => False.elim z)
    cases f with
    | next =>
      obtain ⟨σ6, H6, S6, e1, e2⟩ := hsp
      subst e1 e2
      obtain ⟨g1, _⟩ := S6.pin (a, oe4) (List.mem_append_left _ List.mem_cons_self)
      have K6 := track (o := ExV cls d a) (S6.unsuite ok) g1 hd4 na n0 nL nP (exV_ok g1 hz4 hd4)
      exact gone_ok K6 hN hi hln fun s7 J7 => ⟨_, _, J7, hyes J.len a na⟩
    | brk => exact hsp.elim fun _ z => z.elim fun _ z => z.2.elim
    | cont => exact hsp.elim fun _ z => z.elim fun _ z => z.2.elim
    | ret u => exact hsp.elim fun _ z => z.elim fun _ z => z.elim fun _ z => z.2.2.elim
  refine wpAny_mono run (fun f s1 hsp => ?_) (fun e s1 he => he)
  cases f with
  | next => exact hsp.elim fun σ' z => z.elim fun H' z => wpAny_execs_nil ⟨σ', H', z.1.ofTry ok, z.2⟩
  | brk => exact hsp.elim fun σ' z => z.elim fun H' z => ⟨σ', H', z.1.ofTry ok, z.2⟩
  | cont => exact hsp.elim fun σ' z => z.elim fun H' z => ⟨σ', H', z.1.ofTry ok, z.2⟩
  | ret u => exact hsp.elim fun v z => z.elim fun σ' z => z.elim fun H' z => ⟨v, σ', H', z.1.ofTry ok, z.2⟩
end
end Fw
/-! # FwIs: what is asked of an error that is kept as a value: its class, its attributes -/
namespace Fw
open PySem PySem.Spec PySem.Calls PyProof.Rows L2 PySem.W
section
variable {prog : Program} {w : World} {A : Around} {E : Value → Shared → Prop} {s : Shared} {K : Frag} {x D : Addr} {ox : Obj} {od : Option Obj}
/-- e.__class__ by the machine's own reading -/
theorem class_read {Q : Option Value → Shared → Prop} (T : ExcC K D) (X : K.In s.heap) (I : InstAt s.heap x ox D od)
    (h : Q (some (.ref D)) { s with toks := s.toks + 1 }) : wpAny (model prog w) A (getAttr? (.ref x) "__class__") Q E s := by
  have ⟨cd, hcd, _⟩ := any_some T.hd
  have hf : findObj K D od "__class__" = some (.bind (.builtin "getset_descriptor.__get__") (.builtin "object.__class__")) := by
    unfold findObj
    rw [hcd, Option.bind_some, T.ha]
    simp [T.hn, T.ht]
  obtain ⟨hp, g, d, t, os⟩ := s
  have ty := I.type (M := model prog w)
  have ga := looks_findIn (M := model prog w) X T.hg
  have gg := looks_findIn (M := model prog w) X T.hk
  have fd := looks_find (M := model prog w) X I hf
  have sub : Looks (model prog w) hp (isInstance (.ref x) (.type "BaseException")) true :=
    ty.andThen (looks_subIn X T.hs)
  have no : (Value.builtin "BaseException.__getattribute__" == Value.builtin "object.__getattribute__") = false := by decide +kernel
  unfold getAttr? getAttrBy? getAttrBy
  refine wpAny_bind (wpAny_mkText (wpAny_bind (wpAny_attempt (wpAny_holding ?_))))
  refine wpAny_bind (ty.at (wpAny_bind (ga.at ?_)))
  show wpAny _ _ (if (onTheHeap (Value.ref D) && Value.builtin "BaseException.__getattribute__" ==
    Value.builtin "object.__getattribute__") = true then _ else _) _ _ _
  rw [no, Bool.and_false, if_neg Bool.false_ne_true]
  unfold getAttrByItsOwn hookBefore
  refine wpAny_bind ?_
  rw [if_pos (by rfl)]
  refine gg.at (wpAny_bind (wpAny_attempt (wpAny_holding ?_)))
  unfold callGetattribute
  rw [Bool.false_and, if_neg Bool.false_ne_true]
  unfold boundAndCalled
  rw [PySem.F.excAttr_ValueError.ga.bind (.ref x)]
  refine wpAny_bind (wpAny_pure ?_)
  show wpAny _ _ (call (.builtin "BaseException.__getattribute__") [.ref x, .str "__class__" t]) _ _ _
  refine wpAny_call (codeAny_call_builtin PySem.F.excAttr_ValueError.ga.plain PySem.F.entry_bexc_ga ?_)
  refine @check_slot (model prog w) _ _ ⟨hp, g, d, t + 1, os⟩ "BaseException.__getattribute__" "BaseException"
    "__getattribute__" (.ref x) [.str "__class__" t] [] _ (by decide +kernel) (by decide +kernel) sub
    (PySem.F.args_bexc_ga (.ref x) (.str "__class__" t)) ?_
  unfold Builtin.«object.__getattribute__»
  refine wpAny_bind (wpAny_of_eq (a := ((Value.ref x : Value), [Value.str "__class__" t])) (by
    first
      | rfl
      | (simp only [slotArgs]; rfl)) ?_)
  refine wpAny_bind (wpAny_pure (wpAny_bind (ty.at (wpAny_bind (fd.at ?_)))))
  show wpAny _ _ (holding [Value.builtin "object.__class__"] (call (.builtin "getset_descriptor.__get__")
    [.builtin "object.__class__", .ref x, .ref D]) >>= ret) _ _ _
  refine wpAny_bind (wpAny_holding (wpAny_call (class_get (s := ⟨hp, g, d, t + 1, os⟩) (ox := ox) (od := od) X I T.hm ?_)))
  refine wpAny_pure ?_
  show wpAny _ _ (handedOut (.ref D)) _ _ _
  rw [handedOut_of (v := .ref D) rfl]
  first
    | exact wpAny_pure (wpAny_pure h)
    | exact wpAny_pure h
    | exact wpAny_pure (wpAny_bind (wpAny_pure (wpAny_pure h)))
theorem kitx_exv (T : ExcC K D) : KitX K (.ref x) (.ref D) (fun h => ∃ ox od, InstAt h x ox D od) := by
  have ⟨cd, hcd, _⟩ := any_some T.hd
  unfold clsIn at hcd
  split at hcd
  case h_2 => cases hcd
  case h_1 c' d' cd' sl' ho =>
    refine ⟨?_, ?_, ?_, ?_⟩
    · rintro M h X ⟨ox, od, I⟩
      exact I.type
    · rintro M h X _ A' Q' E' s' k q
      unfold isType loadHead
      exact wpAny_bind (wpAny_loadPart (k _ _ (X _ _ ho)) (wpAny_pure q))
    · intro h tp dd its n sl X htp
      rw [beq_eq_false_iff_ne]
      intro q
      cases q
      have z := X _ _ ho
      rw [htp] at z
      cases z
    · rintro prog w A E Q s X ⟨ox, od, I⟩ k
      exact class_read T X I k
end
section
variable {X : Cx} {pins : List (Addr × Obj)} {σ : L2.St} {H : Hp} {s : Shared} {a C : Addr}
/-- the error at a, its dict at d with the attributes fs -/
structure ErrAt (H : Hp) (a C : Addr) (d : Option Addr) (fs : List (Str × V)) : Prop where
  at_ : H a = some (ExV (.ref C) d a)
  dict : (d = none ∧ fs = []) ∨ ∃ dd, d = some dd ∧ H dd = some (.xd fs)
theorem errAt_inst {d : Option Addr} {fs : List (Str × V)} (I : Inv X pins σ H s) (e : ErrAt H a C d fs) :
    ∃ ox od, InstAt s.heap a ox C od ∧ ox.dict = d := by
  obtain ⟨⟨oe, vs, ho, ⟨z1, z2⟩, hd⟩, _, _⟩ := I.hok a _ e.at_
  obtain ⟨oc, odc, oda, osl⟩ := oe
  dsimp only at z1 z2 hd
  subst z1 z2 hd
  rcases e.dict with ⟨rfl, _⟩ | ⟨dd, rfl, hdd⟩
  · exact ⟨_, none, ⟨ho, rfl, rfl, trivial⟩, rfl⟩
  · obtain ⟨mA, hns, hr⟩ := I.hok dd _ hdd
    obtain ⟨od, hod, _⟩ := lookIn_ns hns
    exact ⟨_, some od, ⟨ho, rfl, rfl, hod⟩, rfl⟩
/-- isinstance(e, c) -/
def rIsV (K : Frag) : List V → Hp → VK → Prop := fun xs H Q => ∃ (a C : Addr) (d : Option Addr) (fs : List (Str × V)) (c : V) (cv : Value) (b : Bool),
  xs = [.ref a, c] ∧ ErrAt H a C d fs ∧ ExcC K C ∧ (∀ u, RelV c u → u = cv) ∧ kitOne K (.ref C) cv = some b ∧ Q (.bl b) H
theorem call_isV : CallR X (.builtin "isinstance") (rIsV X.K) := by
  rintro pins s σ H xs us Q I r ⟨a, C, d, fs, c, cv, b, rfl, ea, T, hcv, e, q⟩
  obtain ⟨u1, u2, rfl, r1, r2⟩ := vals2 r
  cases (show u1 = Value.ref a from r1)
  obtain rfl := hcv _ r2
  obtain ⟨ox, od, J, _⟩ := errAt_inst I ea
  exact kia_one (kitx_exv T) I.kIn ⟨ox, od, J⟩ e (fun z => nomatch z) fun tk => ⟨.bl b, H, I.tok tk, rfl, q⟩
/-- e.f -/
def tExF (K : Frag) (f : Str) (te : TE) : TE := fun σ H Q => te σ H fun x H1 => ∃ (a C dd : Addr) (fs : List (Str × V)) (v : V),
  x = .ref a ∧ ErrAt H1 a C (some dd) fs ∧ XfC K C ∧ findIn K (.ref C) f = some none ∧ fs.lookup f = some v ∧ Q v H1
theorem pe_exf {e : Expr} {te : TE} {f : Str} {pos : Pos} (he : PE X e te)
    (hb : attributeBase e f X.env (eval e X.env) = eval e X.env := by rfl) : PE X (.Attribute e f pos) (tExF X.K f te) := by
  constructor
  intro pins s σ H Q I h
  refine attr_of hb (thn (he.run pins s σ H _ I h) ?_)
  rintro u s1 ⟨x, H1, I1, rx, a, C, dd, fs, v, rfl, ea, T, hno, l, q⟩
  cases (show u = Value.ref a from rx)
  obtain ⟨⟨oe, vs, ho, ⟨z1, z2⟩, hd⟩, _, _⟩ := I1.hok a _ ea.at_
  have hdd : H1 dd = some (.xd fs) := by
    rcases ea.dict with ⟨z, _⟩ | ⟨d2, z, q2⟩
    · cases z
    · cases z
      exact q2
  obtain ⟨mA, hns, hr⟩ := I1.hok dd _ hdd
  obtain ⟨od, hod, hl⟩ := lookIn_ns hns
  obtain ⟨u, hu, ru⟩ := RelO.some_of (v := v) (o := mA f) (by rw [← l]; exact hr f)
  have J : InstAt s1.heap a oe C (some od) := by
    refine ⟨ho, z1, ?_, ?_⟩
    · unfold notCls
      rw [hd]
    · rw [z2]
      exact hod
  refine HandSPX.exc_get I1.kIn J T.ga T.gg T.exC (findObj_own T.hdC hno rfl ?_) (handed_of ru) ⟨v, H1, I1.tok _, ru, q⟩
  rw [hl, hu]
end
end Fw
/-! # FwDsl: programs over data. What a piece of Python does with data, told without a heap (a wish over data),
and that the piece does so; every rule gives both at once -/
namespace Fw
open PySem PySem.Spec PyProof.Rows L2
open Evl (Ex)

/-! ## data -/
inductive D where
  | non | bl (b : Bool) | int (i : Int) | str (x : Str)
  | lst (ds : List D) | tup (ds : List D)
  | dic (ks : List Key) (ds : List D)
  | err (n : Str) (fs : List (Str × D))
  | drw
  | scr (ns : List Int)
  /-- just this reference -/
  | pin (a : Addr)
/-- an error: the class's name, its attributes -/
abbrev EX := Str × List (Str × D)
/-- what stands by itself through a law: the draw (its dict, the lists in it), the tables of code objects -/
structure Wld where
  dr : Option (Addr × Addr × Addr)
  cells : List Int
  tb : List (Addr × Str)
  /-- what is being grown: where, what stands there now -/
  own : List (Addr × HO)
def drM : Option (Addr × Addr × Addr) → List Addr
  | some (d, l, c) => [d, l, c]
  | none => []
def Wld.M (W : Wld) : List Addr := W.own.map (·.1) ++ drM W.dr
/-- the draw's dict -/
def drK (l c : Addr) (r t : Int) : List (Key × V) := [(.inr "large", .ref l), (.inr "rest", .int r), (.inr "cells", .ref c), (.inr "turn", .int t)]
/-- the draw as it stands -/
def DrawOk (H : Hp) (d l c : Addr) (cells : List Int) : Prop := ∃ (r t : Int) (lg : List Int), H d = some (.dK (drK l c r t)) ∧ 0 ≤ r ∧ 0 ≤ t ∧
  H l = some (.lst (lg.map V.int)) ∧ (∀ x ∈ lg, 0 ≤ x) ∧ H c = some (.lst (cells.map V.int)) ∧ (∀ x ∈ cells, 0 ≤ x) ∧ l ≠ c
/-- what may grow -/
structure Own (o : HO) : Prop where
  tb : ∀ ps, o ≠ .tbl ps
  co : ∀ b q, o ≠ LamX.CodeO b q
theorem own_lst {xs : List V} : Own (.lst xs) := ⟨(fun _ z => nomatch z), fun b q z => by cases z⟩
theorem own_dK {kvs : List (Key × V)} : Own (.dK kvs) := ⟨(fun _ z => nomatch z), fun b q z => by cases z⟩
structure Wld.ok (W : Wld) (H : Hp) : Prop where
  dr : ∀ d l c, W.dr = some (d, l, c) → DrawOk H d l c W.cells
  tb : LamX.Tabs W.tb H
  own : ∀ q ∈ W.own, H q.1 = some q.2
  sep : ∀ q ∈ W.own, q.1 ∉ drM W.dr
  ownO : ∀ q ∈ W.own, Own q.2
/-- the heap without these -/
def Wld.cut (W : Wld) (H : Hp) : Hp := fun b => if b ∈ W.M then none else match H b with
  | some (.tbl _) => none
  | o => o
structure Wld.R (W : Wld) (H H' : Hp) : Prop where
  ok : W.ok H'
  ex : Ex (W.cut H) (W.cut H')
section
variable {W : Wld} {H H' H'' : Hp}
theorem cut_sub : Ex (W.cut H) H := by
  intro a o h
  unfold Wld.cut at h
  split at h
  · cases h
  · split at h
    · cases h
    · exact h
theorem Wld.R.refl (h : W.ok H) : W.R H H := ⟨h, Ex.refl _⟩
theorem Wld.R.trans (a : W.R H H') (b : W.R H' H'') : W.R H H'' := ⟨b.ok, a.ex.trans b.ex⟩
theorem mem_there (h : W.ok H) {b : Addr} (hb : b ∈ W.M) : ∃ o, H b = some o := by
  rcases List.mem_append.mp hb with hb | hb
  · obtain ⟨q, hq, rfl⟩ := List.mem_map.mp hb
    exact ⟨_, h.own q hq⟩
  · cases e : W.dr with
    | none =>
      rw [e] at hb
      cases hb
    | some p =>
      obtain ⟨d, l, c⟩ := p
      obtain ⟨r, t, lg, h1, _, _, h2, _, h3, _⟩ := h.dr d l c e
      rw [e] at hb
      simp only [drM, List.mem_cons, List.not_mem_nil, or_false] at hb
      rcases hb with rfl | rfl | rfl
      · exact ⟨_, h1⟩
      · exact ⟨_, h2⟩
      · exact ⟨_, h3⟩
theorem ok_ex (h : W.ok H) (e : Ex H H') : W.ok H' := by
  refine ⟨fun d l c hd => ?_, h.tb.ext e, fun q hq => e _ _ (h.own q hq), h.sep, h.ownO⟩
  obtain ⟨r, t, lg, h1, h2, h3, h4, h5, h6, h7⟩ := h.dr d l c hd
  exact ⟨r, t, lg, e _ _ h1, h2, h3, e _ _ h4, h5, e _ _ h6, h7⟩
/-- nothing that was tracked has changed -/
theorem R_ex (h : W.ok H) (e : Ex H H') : W.R H H' := by
  refine ⟨ok_ex h e, ?_⟩
  intro a o q
  unfold Wld.cut at q ⊢
  split at q
  · cases q
  · rename_i hm
    rw [if_neg hm]
    split at q
    · cases q
    · rename_i nt
      rw [e _ _ q]
      split
      · rename_i ps z
        cases z
        exact absurd q (nt ps)
      · rfl
theorem R_new (h : W.ok H) {p : Addr} {o : HO} (hp : H p = none) : W.R H (upd H p o) := R_ex h (Ex.new hp)
theorem cut_new (h : W.ok H) {p : Addr} {o : HO} (hp : H p = none) (nt : ∀ ps, o ≠ .tbl ps) : W.cut (upd H p o) p = some o := by
  unfold Wld.cut
  rw [if_neg, upd_same]
  · split
    · rename_i ps z
      cases z
      exact absurd rfl (nt ps)
    · rfl
  · intro hm
    obtain ⟨u, hu⟩ := mem_there h hm
    rw [hp] at hu
    cases hu
end

/-! ## a value stands for data -/
mutual
inductive Da (W : Wld) (K : PySem.W.Frag) (H : Hp) : V → D → Prop
  | non : Da W K H .non .non
  | bl (b : Bool) : Da W K H (.bl b) (.bl b)
  | int (i : Int) : Da W K H (.int i) (.int i)
  | str (x : Str) : Da W K H (.str x) (.str x)
  | lst {a : Addr} {xs : List V} {ds : List D} : H a = some (.lst xs) → Das W K H xs ds → Da W K H (.ref a) (.lst ds)
  | tup {a : Addr} {xs : List V} {ds : List D} : SqT K H a xs → Das W K H xs ds → Da W K H (.ref a) (.tup ds)
  | dic {a : Addr} {kvs : List (Key × V)} {ks : List Key} {ds : List D} : H a = some (.dK kvs) → kvs.map (·.1) = ks → Das W K H (kvs.map (·.2)) ds → Da W K H (.ref a) (.dic ks ds)
  | err {a : Addr} {dd : Option Addr} {n : Str} {xs : List V} {fs : List (Str × D)} : ErrAt H a (He.ga K n) dd ((fs.map (·.1)).zip xs) →
      Das W K H xs (fs.map (·.2)) → Da W K H (.ref a) (.err n fs)
  | drw {d l c : Addr} : W.dr = some (d, l, c) → Da W K H (.ref d) .drw
  | scr {a : Addr} {ns : List Int} : SqL K H a (ns.map V.int) → Da W K H (.ref a) (.scr ns)
  | pin {a : Addr} : Da W K H (.ref a) (.pin a)
inductive Das (W : Wld) (K : PySem.W.Frag) (H : Hp) : List V → List D → Prop
  | nil : Das W K H [] []
  | cons {v : V} {vs : List V} {d : D} {ds : List D} : Da W K H v d → Das W K H vs ds → Das W K H (v :: vs) (d :: ds)
end
theorem sqL_ex {K : PySem.W.Frag} {H H' : Hp} {a : Addr} {xs : List V} (e : Ex H H') (h : SqL K H a xs) : SqL K H' a xs := Evl.ex_l e h
theorem ErrAt.up {H H' : Hp} {a C : Addr} {d : Option Addr} {fs : List (Str × V)} (x : ErrAt H a C d fs) (e : Ex H H') : ErrAt H' a C d fs :=
  ⟨e _ _ x.at_, x.dict.imp id fun ⟨dd, h1, h2⟩ => ⟨dd, h1, e _ _ h2⟩⟩
mutual
theorem Da.up {W : Wld} {K : PySem.W.Frag} {H H' : Hp} (e : Ex H H') : ∀ {v : V} {d : D}, Da W K H v d → Da W K H' v d
  | _, _, .non => .non
  | _, _, .bl b => .bl b
  | _, _, .int i => .int i
  | _, _, .str x => .str x
  | _, _, .lst h r => .lst (e _ _ h) (Das.up e r)
  | _, _, .tup h r => .tup (Evl.ex_t e h) (Das.up e r)
  | _, _, .dic h1 h2 h3 => .dic (e _ _ h1) h2 (Das.up e h3)
  | _, _, .err h r => .err (h.up e) (Das.up e r)
  | _, _, .drw h => .drw h
  | _, _, .scr h => .scr (Evl.ex_l e h)
  | _, _, .pin => .pin
theorem Das.up {W : Wld} {K : PySem.W.Frag} {H H' : Hp} (e : Ex H H') : ∀ {vs : List V} {ds : List D}, Das W K H vs ds → Das W K H' vs ds
  | _, _, .nil => .nil
  | _, _, .cons h r => .cons (Da.up e h) (Das.up e r)
end
section
variable {W : Wld} {K : PySem.W.Frag} {H H' : Hp}
theorem Das.length {vs : List V} {ds : List D} (h : Das W K H vs ds) : vs.length = ds.length := by
  induction vs generalizing ds with
  | nil => cases h; rfl
  | cons v vs ih =>
    cases h with
    | cons _ r => exact congrArg Nat.succ (ih r)
theorem Das.app {vs ws : List V} {ds es : List D} (h : Das W K H vs ds) (k : Das W K H ws es) : Das W K H (vs ++ ws) (ds ++ es) := by
  induction vs generalizing ds with
  | nil => cases h; exact k
  | cons v vs ih =>
    cases h with
    | cons a r => exact .cons a (ih r)
theorem Das.get {vs : List V} {ds : List D} (h : Das W K H vs ds) {i : Nat} {v : V} (e : vs[i]? = some v) : ∃ d, ds[i]? = some d ∧ Da W K H v d := by
  induction vs generalizing ds i with
  | nil => cases e
  | cons x vs ih =>
    cases h with
    | cons a r =>
      cases i with
      | zero =>
        cases e
        exact ⟨_, rfl, a⟩
      | succ i => exact ih r e
theorem Das.getD {vs : List V} {ds : List D} (h : Das W K H vs ds) {i : Nat} {d : D} (e : ds[i]? = some d) : ∃ v, vs[i]? = some v ∧ Da W K H v d := by
  induction vs generalizing ds i with
  | nil => cases h; cases e
  | cons x vs ih =>
    cases h with
    | cons a r =>
      cases i with
      | zero =>
        cases e
        exact ⟨_, rfl, a⟩
      | succ i => exact ih r e
theorem Da.R {v : V} {d : D} (r : W.R H H') (h : Da W K (W.cut H) v d) : Da W K (W.cut H') v d := h.up r.ex
theorem Das.R {v : List V} {d : List D} (r : W.R H H') (h : Das W K (W.cut H) v d) : Das W K (W.cut H') v d := h.up r.ex
theorem Da.here {v : V} {d : D} (h : Da W K (W.cut H) v d) : Da W K H v d := h.up cut_sub
theorem Das.here {v : List V} {d : List D} (h : Das W K (W.cut H) v d) : Das W K H v d := h.up cut_sub
end

/-! ## wishes -/
/-- the names' data by slot -/
abbrev Env := List (Option D)
/-- an expression over data: what it must do with the names' data, for the wish behind it, and the wish for an error -/
abbrev EM := Env → (D → Prop) → (EX → Prop) → Prop
abbrev TM := Env → (Bool → Prop) → (EX → Prop) → Prop
abbrev AM := Env → (List D → Prop) → (EX → Prop) → Prop
/-- what is wished behind a statement -/
structure SE where
  nx : Env → Prop
  rt : D → Prop
  bk : Env → Prop := fun _ => False
  ct : Env → Prop := fun _ => False
  ex : EX → Prop := fun _ => False
abbrev SM := Env → SE → Prop
/-- a def over data -/
abbrev FM := List D → (D → Prop) → (EX → Prop) → Prop

/-- the tables of code objects that the law's lambdas come from, by the written part -/
class TabsOf where
  tb : PySem.W.Frag → List (Addr × Str)
/-- the slots hold these data -/
structure SL [TabsOf] (W : Wld) (K : PySem.W.Frag) (σ : L2.St) (H : Hp) (δ : Env) : Prop where
  len : σ.length = δ.length
  tb : W.tb = TabsOf.tb K
  at_ : ∀ (i : Nat) (d : D), δ[i]? = some (some d) → ∃ v, σ[i]? = some (some v) ∧ Da W K (W.cut H) v d
variable [TabsOf]
theorem SL.R {W : Wld} {K : PySem.W.Frag} {σ : L2.St} {H H' : Hp} {δ : Env} (r : W.R H H') (h : SL W K σ H δ) : SL W K σ H' δ :=
  ⟨h.len, h.tb, fun i d e => let ⟨v, h1, h2⟩ := h.at_ i d e; ⟨v, h1, h2.R r⟩⟩
theorem SL.set {W : Wld} {K : PySem.W.Frag} {σ : L2.St} {H : Hp} {δ : Env} {v : V} {d : D} (h : SL W K σ H δ) (i : Nat) (hv : Da W K (W.cut H) v d) :
    SL W K (σ.set i (some v)) H (δ.set i (some d)) := by
  refine ⟨by simp [h.len], h.tb, fun j e q => ?_⟩
  by_cases hj : i = j
  · subst hj
    by_cases hl : i < δ.length
    · rw [List.getElem?_set_self hl] at q
      cases q
      refine ⟨v, ?_, hv⟩
      rw [List.getElem?_set_self (by rw [h.len]; exact hl)]
    · rw [List.getElem?_eq_none (by simp; omega)] at q
      cases q
  · rw [List.getElem?_set_ne hj] at q ⊢
    exact h.at_ j e q
/-- an error has come out at H': its class at C, its dict at d -/
def ErrOut (W : Wld) (K : PySem.W.Frag) (H : Hp) (x : EX) (C : Value) (d : Option Addr) (H' : Hp) : Prop :=
  W.R H H' ∧ C = .ref (He.ga K x.1) ∧ ∃ xs : List V, Das W K (W.cut H') xs (x.2.map (·.2)) ∧
    ((d = none ∧ x.2 = []) ∨ ∃ dd, d = some dd ∧ W.cut H' dd = some (.xd ((x.2.map (·.1)).zip xs)))
/-- the wish for an error, on the heap -/
def XLink (W : Wld) (K : PySem.W.Frag) (H : Hp) (E : XK) (ex : EX → Prop) : Prop := ∀ x C d H', ErrOut W K H x C d H' → ex x → E C d H'
def EvO (W : Wld) (K : PySem.W.Frag) (E : XK) (t : TE) (m : EM) : Prop := ∀ σ H Q δ post ex, SL W K σ H δ → W.ok H → m δ post ex →
  (∀ v H' d, W.R H H' → Da W K (W.cut H') v d → post d → Q v H') → XLink W K H E ex → t σ H Q
def EvT (W : Wld) (K : PySem.W.Frag) (E : XK) (t : TT) (m : TM) : Prop := ∀ σ H Q δ post ex, SL W K σ H δ → W.ok H → m δ post ex →
  (∀ b H', W.R H H' → post b → Q b H') → XLink W K H E ex → t σ H Q
def EvA (W : Wld) (K : PySem.W.Frag) (E : XK) (t : TA) (m : AM) : Prop := ∀ σ H Q δ post ex, SL W K σ H δ → W.ok H → m δ post ex →
  (∀ vs H' ds, W.R H H' → Das W K (W.cut H') vs ds → post ds → Q vs H') → XLink W K H E ex → t σ H Q
structure SLink (W : Wld) (K : PySem.W.Frag) (E : XK) (H : Hp) (Z : Ends) (F : SE) : Prop where
  nx : ∀ σ' H' δ', W.R H H' → SL W K σ' H' δ' → F.nx δ' → Z.nx σ' H'
  rt : ∀ v H' d, W.R H H' → Da W K (W.cut H') v d → F.rt d → Z.rt v H'
  bk : ∀ σ' H' δ', W.R H H' → SL W K σ' H' δ' → F.bk δ' → Z.bk σ' H'
  ct : ∀ σ' H' δ', W.R H H' → SL W K σ' H' δ' → F.ct δ' → Z.ct σ' H'
  ex : XLink W K H E F.ex
def EvS (W : Wld) (K : PySem.W.Frag) (E : XK) (t : TS) (m : SM) : Prop := ∀ σ H Z δ F, SL W K σ H δ → W.ok H → m δ F → SLink W K E H Z F → t Z σ H
theorem XLink.R {W : Wld} {K : PySem.W.Frag} {H H' : Hp} {E : XK} {ex : EX → Prop} (r : W.R H H') (l : XLink W K H E ex) : XLink W K H' E ex :=
  fun x C d H2 ⟨r2, h⟩ => l x C d H2 ⟨r.trans r2, h⟩
theorem SLink.R {W : Wld} {K : PySem.W.Frag} {E : XK} {H H' : Hp} {Z : Ends} {F : SE} (r : W.R H H') (l : SLink W K E H Z F) : SLink W K E H' Z F :=
  ⟨fun σ' H2 δ' r2 => l.nx σ' H2 δ' (r.trans r2), fun v H2 d r2 => l.rt v H2 d (r.trans r2), fun σ' H2 δ' r2 => l.bk σ' H2 δ' (r.trans r2),
    fun σ' H2 δ' r2 => l.ct σ' H2 δ' (r.trans r2), l.ex.R r⟩

/-! ## a piece of Python and what it does -/
def PX (X : Cx) (E : XK) (e : Expr) (m : EM) : Prop := ∃ t, PE X e t ∧ ∀ W, EvO W X.K E t m
def TX (X : Cx) (E : XK) (e : Expr) (m : TM) : Prop := ∃ t, PT X e t ∧ ∀ W, EvT W X.K E t m
def AX (X : Cx) (E : XK) (es : List Expr) (m : AM) : Prop := ∃ t, PA X es t ∧ ∀ W, EvA W X.K E t m
def SX (X : Cx) (E : XK) (s : Stmt) (m : SM) : Prop := ∃ t, PS X s t ∧ ∀ W, EvS W X.K E t m
def BX (X : Cx) (E : XK) (ss : List Stmt) (m : SM) : Prop := ∃ t, PSs X ss t ∧ ∀ W, EvS W X.K E t m
end Fw
/-! # FwRun: the rules, expressions -/
namespace Fw
open PySem PySem.Spec PyProof.Rows L2
open Evl (Ex)
variable [TabsOf]
section
variable {X : Cx} {E : XK}

/-! ## names, constants -/
def mVar (i : Nat) : EM := fun δ post _ => ∃ d, δ[i]? = some (some d) ∧ post d
def mC (d : D) : EM := fun _ post _ => post d
theorem px_var (i : Nat) {x : Str} {pos : Pos} (hN : X.N[i]? = some x := by rfl)
    (hv : Vis X.env.scope x := by first | exact Or.inl rfl | exact Or.inr (Or.inl rfl) | exact Or.inr (Or.inr rfl))
    (hd : (x == ("__debug__" : Str)) = false := by decide) (hcd : (x == ("__classdict__" : Str)) = false := by decide) :
    PX X E (.Name x pos) (mVar i) := by
  refine ⟨tVar i, pe_var hN hv hd hcd, fun W σ H Q δ post ex hs ok ⟨d, e, p⟩ q _ => ?_⟩
  obtain ⟨v, h1, h2⟩ := hs.at_ i d e
  exact ⟨v, h1, q v H d (.refl ok) h2 p⟩
theorem evo_c {W : Wld} {K : PySem.W.Frag} {v : V} {d : D} (h : ∀ H, Da W K H v d) : EvO W K E (tC v) (mC d) :=
  fun _ H _ _ _ _ _ ok p q _ => q v H d (.refl ok) (h _) p
theorem px_int {i : Int} {j : Nat} {pos : Pos} : PX X E (.Constant (.int i) j pos) (mC (.int i)) := ⟨_, pe_int, fun _ => evo_c fun _ => .int i⟩
theorem px_str {x : Str} {j : Nat} {pos : Pos} : PX X E (.Constant (.str x) j pos) (mC (.str x)) := ⟨_, pe_str, fun _ => evo_c fun _ => .str x⟩
theorem px_bl {b : Bool} {j : Nat} {pos : Pos} : PX X E (.Constant (.bool b) j pos) (mC (.bl b)) := ⟨_, pe_bl, fun _ => evo_c fun _ => .bl b⟩
theorem px_non {j : Nat} {pos : Pos} : PX X E (.Constant .none j pos) (mC .non) := ⟨_, pe_non, fun _ => evo_c fun _ => .non⟩
/-- a constant of the module -/
theorem px_glob {x : Str} {v : V} {u : Value} {d : D} {pos : Pos} (hg : Gl X x) (hm : X.mg x = some u) (r : RelV v u) (h : ∀ W H, Da W X.K H v d)
    (hd : (x == ("__debug__" : Str)) = false := by decide) : PX X E (.Name x pos) (mC d) := ⟨_, pe_glob hg hm r (hd := hd), fun W => evo_c fun _ => h W _⟩

/-! ## operators on data -/
def OpD (W : Wld) (K : PySem.W.Frag) (r : R2) (f : D → D → D → Prop) : Prop := ∀ H x y a b z (Q : VK), W.ok H → Da W K (W.cut H) x a → Da W K (W.cut H) y b →
  f a b z → (∀ v H', W.R H H' → Da W K (W.cut H') v z → Q v H') → r x y H Q
def mOp (f : D → D → D → Prop) (a b : EM) : EM := fun δ post ex => a δ (fun x => b δ (fun y => ∃ z, f x y z ∧ post z) ex) ex
theorem evo_op {W : Wld} {K : PySem.W.Frag} {r : R2} {f : D → D → D → Prop} {ta tb : TE} {ma mb : EM} (ho : OpD W K r f) (ha : EvO W K E ta ma) (hb : EvO W K E tb mb) :
    EvO W K E (tOp r ta tb) (mOp f ma mb) := by
  intro σ H Q δ post ex hs ok h q lx
  refine ha σ H _ δ _ ex hs ok h ?_ lx
  intro v H1 a r1 hv h1
  refine hb σ H1 _ δ _ ex (hs.R r1) r1.ok h1 ?_ (lx.R r1)
  rintro u H2 b r2 hu ⟨z, hz, hp⟩
  refine ho H2 v u a b z Q r2.ok (hv.R r2) hu hz ?_
  exact fun w' H3 r3 hw => q w' H3 z ((r1.trans r2).trans r3) hw hp
section
variable {r : R2} {f : D → D → D → Prop} {a b : Expr} {ma mb : EM} {pos : Pos}
theorem px_op {op : Operator} (ho : OpR X (binaryOp op) r) (hf : ∀ W, OpD W X.K r f) (ha : PX X E a ma) (hb : PX X E b mb) : PX X E (.BinOp a op b pos) (mOp f ma mb) := by
  obtain ⟨ta, pa, ea⟩ := ha
  obtain ⟨tb, pb, eb⟩ := hb
  exact ⟨_, pe_op ho pa pb, fun W => evo_op (hf W) (ea W) (eb W)⟩
theorem px_cmp {op : CmpOp} (ho : OpR X (compareOp op) r) (hf : ∀ W, OpD W X.K r f) (ha : PX X E a ma) (hb : PX X E b mb) (hm : behindInMarks op b = false := by first | rfl | exact nomark _) :
    PX X E (.Compare a [op] [b] pos) (mOp f ma mb) := by
  obtain ⟨ta, pa, ea⟩ := ha
  obtain ⟨tb, pb, eb⟩ := hb
  exact ⟨_, pe_cmpR ho pa pb hm, fun W => evo_op (hf W) (ea W) (eb W)⟩
/-- of ints -/
theorem opD_I0 {W : Wld} {K : PySem.W.Frag} {g : Int → Int → V} {g' : Int → Int → D} (h : ∀ i j H, Da W K H (g i j) (g' i j)) :
    OpD W K (rI0 g) (fun a b z => ∃ i j, a = .int i ∧ b = .int j ∧ z = g' i j) := by
  rintro H x y _ _ _ Q ok hx hy ⟨i, j, rfl, rfl, rfl⟩ q
  cases hx
  cases hy
  exact ⟨i, j, rfl, rfl, q _ H (.refl ok) (h i j _)⟩
theorem opD_I {W : Wld} {K : PySem.W.Frag} {C : Int → Int → Prop} {g : Int → Int → V} {g' : Int → Int → D} (h : ∀ i j H, Da W K H (g i j) (g' i j)) :
    OpD W K (rI C g) (fun a b z => ∃ i j, a = .int i ∧ b = .int j ∧ C i j ∧ z = g' i j) := by
  rintro H x y _ _ _ Q ok hx hy ⟨i, j, rfl, rfl, c, rfl⟩ q
  cases hx
  cases hy
  exact ⟨i, j, rfl, rfl, c, q _ H (.refl ok) (h i j _)⟩
def fI (g : Int → Int → Int) (a b z : D) : Prop := ∃ i j, a = .int i ∧ b = .int j ∧ z = .int (g i j)
def fIB (g : Int → Int → Bool) (a b z : D) : Prop := ∃ i j, a = .int i ∧ b = .int j ∧ z = .bl (g i j)
def fIc (C : Int → Int → Prop) (g : Int → Int → Int) (a b z : D) : Prop := ∃ i j, a = .int i ∧ b = .int j ∧ C i j ∧ z = .int (g i j)
theorem px_sub (ha : PX X E a ma) (hb : PX X E b mb) : PX X E (.BinOp a .Sub b pos) (mOp (fI (· - ·)) ma mb) := px_op op_sub (fun W => opD_I0 fun i j _ => .int _) ha hb
theorem px_mul (ha : PX X E a ma) (hb : PX X E b mb) : PX X E (.BinOp a .Mult b pos) (mOp (fIc CMul (· * ·)) ma mb) := px_op op_mul (fun W => opD_I fun i j _ => .int _) ha hb
theorem px_fdiv (ha : PX X E a ma) (hb : PX X E b mb) : PX X E (.BinOp a .FloorDiv b pos) (mOp (fIc CDivW (· / ·)) ma mb) := px_op op_fdivW (fun W => opD_I fun i j _ => .int _) ha hb
theorem px_mod (ha : PX X E a ma) (hb : PX X E b mb) : PX X E (.BinOp a .Mod b pos) (mOp (fIc (fun _ j => 0 < j) (· % ·)) ma mb) := px_op op_mod (fun W => opD_I fun i j _ => .int _) ha hb
theorem px_pow (ha : PX X E a ma) (hb : PX X E b mb) : PX X E (.BinOp a .Pow b pos) (mOp (fIc CPow fun i j => i ^ j.toNat) ma mb) := px_op op_pow (fun W => opD_I fun i j _ => .int _) ha hb
theorem px_shr (ha : PX X E a ma) (hb : PX X E b mb) : PX X E (.BinOp a .RShift b pos) (mOp (fIc (fun _ j => 0 ≤ j) fun i j => i / 2 ^ j.toNat) ma mb) := px_op op_shr (fun W => opD_I fun i j _ => .int _) ha hb
theorem px_band (ha : PX X E a ma) (hb : PX X E b mb) : PX X E (.BinOp a .BitAnd b pos) (mOp (fI Builtin.bitAnd) ma mb) := px_op op_and (fun W => opD_I0 fun i j _ => .int _) ha hb
theorem px_bxor (ha : PX X E a ma) (hb : PX X E b mb) : PX X E (.BinOp a .BitXor b pos) (mOp (fI Builtin.bitXor) ma mb) := px_op op_xor (fun W => opD_I0 fun i j _ => .int _) ha hb
theorem px_lt (ha : PX X E a ma) (hb : PX X E b mb) : PX X E (.Compare a [.Lt] [b] pos) (mOp (fIB fun i j => decide (i < j)) ma mb) := px_cmp op_lt (fun W => opD_I0 fun i j _ => .bl _) ha hb
theorem px_le (ha : PX X E a ma) (hb : PX X E b mb) : PX X E (.Compare a [.LtE] [b] pos) (mOp (fIB fun i j => decide (i ≤ j)) ma mb) := px_cmp op_le (fun W => opD_I0 fun i j _ => .bl _) ha hb
theorem px_gt (ha : PX X E a ma) (hb : PX X E b mb) : PX X E (.Compare a [.Gt] [b] pos) (mOp (fIB fun i j => decide (j < i)) ma mb) := px_cmp op_gt (fun W => opD_I0 fun i j _ => .bl _) ha hb
theorem px_ge (ha : PX X E a ma) (hb : PX X E b mb) : PX X E (.Compare a [.GtE] [b] pos) (mOp (fIB fun i j => decide (j ≤ i)) ma mb) := px_cmp op_ge (fun W => opD_I0 fun i j _ => .bl _) ha hb
end
end

/-! ## + of ints, of lists, of tuples, of texts -/
section
variable {X : Cx} {E : XK}
def rAddU (K : PySem.W.Frag) : R2 := fun x y H Q =>
  (rI0 (fun i j => V.int (i + j)) x y H Q ∨ rCat x y H Q) ∨ (rCatA K x y H Q ∨ ∃ i j, x = .str i ∧ y = .str j ∧ i.length + j.length ≤ sizeLine ∧ Q (.str (i ++ j)) H)
theorem op_addU : OpR X (binaryOp .Add) (rAddU X.K) := by
  intro pins s σ H x y v u Q I rx ry hq
  rcases hq with (q | q) | (q | q)
  · exact op_add pins s σ H x y v u Q I rx ry q
  · exact op_cat pins s σ H x y v u Q I rx ry q
  · exact op_catA pins s σ H x y v u Q I rx ry q
  · exact op_add_str pins s σ H x y v u Q I rx ry q
def fAdd (a b z : D) : Prop := match a, b with
  | .int i, .int j => z = .int (i + j)
  | .lst xs, .lst ys => xs.length + ys.length ≤ 16777216 ∧ z = .lst (xs ++ ys)
  | .tup xs, .tup ys => xs.length + ys.length ≤ 16777216 ∧ z = .tup (xs ++ ys)
  | .str x, .str y => x.length + y.length ≤ 16777216 ∧ z = .str (x ++ y)
  | _, _ => False
theorem sizeLe {n : Nat} (h : n ≤ 16777216) : n ≤ sizeLine := by rw [sizeLine_eq]; exact h
theorem da_new {W : Wld} {K : PySem.W.Frag} {H : Hp} {p : Addr} {xs : List V} {ds : List D} (ok : W.ok H) (hp : H p = none) (h : Das W K (W.cut H) xs ds) :
    Da W K (W.cut (upd H p (.lst xs))) (.ref p) (.lst ds) := .lst (cut_new ok hp fun _ z => nomatch z) (h.R (R_new ok hp))
theorem da_newT {W : Wld} {K : PySem.W.Frag} {H : Hp} {p : Addr} {xs : List V} {ds : List D} (ok : W.ok H) (hp : H p = none) (h : Das W K (W.cut H) xs ds) :
    Da W K (W.cut (upd H p (.tup xs))) (.ref p) (.tup ds) := .tup (Evl.st_of (cut_new ok hp fun _ z => nomatch z)) (h.R (R_new ok hp))
theorem opD_add {W : Wld} {K : PySem.W.Frag} : OpD W K (rAddU K) fAdd := by
  intro H x y a b z Q ok hx hy hf q
  cases hx <;> cases hy <;> try (exact hf.elim)
  case int.int i j =>
    cases hf
    exact .inl (.inl ⟨i, j, rfl, rfl, q _ H (.refl ok) (.int _)⟩)
  case str.str i j =>
    obtain ⟨hl, rfl⟩ := hf
    exact .inr (.inr ⟨i, j, rfl, rfl, sizeLe hl, q _ H (.refl ok) (.str _)⟩)
  case lst.lst a xs ds h1 r1 b ys es h2 r2 =>
    obtain ⟨hl, rfl⟩ := hf
    refine .inl (.inr ⟨a, b, xs, ys, rfl, rfl, cut_sub _ _ h1, cut_sub _ _ h2, sizeLe (by rw [r1.length, r2.length]; exact hl), fun p hp => ?_⟩)
    exact q _ _ (R_new ok hp) (da_new ok hp (r1.app r2))
  case tup.tup a xs ds h1 r1 b ys es h2 r2 =>
    obtain ⟨hl, rfl⟩ := hf
    refine .inr (.inl ⟨a, b, xs, ys, rfl, rfl, Evl.ex_t cut_sub h1, Evl.ex_t cut_sub h2, sizeLe (by rw [r1.length, r2.length]; exact hl), ?_, ?_, ?_⟩)
    · rintro rfl
      cases r1
      exact q _ H (.refl ok) (.tup h2 r2)
    · rintro _ rfl
      cases r2
      rw [List.append_nil] at q
      exact q _ H (.refl ok) (.tup h1 r1)
    · intro _ _ p hp
      exact q _ _ (R_new ok hp) (da_newT ok hp (r1.app r2))
variable {a b : Expr} {ma mb : EM} {pos : Pos}
theorem px_add (ha : PX X E a ma) (hb : PX X E b mb) : PX X E (.BinOp a .Add b pos) (mOp fAdd ma mb) := px_op op_addU (fun _ => opD_add) ha hb

/-! ## == and != of data -/
mutual
def toP : D → PyData
  | .non => .none | .bl b => .bool b | .int i => .int i | .str x => .str x
  | .lst ds => .list (toPs ds) | .tup ds => .tuple (toPs ds)
  | .dic _ _ => .dict [] | .err _ _ => .dict [] | .drw => .dict [] | .scr _ => .dict [] | .pin _ => .dict []
def toPs : List D → List PyData
  | [] => []
  | d :: ds => toP d :: toPs ds
end
mutual
/-- plain data: what == compares -/
def pd : D → Bool
  | .non => true | .bl _ => true | .int _ => true | .str x => PyData.strOk x
  | .lst ds => pds ds | .tup ds => pds ds
  | .dic _ _ => false | .err _ _ => false | .drw => false | .scr _ => false | .pin _ => false
def pds : List D → Bool
  | [] => true
  | d :: ds => pd d && pds ds
end
mutual
theorem da_dp {W : Wld} {K : PySem.W.Frag} {H : Hp} : ∀ {d : D} {v : V}, pd d = true → Da W K H v d → Dp K H v (toP d)
  | _, _, _, .non => .non
  | _, _, _, .bl b => .bl b
  | _, _, _, .int i => .int i
  | _, _, _, .str x => .str x
  | .lst ds, _, h, .lst e r => .lst (Evl.sq_of e) (das_dp (by unfold pd at h; exact h) r)
  | .tup ds, _, h, .tup e r => .tup e (das_dp (by unfold pd at h; exact h) r)
  | .dic _ _, _, h, _ => by unfold pd at h; cases h
  | .err _ _, _, h, _ => by unfold pd at h; cases h
  | .drw, _, h, _ => by unfold pd at h; cases h
  | .scr _, _, h, _ => by unfold pd at h; cases h
  | .pin _, _, h, _ => by unfold pd at h; cases h
theorem das_dp {W : Wld} {K : PySem.W.Frag} {H : Hp} : ∀ {ds : List D} {vs : List V}, pds ds = true → Das W K H vs ds → DpAll K H vs (toPs ds)
  | [], _, _, .nil => .nil
  | d :: ds, _, h, .cons e r => by
    unfold pds at h
    have := Bool.and_eq_true_iff.mp h
    exact .cons (da_dp this.1 e) (das_dp this.2 r)
end
/-- data that == takes: plain, not too deep -/
def eqOk (d : D) : Prop := pd d = true ∧ (toP d).depth ≤ 64
end
end Fw
/-! # FwRun2: comparisons, tests, displays, calls -/
namespace Fw
open PySem PySem.Spec PyProof.Rows L2
open Evl (Ex)
variable [TabsOf]
mutual
theorem canLay_pd : ∀ d : D, pd d = true → (toP d).canLay0 = true
  | .non, _ => rfl
  | .bl _, _ => rfl
  | .int _, _ => rfl
  | .str x, h => by unfold pd at h; unfold toP PyData.canLay0; exact h
  | .lst ds, h => by unfold pd at h; unfold toP PyData.canLay0; exact canLay_pds ds h
  | .tup ds, h => by unfold pd at h; unfold toP PyData.canLay0; exact canLay_pds ds h
  | .dic _ _, h => by unfold pd at h; cases h
  | .err _ _, h => by unfold pd at h; cases h
  | .drw, h => by unfold pd at h; cases h
  | .scr _, h => by unfold pd at h; cases h
  | .pin _, h => by unfold pd at h; cases h
theorem canLay_pds : ∀ ds : List D, pds ds = true → PyData.canLayAll0 (toPs ds) = true
  | [], _ => rfl
  | d :: ds, h => by
    unfold pds at h
    have := Bool.and_eq_true_iff.mp h
    unfold toPs PyData.canLayAll0
    rw [canLay_pd d this.1, canLay_pds ds this.2]
    rfl
end
theorem shaped_of {d : D} (h : eqOk d) : SeqAt.shaped (toP d) = true := by
  unfold SeqAt.shaped
  rw [canLay_pd d h.1, decide_eq_true h.2]
  rfl
section
variable {X : Cx} {E : XK} {a b : Expr} {ma mb : EM} {pos : Pos} {k : Nat}
def eqd (a b : D) : Bool := PyData.eqv (toP a) (toP b)
def fEq (a b z : D) : Prop := eqOk a ∧ eqOk b ∧ z = .bl (eqd a b)
def fNe (a b z : D) : Prop := eqOk a ∧ eqOk b ∧ z = .bl (!eqd a b)
theorem room64 {A : Around} (hr : Room k A) : A.units + 64 < cLine := by
  have := hr.un
  omega
theorem opD_eq {W : Wld} {K : PySem.W.Frag} : OpD W K (rEqD K) fEq := by
  rintro H x y a b z Q ok hx hy ⟨ha, hb, rfl⟩ q
  exact ⟨_, _, da_dp ha.1 hx.here, da_dp hb.1 hy.here, shaped_of ha, shaped_of hb, q _ H (.refl ok) (.bl _)⟩
theorem opD_ne {W : Wld} {K : PySem.W.Frag} : OpD W K (rNeD K) fNe := by
  rintro H x y a b z Q ok hx hy ⟨ha, hb, rfl⟩ q
  exact ⟨_, _, da_dp ha.1 hx.here, da_dp hb.1 hy.here, shaped_of ha, shaped_of hb, q _ H (.refl ok) (.bl _)⟩
theorem px_eq (hr : Room k X.A) (ha : PX X E a ma) (hb : PX X E b mb) (hm : behindInMarks .Eq b = false := by first | rfl | exact nomark _) :
    PX X E (.Compare a [.Eq] [b] pos) (mOp fEq ma mb) := px_cmp (op_eqD (room64 hr)) (fun _ => opD_eq) ha hb hm
theorem px_ne (hr : Room k X.A) (ha : PX X E a ma) (hb : PX X E b mb) (hm : behindInMarks .NotEq b = false := by first | rfl | exact nomark _) :
    PX X E (.Compare a [.NotEq] [b] pos) (mOp fNe ma mb) := px_cmp (op_neD (room64 hr)) (fun _ => opD_ne) ha hb hm

/-! ## is -/
def isNon : D → Bool
  | .non => true
  | _ => false
def fIsN (a b z : D) : Prop := b = .non ∧ z = .bl (isNon a)
def fNotN (a b z : D) : Prop := b = .non ∧ z = .bl (!isNon a)
theorem da_non {W : Wld} {K : PySem.W.Frag} {H : Hp} {v : V} {d : D} (h : Da W K H v d) : decide (v = .non) = isNon d := by
  cases h <;> first
    | rfl
    | exact decide_eq_false fun z => nomatch z
theorem px_isN (ha : PX X E a ma) (hb : PX X E b mb) (hm : behindInMarks .Is b = false := by first | rfl | exact nomark _) :
    PX X E (.Compare a [.Is] [b] pos) (mOp fIsN ma mb) := px_cmp op_isN (fun W => by
  rintro H x y c d z Q ok hx hy ⟨rfl, rfl⟩ q
  cases hy
  refine ⟨rfl, ?_⟩
  rw [da_non hx]
  exact q _ H (.refl ok) (.bl _)) ha hb hm
theorem px_notN (ha : PX X E a ma) (hb : PX X E b mb) (hm : behindInMarks .IsNot b = false := by first | rfl | exact nomark _) :
    PX X E (.Compare a [.IsNot] [b] pos) (mOp fNotN ma mb) := px_cmp op_notN (fun W => by
  rintro H x y c d z Q ok hx hy ⟨rfl, rfl⟩ q
  cases hy
  refine ⟨rfl, ?_⟩
  rw [da_non hx]
  exact q _ H (.refl ok) (.bl _)) ha hb hm
/-- is True, is False, of a truth value -/
def fIsB (a b z : D) : Prop := ∃ p q, a = .bl p ∧ b = .bl q ∧ z = .bl (decide (p = q))
def fNotB (a b z : D) : Prop := ∃ p q, a = .bl p ∧ b = .bl q ∧ z = .bl (!decide (p = q))
theorem px_isB (ha : PX X E a ma) (hb : PX X E b mb) (hm : behindInMarks .Is b = false := by first | rfl | exact nomark _) :
    PX X E (.Compare a [.Is] [b] pos) (mOp fIsB ma mb) := px_cmp op_isBl (fun W => by
  rintro H x y c d z Q ok hx hy ⟨p, r, rfl, rfl, rfl⟩ q
  cases hx
  cases hy
  exact ⟨p, r, rfl, rfl, q _ H (.refl ok) (.bl _)⟩) ha hb hm
theorem px_notB (ha : PX X E a ma) (hb : PX X E b mb) (hm : behindInMarks .IsNot b = false := by first | rfl | exact nomark _) :
    PX X E (.Compare a [.IsNot] [b] pos) (mOp fNotB ma mb) := px_cmp op_notBl (fun W => by
  rintro H x y c d z Q ok hx hy ⟨p, r, rfl, rfl, rfl⟩ q
  cases hx
  cases hy
  exact ⟨p, r, rfl, rfl, q _ H (.refl ok) (.bl _)⟩) ha hb hm
end

/-! ## x in written words -/
def flatD : D → Bool
  | .non => true | .bl _ => true | .int _ => true | .str _ => true
  | _ => false
def eqF : D → D → Bool
  | .non, .non => true
  | .bl a, .bl b => a == b
  | .bl a, .int b => (if a then 1 else 0) == b
  | .int a, .bl b => a == (if b then 1 else 0)
  | .int a, .int b => a == b
  | .str a, .str b => a == b
  | _, _ => false
def inD (x : D) (xs : List D) : Bool := xs.any fun y => eqF y x
theorem flat_of {W : Wld} {K : PySem.W.Frag} {H : Hp} {v : V} {d : D} (h : Da W K H v d) : flatV v = flatD d := by cases h <;> rfl
theorem eqF_of {W : Wld} {K : PySem.W.Frag} {H : Hp} {v u : V} {d e : D} (h : Da W K H v d) (k : Da W K H u e) (f : flatD d = true) (g : flatD e = true) : eqV v u = eqF d e := by
  cases h <;> first
    | (cases f; done)
    | (cases k <;> first
      | rfl
      | (cases g; done))
theorem flats_of {W : Wld} {K : PySem.W.Frag} {H : Hp} {vs : List V} {ds : List D} (h : Das W K H vs ds) : vs.all flatV = ds.all flatD := by
  induction vs generalizing ds with
  | nil => cases h; rfl
  | cons v vs ih =>
    cases h with
    | cons a r => rw [List.all_cons, List.all_cons, flat_of a, ih r]
theorem inV_of {W : Wld} {K : PySem.W.Frag} {H : Hp} {v : V} {d : D} {vs : List V} {ds : List D} (hv : Da W K H v d) (f : flatD d = true) (h : Das W K H vs ds) (g : ds.all flatD = true) : inV v vs = inD d ds := by
  unfold inV inD
  induction vs generalizing ds with
  | nil => cases h; rfl
  | cons x vs ih =>
    cases h with
    | cons a r =>
      rw [List.all_cons] at g
      have := Bool.and_eq_true_iff.mp g
      rw [List.any_cons, List.any_cons, eqF_of a hv this.1 f, ih r this.2]
def itemsD : D → Option (List D)
  | .lst ds => some ds
  | .tup ds => some ds
  | _ => none
def fIn (a b z : D) : Prop := ∃ ds, itemsD b = some ds ∧ flatD a = true ∧ ds.all flatD = true ∧ z = .bl (inD a ds)
def fNotIn (a b z : D) : Prop := ∃ ds, itemsD b = some ds ∧ flatD a = true ∧ ds.all flatD = true ∧ z = .bl (!inD a ds)
theorem opD_in {W : Wld} {K : PySem.W.Frag} {neg : Bool} : OpD W K (rIn K neg) (fun a b z => ∃ ds, itemsD b = some ds ∧ flatD a = true ∧ ds.all flatD = true ∧ z = .bl (if neg then !inD a ds else inD a ds)) := by
  rintro H x y a b z Q ok hx hy ⟨ds, hi, fa, fs, rfl⟩ q
  have fx : flatV x = true := by rw [flat_of hx, fa]
  cases hy <;> first
    | (cases hi; done)
    | skip
  case lst p xs es h r =>
    cases hi
    refine ⟨p, xs, rfl, .inl (Evl.sq_of (cut_sub _ _ h)), fx, by rw [flats_of r]; exact fs, ?_⟩
    rw [inV_of hx fa r fs]
    exact q _ H (.refl ok) (.bl _)
  case tup p xs es h r =>
    cases hi
    refine ⟨p, xs, rfl, .inr (Evl.ex_t cut_sub h), fx, by rw [flats_of r]; exact fs, ?_⟩
    rw [inV_of hx fa r fs]
    exact q _ H (.refl ok) (.bl _)
section
variable {X : Cx} {E : XK} {a b : Expr} {ma mb : EM} {pos : Pos}
theorem px_in (ha : PX X E a ma) (hb : PX X E b mb) (hm : behindInMarks .In b = false := by first | rfl | exact nomark _) :
    PX X E (.Compare a [.In] [b] pos) (mOp fIn ma mb) := px_cmp (op_in_seq) (fun _ => opD_in (neg := false)) ha hb hm
theorem px_notIn (ha : PX X E a ma) (hb : PX X E b mb) (hm : behindInMarks .NotIn b = false := by first | rfl | exact nomark _) :
    PX X E (.Compare a [.NotIn] [b] pos) (mOp fNotIn ma mb) := px_cmp (op_notIn_seq) (fun _ => opD_in (neg := true)) ha hb hm

/-! ## -x, not, and, or, the conditional -/
def mNeg (a : EM) : EM := fun δ post ex => a δ (fun x => ∃ i, x = .int i ∧ post (.int (-i))) ex
theorem px_neg (ha : PX X E a ma) : PX X E (.UnaryOp .USub a pos) (mNeg ma) := by
  obtain ⟨ta, pa, ea⟩ := ha
  refine ⟨_, pe_un un_neg pa, fun W σ H Q δ post ex hs ok h q lx => ea W σ H _ δ _ ex hs ok h ?_ lx⟩
  rintro v H1 d r1 hv ⟨i, rfl, p⟩
  cases hv
  exact ⟨i, rfl, q _ H1 _ r1 (.int _) p⟩
/-- a value as a test -/
def mTest (a : EM) : TM := fun δ post ex => a δ (fun x => ∃ b, x = .bl b ∧ post b) ex
def mOf (t : TM) : EM := fun δ post ex => t δ (fun b => post (.bl b)) ex
theorem evt_B {W : Wld} {K : PySem.W.Frag} {t : TE} {m : EM} (h : EvO W K E t m) : EvT W K E (tB t) (mTest m) := by
  intro σ H Q δ post ex hs ok hm q lx
  refine h σ H _ δ _ ex hs ok hm ?_ lx
  rintro v H1 d r1 hv ⟨b, rfl, p⟩
  cases hv
  exact ⟨b, rfl, q b H1 r1 p⟩
theorem tx_val (h : PX X E a ma) (he : ∀ whole, isTrue a X.env whole = (do let v ← whole; standAt a.pos; holding [v] (truthy v)) := by intro _; rfl) : TX X E a (mTest ma) := by
  obtain ⟨t, p, e⟩ := h
  exact ⟨_, pt_val p he, fun W => evt_B (e W)⟩
theorem tx_cmp {op : CmpOp} {r : R2} {f : D → D → D → Prop} (ho : OpR X (compareOp op) r) (hf : ∀ W, OpD W X.K r f) (ha : PX X E a ma) (hb : PX X E b mb) (hm : behindInMarks op b = false := by first | rfl | exact nomark _) :
    TX X E (.Compare a [op] [b] pos) (mTest (mOp f ma mb)) := by
  obtain ⟨ta, pa, ea⟩ := ha
  obtain ⟨tb, pb, eb⟩ := hb
  refine ⟨_, pt_cmpR ho pa pb hm, fun W => ?_⟩
  exact evt_B (evo_op (hf W) (ea W) (eb W))
variable {mt mu : TM}
def mNot (t : TM) : TM := fun δ post ex => t δ (fun b => post (!b)) ex
def mAnd (t u : TM) : TM := fun δ post ex => t δ (fun b => if b = true then u δ post ex else post false) ex
def mOr (t u : TM) : TM := fun δ post ex => t δ (fun b => if b = true then post true else u δ post ex) ex
theorem tx_not (h : TX X E a mt) : TX X E (.UnaryOp .Not a pos) (mNot mt) := by
  obtain ⟨t, p, e⟩ := h
  refine ⟨_, pt_not p, fun W σ H Q δ post ex hs ok hm q lx => ?_⟩
  exact e W σ H _ δ _ ex hs ok hm (fun b H1 r1 hb => q _ H1 r1 hb) lx
theorem evt_and {W : Wld} {K : PySem.W.Frag} {t u : TT} (h : EvT W K E t mt) (k : EvT W K E u mu) : EvT W K E (tAnd t u) (mAnd mt mu) := by
  intro σ H Q δ post ex hs ok hm q lx
  refine h σ H _ δ _ ex hs ok hm (fun b H1 r1 hb => ?_) lx
  cases b with
  | true =>
    rw [if_pos rfl] at hb ⊢
    exact k σ H1 Q δ post ex (hs.R r1) r1.ok hb (fun c H2 r2 hc => q c H2 (r1.trans r2) hc) (lx.R r1)
  | false =>
    rw [if_neg Bool.false_ne_true] at hb ⊢
    exact q _ H1 r1 hb
theorem evt_or {W : Wld} {K : PySem.W.Frag} {t u : TT} (h : EvT W K E t mt) (k : EvT W K E u mu) : EvT W K E (tOr t u) (mOr mt mu) := by
  intro σ H Q δ post ex hs ok hm q lx
  refine h σ H _ δ _ ex hs ok hm (fun b H1 r1 hb => ?_) lx
  cases b with
  | true =>
    rw [if_pos rfl] at hb ⊢
    exact q _ H1 r1 hb
  | false =>
    rw [if_neg Bool.false_ne_true] at hb ⊢
    exact k σ H1 Q δ post ex (hs.R r1) r1.ok hb (fun c H2 r2 hc => q c H2 (r1.trans r2) hc) (lx.R r1)
end
end Fw
/-! # FwRun3: and, or, conditionals, chains, displays, calls, items -/
namespace Fw
open PySem PySem.Spec PyProof.Rows L2
open Evl (Ex)
variable [TabsOf]
/-- a test whatever its whole is -/
def WX' (X : Cx) (E : XK) (e : Expr) (m : TM) : Prop := ∃ t, PW X e t ∧ ∀ W, EvT W X.K E t m
section
variable {X : Cx} {E : XK} {a b c : Expr} {ma mb mc : EM} {ta tb : TM} {pos : Pos} {k : Nat} {rest : List Expr}
theorem WX'.tx {e : Expr} {m : TM} (h : WX' X E e m) : TX X E e m := let ⟨t, p, e⟩ := h; ⟨t, p.pt, e⟩
theorem wx_and1 (h : TX X E a ta) : WX' X E (.BoolOp .And [a] pos) ta := let ⟨t, p, e⟩ := h; ⟨t, pw_and1 p, e⟩
theorem wx_or1 (h : TX X E a ta) : WX' X E (.BoolOp .Or [a] pos) ta := let ⟨t, p, e⟩ := h; ⟨t, pw_or1 p, e⟩
theorem wx_and (h : TX X E a ta) (k : WX' X E (.BoolOp .And (b :: rest) pos) tb) : WX' X E (.BoolOp .And (a :: b :: rest) pos) (mAnd ta tb) :=
  let ⟨_, p, e⟩ := h
  let ⟨_, q, f⟩ := k
  ⟨_, pw_and p q, fun W => evt_and (e W) (f W)⟩
theorem wx_or (h : TX X E a ta) (k : WX' X E (.BoolOp .Or (b :: rest) pos) tb) : WX' X E (.BoolOp .Or (a :: b :: rest) pos) (mOr ta tb) :=
  let ⟨_, p, e⟩ := h
  let ⟨_, q, f⟩ := k
  ⟨_, pw_or p q, fun W => evt_or (e W) (f W)⟩
/-- as values -/
def mAndV (a b : EM) : EM := fun δ post ex => a δ (fun x => ∃ p, x = .bl p ∧ if p = true then b δ post ex else post (.bl false)) ex
def mOrV (a b : EM) : EM := fun δ post ex => a δ (fun x => ∃ p, x = .bl p ∧ if p = true then post (.bl true) else b δ post ex) ex
def mNotV (a : EM) : EM := fun δ post ex => a δ (fun x => ∃ p, x = .bl p ∧ post (.bl (!p))) ex
def mIf (t : TM) (a b : EM) : EM := fun δ post ex => t δ (fun p => if p = true then a δ post ex else b δ post ex) ex
theorem px_one {op : BoolOp} (h : PX X E a ma) : PX X E (.BoolOp op [a] pos) ma := let ⟨_, p, e⟩ := h; ⟨_, pe_one p, e⟩
theorem px_and (h : PX X E a ma) (k : PX X E (.BoolOp .And (b :: rest) pos) mb) : PX X E (.BoolOp .And (a :: b :: rest) pos) (mAndV ma mb) := by
  obtain ⟨t, p, e⟩ := h
  obtain ⟨u, q, f⟩ := k
  refine ⟨_, pe_and p q, fun W σ H Q δ post ex hs ok hm hq lx => ?_⟩
  refine e W σ H _ δ _ ex hs ok hm ?_ lx
  rintro v H1 d r1 hv ⟨c, rfl, hc⟩
  cases hv
  refine ⟨c, rfl, ?_⟩
  cases c with
  | true =>
    rw [if_pos rfl] at hc ⊢
    exact f W σ H1 Q δ post ex (hs.R r1) r1.ok hc (fun v H2 d r2 => hq v H2 d (r1.trans r2)) (lx.R r1)
  | false =>
    rw [if_neg Bool.false_ne_true] at hc ⊢
    exact hq _ H1 _ r1 (.bl _) hc
theorem px_or (h : PX X E a ma) (k : PX X E (.BoolOp .Or (b :: rest) pos) mb) : PX X E (.BoolOp .Or (a :: b :: rest) pos) (mOrV ma mb) := by
  obtain ⟨t, p, e⟩ := h
  obtain ⟨u, q, f⟩ := k
  refine ⟨_, pe_or p q, fun W σ H Q δ post ex hs ok hm hq lx => ?_⟩
  refine e W σ H _ δ _ ex hs ok hm ?_ lx
  rintro v H1 d r1 hv ⟨c, rfl, hc⟩
  cases hv
  refine ⟨c, rfl, ?_⟩
  cases c with
  | true =>
    rw [if_pos rfl] at hc ⊢
    exact hq _ H1 _ r1 (.bl _) hc
  | false =>
    rw [if_neg Bool.false_ne_true] at hc ⊢
    exact f W σ H1 Q δ post ex (hs.R r1) r1.ok hc (fun v H2 d r2 => hq v H2 d (r1.trans r2)) (lx.R r1)
theorem px_not (h : PX X E a ma) : PX X E (.UnaryOp .Not a pos) (mNotV ma) := by
  obtain ⟨t, p, e⟩ := h
  refine ⟨_, pe_not p, fun W σ H Q δ post ex hs ok hm hq lx => ?_⟩
  refine e W σ H _ δ _ ex hs ok hm ?_ lx
  rintro v H1 d r1 hv ⟨c, rfl, hc⟩
  cases hv
  exact ⟨c, rfl, hq _ H1 _ r1 (.bl _) hc⟩
theorem px_if (h : TX X E c ta) (ha : PX X E a ma) (hb : PX X E b mb) : PX X E (.IfExp c a b pos) (mIf ta ma mb) := by
  obtain ⟨t, p, e⟩ := h
  obtain ⟨u, q, f⟩ := ha
  obtain ⟨w, r, g⟩ := hb
  refine ⟨_, pe_ifExp p q r, fun W σ H Q δ post ex hs ok hm hq lx => ?_⟩
  refine e W σ H _ δ _ ex hs ok hm ?_ lx
  intro c H1 r1 hc
  cases c with
  | true =>
    rw [if_pos rfl] at hc ⊢
    exact f W σ H1 Q δ post ex (hs.R r1) r1.ok hc (fun v H2 d r2 => hq v H2 d (r1.trans r2)) (lx.R r1)
  | false =>
    rw [if_neg Bool.false_ne_true] at hc ⊢
    exact g W σ H1 Q δ post ex (hs.R r1) r1.ok hc (fun v H2 d r2 => hq v H2 d (r1.trans r2)) (lx.R r1)
/-- a op b op' c -/
def mChain (f g : D → D → D → Prop) (a b c : EM) : EM := fun δ post ex => a δ (fun x => b δ (fun y => ∃ p, f x y (.bl p) ∧
  if p = true then c δ (fun z => ∃ w, g y z w ∧ post w) ex else post (.bl false)) ex) ex
theorem evo_chain {W : Wld} {K : PySem.W.Frag} {r r' : R2} {f g : D → D → D → Prop} {t1 t2 t3 : TE} (ho : OpD W K r f) (ho' : OpD W K r' g)
    (h1 : EvO W K E t1 ma) (h2 : EvO W K E t2 mb) (h3 : EvO W K E t3 mc) : EvO W K E (tChain r r' t1 t2 t3) (mChain f g ma mb mc) := by
  intro σ H Q δ post ex hs ok hm hq lx
  refine h1 σ H _ δ _ ex hs ok hm ?_ lx
  intro v H1 x r1 hv hm
  refine h2 σ H1 _ δ _ ex (hs.R r1) r1.ok hm ?_ (lx.R r1)
  rintro u H2 y r2 hu ⟨p, hf, hm⟩
  refine ho H2 v u x y _ _ r2.ok (hv.R r2) hu hf ?_
  intro z H3 r3 hz
  cases hz
  refine ⟨p, rfl, ?_⟩
  have r123 := (r1.trans r2).trans r3
  cases p with
  | false =>
    rw [if_neg Bool.false_ne_true] at hm ⊢
    exact hq _ H3 _ r123 (.bl _) hm
  | true =>
    rw [if_pos rfl] at hm ⊢
    refine h3 σ H3 _ δ _ ex (hs.R r123) r3.ok hm ?_ (lx.R r123)
    rintro w' H4 z r4 hw ⟨w2, hg, hp⟩
    refine ho' H4 u w' y z w2 _ r4.ok (hu.R (r3.trans r4)) hw hg ?_
    exact fun v5 H5 r5 h5 => hq v5 H5 w2 ((r123.trans r4).trans r5) h5 hp
theorem px_chain {op op' : CmpOp} {r r' : R2} {f g : D → D → D → Prop} (ho : OpR X (compareOp op) r) (hf : ∀ W, OpD W X.K r f) (ho' : OpR X (compareOp op') r') (hg : ∀ W, OpD W X.K r' g)
    (ha : PX X E a ma) (hb : PX X E b mb) (hc : PX X E c mc) (hm : lastMarks [op, op'] [b, c] = false := by with_unfolding_all rfl) :
    PX X E (.Compare a [op, op'] [b, c] pos) (mChain f g ma mb mc) := by
  obtain ⟨_, p, e⟩ := ha
  obtain ⟨_, q, e2⟩ := hb
  obtain ⟨_, r, e3⟩ := hc
  exact ⟨_, pe_chain ho ho' p q r hm, fun W => evo_chain (hf W) (hg W) (e W) (e2 W) (e3 W)⟩
theorem tx_chain {op op' : CmpOp} {r r' : R2} {f g : D → D → D → Prop} (ho : OpR X (compareOp op) r) (hf : ∀ W, OpD W X.K r f) (ho' : OpR X (compareOp op') r') (hg : ∀ W, OpD W X.K r' g)
    (ha : PX X E a ma) (hb : PX X E b mb) (hc : PX X E c mc) (hm : lastMarks [op, op'] [b, c] = false := by with_unfolding_all rfl) :
    TX X E (.Compare a [op, op'] [b, c] pos) (mTest (mChain f g ma mb mc)) := by
  obtain ⟨_, p, e⟩ := ha
  obtain ⟨_, q, e2⟩ := hb
  obtain ⟨_, r, e3⟩ := hc
  exact ⟨_, pt_chain ho ho' p q r hm, fun W => evt_B (evo_chain (hf W) (hg W) (e W) (e2 W) (e3 W))⟩
abbrev dLe (W : Wld) (K : PySem.W.Frag) : OpD W K (rI0 fun i j => .bl (decide (i ≤ j))) (fIB fun i j => decide (i ≤ j)) := opD_I0 fun i j _ => .bl _
abbrev dLt (W : Wld) (K : PySem.W.Frag) : OpD W K (rI0 fun i j => .bl (decide (i < j))) (fIB fun i j => decide (i < j)) := opD_I0 fun i j _ => .bl _
abbrev dGt (W : Wld) (K : PySem.W.Frag) : OpD W K (rI0 fun i j => .bl (decide (j < i))) (fIB fun i j => decide (j < i)) := opD_I0 fun i j _ => .bl _
abbrev dGe (W : Wld) (K : PySem.W.Frag) : OpD W K (rI0 fun i j => .bl (decide (j ≤ i))) (fIB fun i j => decide (j ≤ i)) := opD_I0 fun i j _ => .bl _

/-! ## arguments, displays -/
def mNil : AM := fun _ post _ => post []
def mCons (a : EM) (r : AM) : AM := fun δ post ex => a δ (fun x => r δ (fun xs => post (x :: xs)) ex) ex
variable {es : List Expr} {m : AM}
theorem ax_nil : AX X E [] mNil := ⟨_, pa_nil, fun W σ H Q δ post ex hs ok hm hq _ => hq [] H [] (.refl ok) .nil hm⟩
theorem ax_cons (h : PX X E a ma) (k : AX X E es m) (st : starEach (a :: es) X.env = (false, eval a X.env) :: starEach es X.env := by rfl) : AX X E (a :: es) (mCons ma m) := by
  obtain ⟨t, p, e⟩ := h
  obtain ⟨u, q, f⟩ := k
  refine ⟨_, pa_cons p q st, fun W σ H Q δ post ex hs ok hm hq lx => ?_⟩
  refine e W σ H _ δ _ ex hs ok hm ?_ lx
  intro v H1 d r1 hv hm
  refine f W σ H1 _ δ _ ex (hs.R r1) r1.ok hm ?_ (lx.R r1)
  intro vs H2 ds r2 hvs hp
  exact hq (v :: vs) H2 (d :: ds) (r1.trans r2) (.cons (hv.R r2) hvs) hp
def mTup (m : AM) : EM := fun δ post ex => m δ (fun ds => ds.length ≤ 16777216 ∧ post (.tup ds)) ex
def mLst (m : AM) : EM := fun δ post ex => m δ (fun ds => ds.length ≤ 16777216 ∧ post (.lst ds)) ex
theorem px_tup {j} (h : AX X E es m) : PX X E (.Tuple es j pos) (mTup m) := by
  obtain ⟨u, q, f⟩ := h
  refine ⟨_, pe_tup q, fun W σ H Q δ post ex hs ok hm hq lx => ?_⟩
  refine f W σ H _ δ _ ex hs ok hm ?_ lx
  rintro vs H1 ds r1 hv ⟨hl, hp⟩
  refine ⟨sizeLe (by rw [hv.length]; exact hl), fun p hpn => ?_⟩
  exact hq _ _ _ (r1.trans (R_new r1.ok hpn)) (da_newT r1.ok hpn hv) hp
theorem px_lst (h : AX X E es m) : PX X E (.List es pos) (mLst m) := by
  obtain ⟨u, q, f⟩ := h
  refine ⟨_, pe_lst q, fun W σ H Q δ post ex hs ok hm hq lx => ?_⟩
  refine f W σ H _ δ _ ex hs ok hm ?_ lx
  rintro vs H1 ds r1 hv ⟨hl, hp⟩
  refine ⟨sizeLe (by rw [hv.length]; exact hl), fun p hpn => ?_⟩
  exact hq _ _ _ (r1.trans (R_new r1.ok hpn)) (da_new r1.ok hpn hv) hp
end
end Fw
/-! # FwRun4: calls of built-ins, items, slices, comprehensions, attributes of errors -/
namespace Fw
open PySem PySem.Spec PyProof.Rows L2
open Evl (Ex)
variable [TabsOf]
def CaD (W : Wld) (K : PySem.W.Frag) (r : List V → Hp → VK → Prop) (f : List D → D → Prop) : Prop := ∀ H xs ds z (Q : VK), W.ok H → Das W K (W.cut H) xs ds → f ds z →
  (∀ v H', W.R H H' → Da W K (W.cut H') v z → Q v H') → r xs H Q
def mCB (f : List D → D → Prop) (m : AM) : EM := fun δ post ex => m δ (fun ds => ∃ z, f ds z ∧ post z) ex
theorem evo_cb {W : Wld} {K : PySem.W.Frag} {E : XK} {r : List V → Hp → VK → Prop} {f : List D → D → Prop} {t : TA} {m : AM} (hr : CaD W K r f) (h : EvA W K E t m) : EvO W K E (tCB r t) (mCB f m) := by
  intro σ H Q δ post ex hs ok hm hq lx
  refine h σ H _ δ _ ex hs ok hm ?_ lx
  rintro vs H1 ds r1 hv ⟨z, hf, hp⟩
  exact hr H1 vs ds z Q r1.ok hv hf fun v H2 r2 hw => hq v H2 z (r1.trans r2) hw hp
section
variable {X : Cx} {E : XK} {x : Str} {id T : String} {r : List V → Hp → VK → Prop} {f : List D → D → Prop} {e : Expr} {es : List Expr} {m : AM} {p pos : Pos}
theorem px_callB (hc : CallR X (.builtin id) r) (hr : ∀ W, CaD W X.K r f) (hg : Gl X x) (hm : X.mg x = none) (hv : bootBuiltins x = some (.builtin id)) (ha : AX X E (e :: es) m)
    (hn : x ≠ "__name__" := by decide) (hdb : (x == ("__debug__" : Str)) = false := by decide)
    (he : starEach (e :: es) X.env = (false, eval e X.env) :: starEach es X.env := by rfl) (hpl : (backTo pos (starEach es X.env)).any (·.1) = false := by rfl) :
    PX X E (.Call (.Name x p) (e :: es) [] pos) (mCB f m) := by
  obtain ⟨t, q, ev⟩ := ha
  exact ⟨_, pe_callB hc hg hm hv q hn hdb he hpl, fun W => evo_cb (hr W) (ev W)⟩
theorem px_callTy (hc : CallR X (.type T) r) (hr : ∀ W, CaD W X.K r f) (hg : Gl X x) (hm : X.mg x = none) (hv : bootBuiltins x = some (.type T)) (ha : AX X E (e :: es) m)
    (hn : x ≠ "__name__" := by decide) (hdb : (x == ("__debug__" : Str)) = false := by decide)
    (he : starEach (e :: es) X.env = (false, eval e X.env) :: starEach es X.env := by rfl) (hpl : (backTo pos (starEach es X.env)).any (·.1) = false := by rfl) :
    PX X E (.Call (.Name x p) (e :: es) [] pos) (mCB f m) := by
  obtain ⟨t, q, ev⟩ := ha
  exact ⟨_, pe_callTy hc hg hm hv q hn hdb he hpl, fun W => evo_cb (hr W) (ev W)⟩
end

/-! ## what type data are of -/
def tyn : D → String
  | .non => "NoneType" | .bl _ => "bool" | .int _ => "int" | .str _ => "str" | .lst _ => "list" | .tup _ => "tuple" | .dic _ _ => "dict" | .err _ _ => "" | .drw => "dict" | .scr _ => "list" | .pin _ => ""
def isErr : D → Bool
  | .err _ _ => true
  | .pin _ => true
  | _ => false
theorem da_ty {W : Wld} {K : PySem.W.Frag} {H : Hp} {v : V} {d : D} (ok : W.ok H) (h : Da W K (W.cut H) v d) (ne : isErr d = false) : TyX K H v (.type (tyn d)) := by
  cases h with
  | non => exact .base .non
  | bl b => exact .base (.bl b)
  | int i => exact .base (.int i)
  | str x => exact .base (.str x)
  | lst h r => exact .base (.lst (cut_sub _ _ h))
  | tup h r =>
    rcases Evl.ex_t cut_sub h with (h | ⟨o, h⟩) | ⟨o, its, n, h, hc, _⟩
    · exact .base (.tup h)
    · exact .fTuple h
    · exact .kTuple h hc
  | dic h h2 h3 => exact .base (.dK (cut_sub _ _ h))
  | err h r => cases ne
  | pin => cases ne
  | drw h =>
    obtain ⟨_, _, _, hd, _⟩ := ok.dr _ _ _ h
    exact .base (.dK hd)
  | scr h =>
    rcases Evl.ex_l cut_sub h with (h | ⟨o, h⟩) | ⟨o, its, n, h, hc, _⟩
    · exact .base (.lst h)
    · exact .base (.frz h)
    · exact .kList h hc
/-- isinstance(x, T), T a built-in class -/
def mIsi (T : String) (a : EM) : EM := fun δ post ex => a δ (fun x => isErr x = false ∧ ∃ b, kitB (tyn x) T = some b ∧ post (.bl b)) ex
/-- isinstance(x, (T1, T2)) -/
def mIsi2 (T1 T2 : String) (a : EM) : EM := fun δ post ex => a δ (fun x => isErr x = false ∧ ∃ b c, kitB (tyn x) T1 = some b ∧ kitB (tyn x) T2 = some c ∧ post (.bl (b || c))) ex
section
variable {X : Cx} {E : XK} {a : Expr} {ma : EM} {y y2 : Str} {T T2 : String} {p p2 p3 p4 pos : Pos}
theorem px_isi (hg : Gl X "isinstance") (hm : X.mg "isinstance" = none) (hy : Gl X y) (my : X.mg y = none) (vy : bootBuiltins y = some (.type T)) (ha : PX X E a ma)
    (st : starEach [a, .Name y p2] X.env = (false, eval a X.env) :: starEach [.Name y p2] X.env := by rfl)
    (st2 : starEach [.Name y p2] X.env = (false, eval (.Name y p2) X.env) :: starEach [] X.env := by rfl)
    (hny : y ≠ "__name__" := by decide) (hdy : (y == ("__debug__" : Str)) = false := by decide)
    (hpl : (backTo pos (starEach [.Name y p2] X.env)).any (·.1) = false := by rfl) :
    PX X E (.Call (.Name "isinstance" p) [a, .Name y p2] [] pos) (mIsi T ma) := by
  obtain ⟨t, q, ev⟩ := ha
  refine ⟨_, pe_callB call_isi hg hm (by decide +kernel) (pa_cons q (pa_cons (pe_bltn hy my vy (v := .ty T) rfl (hn := hny) (hd := hdy)) pa_nil st2) st) (by decide) (by decide) st hpl, fun W σ H Q δ post ex hs ok hm hq lx => ?_⟩
  refine ev W σ H _ δ _ ex hs ok hm ?_ lx
  rintro v H1 d r1 hv ⟨ne, b, hb, hp⟩
  exact ⟨v, .ty T, _, _, b, rfl, .ty T, da_ty r1.ok hv ne, kit_ty hb, hq _ H1 _ r1 (.bl b) hp⟩
theorem px_isi2 {j} (hg : Gl X "isinstance") (hm : X.mg "isinstance" = none) (hy : Gl X y) (my : X.mg y = none) (vy : bootBuiltins y = some (.type T))
    (hy2 : Gl X y2) (my2 : X.mg y2 = none) (vy2 : bootBuiltins y2 = some (.type T2)) (ha : PX X E a ma)
    (st : starEach [a, .Tuple [.Name y p2, .Name y2 p3] j p4] X.env = (false, eval a X.env) :: starEach [.Tuple [.Name y p2, .Name y2 p3] j p4] X.env := by rfl)
    (st2 : starEach [.Tuple [.Name y p2, .Name y2 p3] j p4] X.env = (false, eval (.Tuple [.Name y p2, .Name y2 p3] j p4) X.env) :: starEach [] X.env := by rfl)
    (st3 : starEach [.Name y p2, .Name y2 p3] X.env = (false, eval (.Name y p2) X.env) :: starEach [.Name y2 p3] X.env := by rfl)
    (st4 : starEach [.Name y2 p3] X.env = (false, eval (.Name y2 p3) X.env) :: starEach [] X.env := by rfl)
    (hny : y ≠ "__name__" := by decide) (hdy : (y == ("__debug__" : Str)) = false := by decide)
    (hny2 : y2 ≠ "__name__" := by decide) (hdy2 : (y2 == ("__debug__" : Str)) = false := by decide)
    (hpl : (backTo pos (starEach [.Tuple [.Name y p2, .Name y2 p3] j p4] X.env)).any (·.1) = false := by rfl) :
    PX X E (.Call (.Name "isinstance" p) [a, .Tuple [.Name y p2, .Name y2 p3] j p4] [] pos) (mIsi2 T T2 ma) := by
  obtain ⟨t, q, ev⟩ := ha
  refine ⟨_, pe_callB call_isiT hg hm (by decide +kernel) (pa_cons q (pa_cons (pe_tup (pa_cons (pe_bltn hy my vy (v := .ty T) rfl (hn := hny) (hd := hdy)) (pa_cons (pe_bltn hy2 my2 vy2 (v := .ty T2) rfl (hn := hny2) (hd := hdy2)) pa_nil st4) st3)) pa_nil st2) st) (by decide) (by decide) st hpl, fun W σ H Q δ post ex hs ok hm hq lx => ?_⟩
  refine ev W σ H _ δ _ ex hs ok hm ?_ lx
  rintro v H1 d r1 hv ⟨ne, b, c, hb, hc, hp⟩
  refine ⟨by show 2 ≤ sizeLine; decide, fun tp htp => ?_⟩
  have r2 : W.R H1 (upd H1 tp (.tup [.ty T, .ty T2])) := R_new r1.ok htp
  refine ⟨v, tp, [.ty T, .ty T2], _, [.type T, .type T2], b || c, rfl, upd_same, .cons (.ty T) (.cons (.ty T2) .nil), da_ty r2.ok (hv.R r2) ne, ?_, hq _ _ _ (r1.trans r2) (.bl _) hp⟩
  refine kitAny_cons (kit_ty hb) (fun e => ?_) (fun e => by rw [e, Bool.true_or])
  subst e
  refine kitAny_cons (kit_ty hc) (fun e => ?_) (fun e => by rw [e, Bool.or_true])
  rw [e]
  exact kitAny_nil
end

/-! ## len, abs, int, min, max, all, any, tuple, list -/
def lenD : D → Option Nat
  | .lst ds => some ds.length
  | .tup ds => some ds.length
  | .scr ns => some ns.length
  | .str x => if x.length ≤ 16777216 then some x.length else none
  | _ => none
def fLen (ds : List D) (z : D) : Prop := ∃ x n, ds = [x] ∧ lenD x = some n ∧ z = .int (n : Nat)
theorem caD_len {W : Wld} {K : PySem.W.Frag} : CaD W K (fun xs H Q => ∃ x n, xs = [x] ∧ LenV K x H n ∧ Q (.int n) H) fLen := by
  rintro H xs ds z Q ok hx ⟨d, n, rfl, hl, rfl⟩ q
  cases hx with
  | cons h r =>
    cases r
    refine ⟨_, n, rfl, ?_, q _ H (.refl ok) (.int _)⟩
    cases h <;> first
      | (cases hl; done)
      | skip
    case str x =>
      have hl : (if x.length ≤ 16777216 then some x.length else none) = some n := hl
      split at hl
      · cases hl
        exact ⟨sizeLe (by assumption), rfl⟩
      · cases hl
    case lst h r =>
      cases hl
      exact .inl ⟨_, Evl.sq_of (cut_sub _ _ h), r.length.symm⟩
    case tup h r =>
      cases hl
      exact .inr ⟨_, Evl.ex_t cut_sub h, r.length.symm⟩
    case scr h =>
      cases hl
      exact .inl ⟨_, Evl.ex_l cut_sub h, by rw [List.length_map]⟩
def fAbs (ds : List D) (z : D) : Prop := ∃ i, ds = [.int i] ∧ z = .int (if i < 0 then -i else i)
def fInt (ds : List D) (z : D) : Prop := ∃ i, ds = [.int i] ∧ z = .int i
def fMin (ds : List D) (z : D) : Prop := ∃ i j, ds = [.int i, .int j] ∧ z = .int (if j < i then j else i)
def fMax (ds : List D) (z : D) : Prop := ∃ i j, ds = [.int i, .int j] ∧ z = .int (if j > i then j else i)
theorem das_int1 {W : Wld} {K : PySem.W.Frag} {H : Hp} {xs : List V} {i : Int} (h : Das W K H xs [.int i]) : xs = [.int i] := by
  cases h with
  | cons h r => cases r; cases h; rfl
theorem das_int2 {W : Wld} {K : PySem.W.Frag} {H : Hp} {xs : List V} {i j : Int} (h : Das W K H xs [.int i, .int j]) : xs = [.int i, .int j] := by
  cases h with
  | cons h r => rw [das_int1 r]; cases h; rfl
theorem das_bls {W : Wld} {K : PySem.W.Frag} {H : Hp} : ∀ {bs : List Bool} {xs : List V}, Das W K H xs (bs.map D.bl) → xs = bs.map V.bl
  | [], _, .nil => rfl
  | b :: bs, _, .cons h r => by
    cases h
    rw [das_bls r]
    rfl
def fAll (ds : List D) (z : D) : Prop := ∃ bs : List Bool, ds = [.lst (bs.map D.bl)] ∧ z = .bl (bs.all id)
def fAny (ds : List D) (z : D) : Prop := ∃ bs : List Bool, ds = [.lst (bs.map D.bl)] ∧ z = .bl (bs.any id)
def fTuple (ds : List D) (z : D) : Prop := ∃ x xs, ds = [x] ∧ itemsD x = some xs ∧ z = .tup xs
def fList (ds : List D) (z : D) : Prop := ∃ x xs, ds = [x] ∧ itemsD x = some xs ∧ z = .lst xs
section
variable {X : Cx} {E : XK} {e e2 : Expr} {m : AM} {p pos : Pos}
theorem px_len (hg : Gl X "len") (hm : X.mg "len" = none) (ha : AX X E [e] m) (he : starEach [e] X.env = (false, eval e X.env) :: starEach [] X.env := by rfl) (hpl : (backTo pos (starEach [] X.env)).any (·.1) = false := by rfl) :
    PX X E (.Call (.Name "len" p) [e] [] pos) (mCB fLen m) := px_callB call_len (fun _ => caD_len) hg hm (by decide +kernel) ha (by decide) (by decide) he hpl
theorem px_abs (hg : Gl X "abs") (hm : X.mg "abs" = none) (ha : AX X E [e] m) (he : starEach [e] X.env = (false, eval e X.env) :: starEach [] X.env := by rfl) (hpl : (backTo pos (starEach [] X.env)).any (·.1) = false := by rfl) :
    PX X E (.Call (.Name "abs" p) [e] [] pos) (mCB fAbs m) := px_callB call_abs (fun W => by
  rintro H xs ds z Q ok hx ⟨i, rfl, rfl⟩ q
  exact ⟨i, das_int1 hx, q _ H (.refl ok) (.int _)⟩) hg hm (by decide +kernel) ha (by decide) (by decide) he hpl
theorem px_toInt (hg : Gl X "int") (hm : X.mg "int" = none) (ha : AX X E [e] m) (he : starEach [e] X.env = (false, eval e X.env) :: starEach [] X.env := by rfl) (hpl : (backTo pos (starEach [] X.env)).any (·.1) = false := by rfl) :
    PX X E (.Call (.Name "int" p) [e] [] pos) (mCB fInt m) := px_callTy call_int1 (fun W => by
  rintro H xs ds z Q ok hx ⟨i, rfl, rfl⟩ q
  exact .inl ⟨i, das_int1 hx, q _ H (.refl ok) (.int _)⟩) hg hm (by decide +kernel) ha (by decide) (by decide) he hpl
theorem px_min (hc : X.calm = true) (hg : Gl X "min") (hm : X.mg "min" = none) (ha : AX X E [e, e2] m) (he : starEach [e, e2] X.env = (false, eval e X.env) :: starEach [e2] X.env := by rfl) (hpl : (backTo pos (starEach [e2] X.env)).any (·.1) = false := by rfl) :
    PX X E (.Call (.Name "min" p) [e, e2] [] pos) (mCB fMin m) := px_callB (call_min2 hc) (fun W => by
  rintro H xs ds z Q ok hx ⟨i, j, rfl, rfl⟩ q
  exact ⟨i, j, das_int2 hx, q _ H (.refl ok) (.int _)⟩) hg hm (by decide +kernel) ha (by decide) (by decide) he hpl
theorem px_max (hc : X.calm = true) (hg : Gl X "max") (hm : X.mg "max" = none) (ha : AX X E [e, e2] m) (he : starEach [e, e2] X.env = (false, eval e X.env) :: starEach [e2] X.env := by rfl) (hpl : (backTo pos (starEach [e2] X.env)).any (·.1) = false := by rfl) :
    PX X E (.Call (.Name "max" p) [e, e2] [] pos) (mCB fMax m) := px_callB (call_max2 hc) (fun W => by
  rintro H xs ds z Q ok hx ⟨i, j, rfl, rfl⟩ q
  exact ⟨i, j, das_int2 hx, q _ H (.refl ok) (.int _)⟩) hg hm (by decide +kernel) ha (by decide) (by decide) he hpl
theorem das_lst1 {W : Wld} {K : PySem.W.Frag} {H : Hp} {xs : List V} {ds : List D} (h : Das W K H xs [.lst ds]) : ∃ a ys, xs = [.ref a] ∧ H a = some (.lst ys) ∧ Das W K H ys ds := by
  cases h with
  | cons h r =>
    cases r
    cases h with
    | lst h1 h2 => exact ⟨_, _, rfl, h1, h2⟩
theorem px_all (hc : X.calm = true) (hg : Gl X "all") (hm : X.mg "all" = none) (ha : AX X E [e] m) (he : starEach [e] X.env = (false, eval e X.env) :: starEach [] X.env := by rfl) (hpl : (backTo pos (starEach [] X.env)).any (·.1) = false := by rfl) :
    PX X E (.Call (.Name "all" p) [e] [] pos) (mCB fAll m) := px_callB (cr_all hc) (fun W => by
  rintro H xs ds z Q ok hx ⟨bs, rfl, rfl⟩ q
  obtain ⟨a, ys, rfl, h1, h2⟩ := das_lst1 hx
  rw [das_bls h2] at h1
  exact ⟨a, bs, rfl, Evl.sq_of (cut_sub _ _ h1), q _ H (.refl ok) (.bl _)⟩) hg hm (by decide +kernel) ha (by decide) (by decide) he hpl
theorem px_any (hc : X.calm = true) (hg : Gl X "any") (hm : X.mg "any" = none) (ha : AX X E [e] m) (he : starEach [e] X.env = (false, eval e X.env) :: starEach [] X.env := by rfl) (hpl : (backTo pos (starEach [] X.env)).any (·.1) = false := by rfl) :
    PX X E (.Call (.Name "any" p) [e] [] pos) (mCB fAny m) := px_callB (cr_any hc) (fun W => by
  rintro H xs ds z Q ok hx ⟨bs, rfl, rfl⟩ q
  obtain ⟨a, ys, rfl, h1, h2⟩ := das_lst1 hx
  rw [das_bls h2] at h1
  exact ⟨a, bs, rfl, Evl.sq_of (cut_sub _ _ h1), q _ H (.refl ok) (.bl _)⟩) hg hm (by decide +kernel) ha (by decide) (by decide) he hpl
theorem px_tuple (hg : Gl X "tuple") (hm : X.mg "tuple" = none) (ha : AX X E [e] m) (he : starEach [e] X.env = (false, eval e X.env) :: starEach [] X.env := by rfl) (hpl : (backTo pos (starEach [] X.env)).any (·.1) = false := by rfl) :
    PX X E (.Call (.Name "tuple" p) [e] [] pos) (mCB fTuple m) := px_callTy call_tuple_of (fun W => by
  rintro H xs ds z Q ok hx ⟨x, ys, rfl, hi, rfl⟩ q
  cases hx with
  | cons h r =>
    cases r
    cases h <;> first
      | (cases hi; done)
      | skip
    case lst h r =>
      cases hi
      exact ⟨_, _, rfl, .inl ⟨Evl.sq_of (cut_sub _ _ h), fun l hl => q _ _ (R_new ok hl) (da_newT ok hl r)⟩⟩
    case tup h r =>
      cases hi
      exact ⟨_, _, rfl, .inr ⟨Evl.ex_t cut_sub h, q _ H (.refl ok) (.tup h r)⟩⟩) hg hm (by decide +kernel) ha (by decide) (by decide) he hpl
theorem px_list (hg : Gl X "list") (hm : X.mg "list" = none) (ha : AX X E [e] m) (he : starEach [e] X.env = (false, eval e X.env) :: starEach [] X.env := by rfl) (hpl : (backTo pos (starEach [] X.env)).any (·.1) = false := by rfl) :
    PX X E (.Call (.Name "list" p) [e] [] pos) (mCB fList m) := px_callTy call_list_of (fun W => by
  rintro H xs ds z Q ok hx ⟨x, ys, rfl, hi, rfl⟩ q
  cases hx with
  | cons h r =>
    cases r
    cases h <;> first
      | (cases hi; done)
      | skip
    case lst h r =>
      cases hi
      exact ⟨_, _, rfl, .inl (Evl.sq_of (cut_sub _ _ h)), fun l hl => q _ _ (R_new ok hl) (da_new ok hl r)⟩
    case tup h r =>
      cases hi
      exact ⟨_, _, rfl, .inr (Evl.ex_t cut_sub h), fun l hl => q _ _ (R_new ok hl) (da_new ok hl r)⟩) hg hm (by decide +kernel) ha (by decide) (by decide) he hpl
end

/-! ## x[i] -/
theorem das_at {W : Wld} {K : PySem.W.Frag} {H : Hp} {xs : List V} {ds : List D} {i : Int} {d : D} (h : Das W K H xs ds) (e : atI ds i = some d) : ∃ v, atI xs i = some v ∧ Da W K H v d := by
  unfold atI at e ⊢
  rw [h.length]
  cases q : ixN ds.length i with
  | none =>
    rw [q] at e
    cases e
  | some j =>
    rw [q] at e
    exact h.getD e
def fIx (a b z : D) : Prop := ∃ ds i, itemsD a = some ds ∧ b = .int i ∧ atI ds i = some z
section
variable {X : Cx} {E : XK} {a b : Expr} {ma mb : EM} {pos : Pos}
theorem opD_ix {W : Wld} {K : PySem.W.Frag} : OpD W K (rIx K) fIx := by
  rintro H x y a b z Q ok hx hy ⟨ds, i, hi, rfl, hz⟩ q
  cases hy
  cases hx <;> first
    | (cases hi; done)
    | skip
  case lst h r =>
    cases hi
    obtain ⟨v, h1, h2⟩ := das_at r hz
    exact .inl ⟨_, _, i, v, rfl, rfl, Evl.sq_of (cut_sub _ _ h), h1, q _ H (.refl ok) h2⟩
  case tup h r =>
    cases hi
    obtain ⟨v, h1, h2⟩ := das_at r hz
    exact .inr (.inl ⟨_, _, i, v, rfl, rfl, Evl.ex_t cut_sub h, h1, q _ H (.refl ok) h2⟩)
theorem px_ix (ha : PX X E a ma) (hb : PX X E b mb) (hs : PlainIx b := by intro _ _; rfl) : PX X E (.Subscript a b pos) (mOp fIx ma mb) := by
  obtain ⟨t, p, e⟩ := ha
  obtain ⟨u, q, f⟩ := hb
  exact ⟨_, pe_ix ix_seq p q hs, fun W => evo_op opD_ix (e W) (f W)⟩
end
end Fw
/-! # FwRun5: targets, what is walked, statements -/
namespace Fw
open PySem PySem.Spec PyProof.Rows L2
open Evl (Ex)
variable [TabsOf]

/-! ## another world with the same draw -/
structure Wld.Sm (W W' : Wld) : Prop where
  dr : W'.dr = W.dr
  cells : W'.cells = W.cells
  tb : W'.tb = W.tb
theorem Wld.Sm.refl (W : Wld) : W.Sm W := ⟨rfl, rfl, rfl⟩
mutual
theorem Da.sm {W W' : Wld} {K : PySem.W.Frag} {H : Hp} (s : W.Sm W') : ∀ {v : V} {d : D}, Da W K H v d → Da W' K H v d
  | _, _, .non => .non
  | _, _, .bl b => .bl b
  | _, _, .int i => .int i
  | _, _, .str x => .str x
  | _, _, .lst h r => .lst h (Das.sm s r)
  | _, _, .tup h r => .tup h (Das.sm s r)
  | _, _, .dic h1 h2 h3 => .dic h1 h2 (Das.sm s h3)
  | _, _, .err h r => .err h (Das.sm s r)
  | _, _, .drw h => .drw (s.dr.trans h)
  | _, _, .scr h => .scr h
  | _, _, .pin => .pin
theorem Das.sm {W W' : Wld} {K : PySem.W.Frag} {H : Hp} (s : W.Sm W') : ∀ {vs : List V} {ds : List D}, Das W K H vs ds → Das W' K H vs ds
  | _, _, .nil => .nil
  | _, _, .cons h r => .cons (Da.sm s h) (Das.sm s r)
end
theorem SL.sm {W W' : Wld} {K : PySem.W.Frag} {σ : L2.St} {H H' : Hp} {δ : Env} (s : W.Sm W') (e : Ex (W.cut H) (W'.cut H')) (h : SL W K σ H δ) : SL W' K σ H' δ :=
  ⟨h.len, s.tb.trans h.tb, fun i d q => let ⟨v, h1, h2⟩ := h.at_ i d q; ⟨v, h1, (h2.sm s).up e⟩⟩

/-! ## targets -/
abbrev GM := D → Env → (Env → Prop) → Prop
def EvG (W : Wld) (K : PySem.W.Frag) (t : TG) (g : GM) : Prop := ∀ v d σ H (Q : L2.St → Hp → Prop) δ k, SL W K σ H δ → W.ok H → Da W K (W.cut H) v d → g d δ k →
  (∀ σ' δ', SL W K σ' H δ' → k δ' → Q σ' H) → t v σ H Q
def GX (X : Cx) (tg : Expr) (g : GM) : Prop := ∃ t, PG X tg t ∧ ∀ W, EvG W X.K t g
abbrev GMs := List D → Env → (Env → Prop) → Prop
def EvGs (W : Wld) (K : PySem.W.Frag) (t : TGs) (g : GMs) : Prop := ∀ vs ds σ H (Q : L2.St → Hp → Prop) δ k, SL W K σ H δ → W.ok H → Das W K (W.cut H) vs ds → g ds δ k →
  (∀ σ' δ', SL W K σ' H δ' → k δ' → Q σ' H) → t vs σ H Q
def GXs (X : Cx) (tgs : List Expr) (g : GMs) : Prop := ∃ t, PGs X tgs t ∧ ∀ W, EvGs W X.K t g
def gNm (i : Nat) : GM := fun d δ k => k (δ.set i (some d))
def gNl : GMs := fun ds δ k => ds = [] ∧ k δ
def gCn (g : GM) (r : GMs) : GMs := fun ds δ k => ∃ d es, ds = d :: es ∧ g d δ fun δ' => r es δ' k
def gTp (n : Nat) (r : GMs) : GM := fun d δ k => ∃ ds, d = .tup ds ∧ ds.length = n ∧ r ds δ k
section
variable {X : Cx} {x : Str} {pos : Pos} {e : Expr} {es : List Expr} {g : GM} {r : GMs} {n : Nat}
theorem gx_name (i : Nat) (hN : X.N.Nodup) (hi : X.N[i]? = some x := by rfl)
    (hx : Loc X.env.scope x := by first | exact Or.inl rfl | exact Or.inr rfl)
    (hf : X.fn x = true ∨ X.env.scope.names.lookup x = some .local := by first | exact .inl rfl | exact .inr rfl | assumption) : GX X (.Name x pos) (gNm i) :=
  ⟨_, pg_name hN hi hx hf, fun W v d σ H Q δ k hs ok hv hk hq => hq _ _ (hs.set i hv) hk⟩
theorem gxs_nil : GXs X [] gNl := ⟨_, pgs_nil, fun W vs ds σ H Q δ k hs ok hv ⟨e, hk⟩ hq => by
  subst e
  cases hv
  exact ⟨rfl, hq _ _ hs hk⟩⟩
theorem gxs_cons (h : GX X e g) (k : GXs X es r)
    (hs : (assignEach (e :: es) X.env).map (·.2) = assign e X.env :: (assignEach es X.env).map (·.2) := by rfl) : GXs X (e :: es) (gCn g r) := by
  obtain ⟨t, p, f⟩ := h
  obtain ⟨u, q, f2⟩ := k
  refine ⟨_, pgs_cons p q hs, fun W vs ds σ H Q δ k hs ok hv hk hq => ?_⟩
  obtain ⟨d, es, rfl, hk⟩ := hk
  cases hv with
  | cons h1 h2 =>
    refine ⟨_, _, rfl, f W _ d σ H _ δ _ hs ok h1 hk fun σ' δ' hs' hk' => ?_⟩
    exact f2 W _ es σ' H Q δ' k hs' ok h2 hk' hq
theorem gx_tup {j : Nat} (hc : X.calm = true) (h : GXs X es r) (hn : (assignEach es X.env).length = n := by rfl) (hst : (assignEach es X.env).findIdx? (·.1) = none := by rfl) : GX X (.Tuple es j pos) (gTp n r) := by
  obtain ⟨u, q, f⟩ := h
  refine ⟨_, pg_tup hc q hn hst, fun W v d σ H Q δ k hs ok hv hk hq => ?_⟩
  obtain ⟨ds, rfl, hl, hk⟩ := hk
  cases hv with
  | tup h1 h2 => exact ⟨_, _, rfl, Evl.ex_t cut_sub h1, h2.length.trans hl, f W _ ds σ H Q δ k hs ok h2 hk hq⟩
end

/-! ## what is walked -/
/-- the iterator gives these data, one after another, wherever one stands behind H0 -/
def Src (W : Wld) (K : PySem.W.Frag) (J : It) (ds : List D) (H0 : Hp) : Prop := ∀ (W' : Wld) (H : Hp), W.Sm W' → W'.ok H → Ex (W.cut H0) (W'.cut H) →
  (∀ i d, ds[i]? = some d → J.go i H ∧ ∀ x H', J.yld i H x H' → W'.R H H' ∧ Da W' K (W'.cut H') x d) ∧ ∀ i, ds.length ≤ i → J.stop i H
abbrev IM := Env → (List D → Prop) → (EX → Prop) → Prop
def EvI (W : Wld) (K : PySem.W.Frag) (E : XK) (t : TI) (m : IM) : Prop := ∀ σ H R δ post ex, SL W K σ H δ → W.ok H → m δ post ex →
  (∀ J H' ds, W.R H H' → Src W K J ds H' → post ds → R J H') → XLink W K H E ex → t σ H R
def IX (X : Cx) (E : XK) (tg it : Expr) (m : IM) : Prop := ∃ t, PI X tg it t ∧ ∀ W, EvI W X.K E t m
def iSeqT (K : PySem.W.Frag) (tl : TE) : TI := fun σ H R => tl σ H fun x H1 => ∃ a, x = .ref a ∧
  (((∃ xs, SqL K H1 a xs) ∧ R (Itl K a) H1) ∨ ((∃ xs, SqT K H1 a xs) ∧ R (Itt K a) H1))
def iSq (m : EM) : IM := fun δ post ex => m δ (fun d => ∃ ds, itemsD d = some ds ∧ post ds) ex
def iScr (m : EM) : IM := fun δ post ex => m δ (fun d => ∃ ns : List Int, d = .scr ns ∧ post (ns.map D.int)) ex
def iRange (m : AM) : IM := fun δ post ex => m δ (fun ds => ∃ n : Int, ds = [.int n] ∧ (-(2 ^ 62) ≤ n ∧ n < 2 ^ 62) ∧ post ((List.range n.toNat).map fun (k : Nat) => D.int k)) ex
def iRange2 (m : AM) : IM := fun δ post ex => m δ (fun ds => ∃ lo hi : Int, ds = [.int lo, .int hi] ∧ (-(2 ^ 62) ≤ lo ∧ lo < 2 ^ 62 ∧ -(2 ^ 62) ≤ hi ∧ hi < 2 ^ 62) ∧ post ((List.range (hi - lo).toNat).map fun (k : Nat) => D.int (lo + k))) ex
section
variable {X : Cx} {E : XK} {tg l : Expr} {m : EM}
theorem pi_seq {tl : TE} (hl : PE X l tl) : PI X tg l (iSeqT X.K tl) := by
  constructor
  intro pins s σ H R I h
  refine thn (hl.run pins s σ H _ I h) ?_
  rintro v s1 ⟨x, H1, I1, r1, a, rfl, ⟨⟨xs, hq⟩, q⟩ | ⟨⟨xs, hq⟩, q⟩⟩
  · cases r1
    obtain ⟨its, rv, p, hz⟩ := I1.list hq
    refine wpAny_pyIter_list p.isList ⟨s1.heap.objs.size, [s1.heap.objs.size], _, _, H1, rfl, ?_, turn_list a _, ⟨_, Heap.get?_push_size _ rfl, rfl, rfl⟩, ?_, q⟩
    · exact I1.kept (t' := s1.toks) fun b o e => Heap.get?_push_of_some _ e
    · intro b hb
      rw [List.mem_singleton.mp hb]
      exact I1.fpOk (Nat.le_refl _) (I1.hok.fresh (Nat.le_refl _))
  · cases r1
    obtain ⟨its, rv, p, hz⟩ := I1.tuple hq
    refine wpAny_pyIter_tuple (show s1.heap.IsTuple a its.toArray from p) ⟨s1.heap.objs.size, [s1.heap.objs.size], _, _, H1, rfl, ?_, turn_tuple a _, ⟨_, Heap.get?_push_size _ rfl, rfl, rfl⟩, ?_, q⟩
    · exact I1.kept (t' := s1.toks) fun b o e => Heap.get?_push_of_some _ e
    · intro b hb
      rw [List.mem_singleton.mp hb]
      exact I1.fpOk (Nat.le_refl _) (I1.hok.fresh (Nat.le_refl _))
theorem src_lst {W : Wld} {K : PySem.W.Frag} {H0 : Hp} {a : Addr} {xs : List V} {ds : List D} (h : W.cut H0 a = some (.lst xs)) (r : Das W K (W.cut H0) xs ds) : Src W K (Itl K a) ds H0 := by
  intro W' H sm ok e
  have h1 : H a = some (.lst xs) := cut_sub _ _ (e _ _ h)
  have rr := (r.sm sm).up e
  refine ⟨fun i d hd => ?_, fun i hi => ⟨xs, Evl.sq_of h1, by rw [r.length]; exact hi⟩⟩
  obtain ⟨v, hv, hda⟩ := rr.getD hd
  refine ⟨⟨xs, v, Evl.sq_of h1, hv⟩, fun x H' => ?_⟩
  rintro ⟨rfl, hx⟩
  have := hx xs (Evl.sq_of h1)
  rw [hv] at this
  cases this
  exact ⟨.refl ok, hda⟩
theorem src_tup {W : Wld} {K : PySem.W.Frag} {H0 : Hp} {a : Addr} {xs : List V} {ds : List D} (h : SqT K (W.cut H0) a xs) (r : Das W K (W.cut H0) xs ds) : Src W K (Itt K a) ds H0 := by
  intro W' H sm ok e
  have h1 : SqT K H a xs := Evl.ex_t cut_sub (Evl.ex_t e h)
  have rr := (r.sm sm).up e
  refine ⟨fun i d hd => ?_, fun i hi => ⟨xs, h1, by rw [r.length]; exact hi⟩⟩
  obtain ⟨v, hv, hda⟩ := rr.getD hd
  refine ⟨⟨xs, v, h1, hv⟩, fun x H' => ?_⟩
  rintro ⟨rfl, hx⟩
  have := hx xs h1
  rw [hv] at this
  cases this
  exact ⟨.refl ok, hda⟩
theorem src_scr {W : Wld} {K : PySem.W.Frag} {H0 : Hp} {a : Addr} {ns : List Int} (h : SqL K (W.cut H0) a (ns.map V.int)) : Src W K (Itl K a) (ns.map D.int) H0 := by
  intro W' H sm ok e
  have h1 : SqL K H a (ns.map V.int) := Evl.ex_l cut_sub (Evl.ex_l e h)
  refine ⟨fun i d hd => ?_, fun i hi => ⟨_, h1, by rw [List.length_map] at hi ⊢; exact hi⟩⟩
  rw [List.getElem?_map] at hd
  obtain ⟨n, hn, rfl⟩ := Option.map_eq_some_iff.mp hd
  have hv : (ns.map V.int)[i]? = some (.int n) := by rw [List.getElem?_map, hn]; rfl
  refine ⟨⟨_, _, h1, hv⟩, fun x H' => ?_⟩
  rintro ⟨rfl, hx⟩
  have := hx _ h1
  rw [hv] at this
  cases this
  exact ⟨.refl ok, .int n⟩
theorem src_range {W : Wld} {K : PySem.W.Frag} {H0 : Hp} {lo : Int} {n : Nat} : Src W K (Itr lo n) ((List.range n).map fun (k : Nat) => D.int (lo + k)) H0 := by
  intro W' H sm ok e
  refine ⟨fun i d hd => ?_, fun i hi => ?_⟩
  · rw [List.getElem?_map] at hd
    obtain ⟨k, hk, rfl⟩ := Option.map_eq_some_iff.mp hd
    have hl : i < n := by
      have := (List.getElem?_eq_some_iff.mp hk).1
      simpa using this
    rw [List.getElem?_range hl] at hk
    cases hk
    refine ⟨hl, fun x H' => ?_⟩
    rintro ⟨rfl, rfl⟩
    exact ⟨.refl ok, .int _⟩
  · rw [List.length_map, List.length_range] at hi
    exact hi
theorem ix_sq (h : PX X E l m) : IX X E tg l (iSq m) := by
  obtain ⟨t, p, e⟩ := h
  refine ⟨_, pi_seq p, fun W σ H R δ post ex hs ok hm hq lx => ?_⟩
  refine e W σ H _ δ _ ex hs ok hm ?_ lx
  rintro v H1 d r1 hv ⟨ds, hi, hp⟩
  cases hv <;> first
    | (cases hi; done)
    | skip
  case lst h r =>
    cases hi
    exact ⟨_, rfl, .inl ⟨⟨_, Evl.sq_of (cut_sub _ _ h)⟩, hq _ _ _ r1 (src_lst h r) hp⟩⟩
  case tup h r =>
    cases hi
    exact ⟨_, rfl, .inr ⟨⟨_, Evl.ex_t cut_sub h⟩, hq _ _ _ r1 (src_tup h r) hp⟩⟩
theorem ix_scr (h : PX X E l m) : IX X E tg l (iScr m) := by
  obtain ⟨t, p, e⟩ := h
  refine ⟨_, pi_seq p, fun W σ H R δ post ex hs ok hm hq lx => ?_⟩
  refine e W σ H _ δ _ ex hs ok hm ?_ lx
  rintro v H1 d r1 hv ⟨ns, rfl, hp⟩
  cases hv with
  | scr h => exact ⟨_, rfl, .inl ⟨⟨_, Evl.ex_l cut_sub h⟩, hq _ _ _ r1 (src_scr h) hp⟩⟩
theorem ix_range {a : Expr} {as : AM} {p pos : Pos} (hg : Gl X "range") (hm : X.mg "range" = none) (ha : AX X E [a] as) (hs : starEach [a] X.env = [(false, eval a X.env)] := by rfl) :
    IX X E tg (.Call (.Name "range" p) [a] [] pos) (iRange as) := by
  obtain ⟨t, q, e⟩ := ha
  refine ⟨_, pi_range1 hg hm q hs, fun W σ H R δ post ex hs ok hm hq lx => ?_⟩
  refine e W σ H _ δ _ ex hs ok hm ?_ lx
  rintro v H1 d r1 hv ⟨n, rfl, ⟨h0, hn⟩, hp⟩
  rw [das_int1 hv]
  refine ⟨n, rfl, h0, hn, hq _ _ _ r1 (src_range (lo := 0) (n := n.toNat)) ?_⟩
  simpa using hp
theorem ix_range2 {a b : Expr} {as : AM} {p pos : Pos} (hg : Gl X "range") (hm : X.mg "range" = none) (ha : AX X E [a, b] as) (hs : starEach [a, b] X.env = [(false, eval a X.env), (false, eval b X.env)] := by rfl) (hs2 : starEach [b] X.env = [(false, eval b X.env)] := by rfl) :
    IX X E tg (.Call (.Name "range" p) [a, b] [] pos) (iRange2 as) := by
  obtain ⟨t, q, e⟩ := ha
  refine ⟨_, pi_range2 hg hm q hs hs2, fun W σ H R δ post ex hs ok hm hq lx => ?_⟩
  refine e W σ H _ δ _ ex hs ok hm ?_ lx
  rintro v H1 d r1 hv ⟨lo, hi, rfl, hb, hp⟩
  rw [das_int2 hv]
  exact ⟨lo, hi, rfl, hb, hq _ _ _ r1 (src_range (lo := lo) (n := (hi - lo).toNat)) hp⟩
end

/-! ## statements -/
def sSet (i : Nat) (m : EM) : SM := fun δ F => m δ (fun d => F.nx (δ.set i (some d))) F.ex
def sTo (g : GM) (m : EM) : SM := fun δ F => m δ (fun d => g d δ F.nx) F.ex
def sDrop (m : EM) : SM := fun δ F => m δ (fun _ => F.nx δ) F.ex
def sRet (m : EM) : SM := fun δ F => m δ F.rt F.ex
def sRetN : SM := fun _ F => F.rt .non
def sNx : SM := fun δ F => F.nx δ
def sBk : SM := fun δ F => F.bk δ
def sCt : SM := fun δ F => F.ct δ
def sIf (t : TM) (a b : SM) : SM := fun δ F => t δ (fun p => if p = true then a δ F else b δ F) F.ex
def sSeq (a b : SM) : SM := fun δ F => a δ { F with nx := fun δ' => b δ' F }
/-- a for's turns over the data that are left -/
def forGo (g : GM) (body : SM) (F : SE) : List D → Env → Prop
  | [], δ => F.nx δ
  | d :: ds, δ => g d δ fun δ2 => body δ2 { F with nx := forGo g body F ds, ct := forGo g body F ds, bk := F.nx }
def sFor (it : IM) (g : GM) (body : SM) : SM := fun δ F => it δ (fun ds => forGo g body F ds δ) F.ex
/-- a while's turns, at most n of them -/
def whGo (c : TM) (body : SM) (F : SE) : Nat → Env → Prop
  | 0, _ => False
  | n + 1, δ => c δ (fun p => if p = true then body δ { F with nx := whGo c body F n, ct := whGo c body F n, bk := F.nx } else F.nx δ) F.ex
def sWhile (c : TM) (body : SM) : SM := fun δ F => ∃ n, whGo c body F n δ
section
variable {X : Cx} {E : XK} {e : Expr} {m : EM} {x : Str} {pos pos' : Pos}
theorem sx_set (i : Nat) (hN : X.N.Nodup) (he : PX X E e m) (hi : X.N[i]? = some x := by rfl)
    (hx : Loc X.env.scope x := by first | exact Or.inl rfl | exact Or.inr rfl)
    (hs : swapsWith e (some (.Name x pos')) pos.line X.env = pure false := by rfl)
    (hf : X.fn x = true ∨ X.env.scope.names.lookup x = some .local := by first | exact .inl rfl | exact .inr rfl | assumption) : SX X E (.Assign [.Name x pos'] e pos) (sSet i m) := by
  obtain ⟨t, p, ev⟩ := he
  refine ⟨_, ps_set hN hi hx p hs hf, fun W σ H Z δ F hsl ok hm l => ?_⟩
  refine ev W σ H _ δ _ F.ex hsl ok hm ?_ l.ex
  intro v H1 d r1 hv hp
  exact l.nx _ _ _ r1 ((hsl.R r1).set i hv) hp
theorem sx_to {tg : Expr} {g : GM} (he : PX X E e m) (hg : GX X tg g) (hs : swapsWithSole [tg] e pos.line X.env = pure false := by rfl)
    (hw : swappedStores [tg] e X.env = pure none := by rfl) (h1 : (assignEach [tg] X.env).map (·.2) = [assign tg X.env] := by rfl) : SX X E (.Assign [tg] e pos) (sTo g m) := by
  obtain ⟨t, p, ev⟩ := he
  obtain ⟨u, q, f⟩ := hg
  refine ⟨_, ps_asg p q hs hw h1, fun W σ H Z δ F hsl ok hm l => ?_⟩
  refine ev W σ H _ δ _ F.ex hsl ok hm ?_ l.ex
  intro v H1 d r1 hv hp
  exact f W v d σ H1 _ δ _ (hsl.R r1) r1.ok hv hp fun σ' δ' h2 hk => l.nx _ _ _ r1 h2 hk
theorem sx_expr (he : PX X E e m) (hs : swapsWith e none pos.line X.env = pure false := by rfl) : SX X E (.Expr e pos) (sDrop m) := by
  obtain ⟨t, p, ev⟩ := he
  refine ⟨_, ps_expr p hs, fun W σ H Z δ F hsl ok hm l => ?_⟩
  refine ev W σ H _ δ _ F.ex hsl ok hm ?_ l.ex
  intro v H1 d r1 hv hp
  exact l.nx _ _ _ r1 (hsl.R r1) hp
theorem sx_ret (he : PX X E e m) : SX X E (.Return (some e) pos) (sRet m) := by
  obtain ⟨t, p, ev⟩ := he
  refine ⟨_, ps_ret p, fun W σ H Z δ F hsl ok hm l => ?_⟩
  exact ev W σ H _ δ _ F.ex hsl ok hm (fun v H1 d r1 hv hp => l.rt v H1 d r1 hv hp) l.ex
theorem sx_retN : SX X E (.Return none pos) sRetN := ⟨_, ps_retN, fun W σ H Z δ F hsl ok hm l => l.rt _ H _ (.refl ok) .non hm⟩
theorem sx_pass : SX X E (.Pass pos) sNx := ⟨_, ps_pass, fun W σ H Z δ F hsl ok hm l => l.nx _ H _ (.refl ok) hsl hm⟩
theorem sx_break : SX X E (.Break pos) sBk := ⟨_, ps_break, fun W σ H Z δ F hsl ok hm l => l.bk _ H _ (.refl ok) hsl hm⟩
theorem sx_cont : SX X E (.Continue pos) sCt := ⟨_, ps_continue, fun W σ H Z δ F hsl ok hm l => l.ct _ H _ (.refl ok) hsl hm⟩
variable {c : Expr} {tc : TM} {a b : List Stmt} {sa sb : SM} {st : Stmt} {rest : List Stmt}
theorem bx_nil : BX X E [] sNx := ⟨_, pss_nil, fun W σ H Z δ F hsl ok hm l => l.nx _ H _ (.refl ok) hsl hm⟩
theorem bx_one (h : SX X E st sa) : BX X E [st] sa := let ⟨_, p, e⟩ := h; ⟨_, pss_one p, e⟩
theorem bx_cons (h : SX X E st sa) (k : BX X E rest sb) : BX X E (st :: rest) (sSeq sa sb) := by
  obtain ⟨t, p, e⟩ := h
  obtain ⟨u, q, f⟩ := k
  refine ⟨_, pss_cons p q, fun W σ H Z δ F hsl ok hm l => ?_⟩
  refine e W σ H { Z with nx := u Z } δ { F with nx := fun δ' => sb δ' F } hsl ok hm ⟨fun σ' H' δ' r hs' hk => ?_, l.rt, l.bk, l.ct, l.ex⟩
  exact f W σ' H' Z δ' F hs' r.ok hk (l.R r)
theorem sx_if (hc : TX X E c tc) (ha : BX X E a sa) (hb : BX X E b sb) : SX X E (.If c a b pos) (sIf tc sa sb) := by
  obtain ⟨t, p, e⟩ := hc
  obtain ⟨u, q, f⟩ := ha
  obtain ⟨w, r, g⟩ := hb
  refine ⟨_, ps_if p q r, fun W σ H Z δ F hsl ok hm l => ?_⟩
  refine e W σ H _ δ _ F.ex hsl ok hm ?_ l.ex
  intro p H1 r1 hp
  cases p with
  | true =>
    rw [if_pos rfl] at hp ⊢
    exact f W σ H1 Z δ F (hsl.R r1) r1.ok hp (l.R r1)
  | false =>
    rw [if_neg Bool.false_ne_true] at hp ⊢
    exact g W σ H1 Z δ F (hsl.R r1) r1.ok hp (l.R r1)
theorem sx_for {tg it : Expr} {im : IM} {g : GM} (hp : PassesOwn (model X.prog X.w) X.A X.env X.xe) (hc : X.calm = true) (hi : IX X E tg it im) (hg : GX X tg g) (hb : BX X E a sa)
    (hs : ∀ x, foldedSetIterable it X.env x = pure x := by intro _; rfl) : SX X E (.For tg it a [] pos) (sFor im g sa) := by
  obtain ⟨t, p, e⟩ := hi
  obtain ⟨u, q, f⟩ := hg
  obtain ⟨w, r, b⟩ := hb
  refine ⟨_, ps_for hp hc p q r hs, fun W σ H Z δ F hsl ok hm l => ?_⟩
  refine e W σ H _ δ _ F.ex hsl ok hm ?_ l.ex
  intro J H1 ds r1 src hgo
  refine ⟨fun i n σ' H' => n = ds.length - i ∧ i ≤ ds.length ∧ W.R H1 H' ∧ ∃ δ', SL W X.K σ' H' δ' ∧ forGo g sa F (ds.drop i) δ',
    ⟨ds.length, by simp, Nat.zero_le _, .refl r1.ok, δ, hsl.R r1, hgo⟩, ?_⟩
  rintro i n σ' H' ⟨rfl, hle, rH, δ', hs', hgo'⟩
  have sr := src W H' (.refl W) rH.ok rH.ex
  by_cases hlt : i < ds.length
  · right
    obtain ⟨d, hd⟩ : ∃ d, ds[i]? = some d := ⟨_, List.getElem?_eq_getElem hlt⟩
    obtain ⟨go, yl⟩ := sr.1 i d hd
    refine ⟨go, fun σ2 H2 => W.R H1 H2 ∧ ∃ δ2, SL W X.K σ2 H2 δ2 ∧ forGo g sa F (ds.drop (i + 1)) δ2, fun σ2 H2 h => ⟨ds.length - (i + 1), by omega, rfl, by omega, h⟩, fun x H2 hy => ?_⟩
    obtain ⟨r2, hda⟩ := yl x H2 hy
    have ed : ds.drop i = d :: ds.drop (i + 1) := by
      rw [List.getElem?_eq_getElem hlt] at hd
      cases hd
      exact List.drop_eq_getElem_cons hlt
    rw [ed] at hgo'
    refine f W x d σ' H2 _ δ' _ (hs'.R r2) r2.ok hda hgo' fun σ3 δ3 hs3 hk => ?_
    have l2 := l.R ((r1.trans rH).trans r2)
    refine b W σ3 H2 _ δ3 _ hs3 r2.ok hk ⟨fun σ4 H4 δ4 r4 hs4 hk4 => ⟨(rH.trans r2).trans r4, δ4, hs4, hk4⟩, l2.rt, fun σ4 H4 δ4 r4 hs4 hk4 => l2.nx σ4 H4 δ4 r4 hs4 hk4,
      fun σ4 H4 δ4 r4 hs4 hk4 => ⟨(rH.trans r2).trans r4, δ4, hs4, hk4⟩, l2.ex⟩
  · left
    refine ⟨sr.2 i (by omega), ?_⟩
    rw [List.drop_eq_nil_of_le (by omega)] at hgo'
    exact l.nx σ' H' δ' (r1.trans rH) hs' hgo'
theorem sx_while (hp : PassesOwn (model X.prog X.w) X.A X.env X.xe) (hc : TX X E c tc) (hb : BX X E a sa) : SX X E (.While c a [] pos) (sWhile tc sa) := by
  obtain ⟨t, p, e⟩ := hc
  obtain ⟨w, r, b⟩ := hb
  refine ⟨_, ps_while hp p r, fun W σ H Z δ F hsl ok hm l => ?_⟩
  obtain ⟨n, hn⟩ := hm
  refine ⟨fun n σ' H' => W.R H H' ∧ ∃ δ', SL W X.K σ' H' δ' ∧ whGo tc sa F n δ', ⟨n, .refl ok, δ, hsl, hn⟩, ?_⟩
  rintro n σ' H' ⟨rH, δ', hs', hgo⟩
  cases n with
  | zero => exact hgo.elim
  | succ n =>
    refine e W σ' H' _ δ' _ F.ex hs' rH.ok hgo ?_ (l.R rH).ex
    intro q H2 r2 hq
    have l2 := l.R (rH.trans r2)
    cases q with
    | true =>
      rw [if_pos rfl] at hq ⊢
      refine ⟨fun σ3 H3 => W.R H H3 ∧ ∃ δ3, SL W X.K σ3 H3 δ3 ∧ whGo tc sa F n δ3, fun σ3 H3 h => ⟨n, Nat.lt_succ_self n, h⟩, ?_⟩
      refine b W σ' H2 _ δ' _ (hs'.R r2) r2.ok hq ⟨fun σ4 H4 δ4 r4 hs4 hk4 => ⟨(rH.trans r2).trans r4, δ4, hs4, hk4⟩, l2.rt, fun σ4 H4 δ4 r4 hs4 hk4 => l2.nx σ4 H4 δ4 r4 hs4 hk4,
        fun σ4 H4 δ4 r4 hs4 hk4 => ⟨(rH.trans r2).trans r4, δ4, hs4, hk4⟩, l2.ex⟩
    | false =>
      rw [if_neg Bool.false_ne_true] at hq ⊢
      exact l2.nx σ' H2 δ' (.refl r2.ok) (hs'.R r2) hq
end
end Fw
/-! # FwRun6: comprehensions, defs, calls of defs, errors -/
namespace Fw
open PySem PySem.Spec PyProof.Rows L2
open Evl (Ex)
variable [TabsOf]

/-! ## [e for x in it if t] -/
def wipeE (δ : Env) : List Nat → Env
  | [] => δ
  | v :: vs => (wipeE δ vs).set v none
theorem SL.wipe {W : Wld} {K : PySem.W.Frag} {σ : L2.St} {H : Hp} {δ : Env} (h : SL W K σ H δ) : ∀ vs : List Nat, SL W K (wipe σ vs) H (wipeE δ vs)
  | [] => h
  | v :: vs => by
    have ih := SL.wipe h vs
    refine ⟨by show ((L2.wipe σ vs).set v none).length = ((wipeE δ vs).set v none).length; simp [ih.len], h.tb, fun i d e => ?_⟩
    have e : ((wipeE δ vs).set v none)[i]? = some (some d) := e
    show ∃ u, ((L2.wipe σ vs).set v none)[i]? = some (some u) ∧ _
    by_cases hj : v = i
    · subst hj
      by_cases hl : v < (wipeE δ vs).length
      · rw [List.getElem?_set_self hl] at e
        cases e
      · rw [List.getElem?_eq_none (by simp; omega)] at e
        cases e
    · rw [List.getElem?_set_ne hj] at e ⊢
      exact ih.at_ i d e
def tTT : TM := fun _ post _ => post true
def noX : EX → Prop := fun _ => False
/-- the turns of a comprehension: acc holds what is made so far -/
def lcGo (g : GM) (t : TM) (e : EM) (δw : Env) (k : List D → Prop) : List D → List D → Prop
  | [], acc => k acc
  | d :: ds, acc => g d δw fun δ2 => t δ2 (fun b => if b = true then e δ2 (fun y => acc.length < 16777216 ∧ lcGo g t e δw k ds (acc ++ [y])) noX else lcGo g t e δw k ds acc) noX
def mLc (it : IM) (g : GM) (t : TM) (e : EM) (own : List Nat) : EM := fun δ post ex => it δ (fun ds => lcGo g t e (wipeE δ own) (fun acc => post (.lst acc)) ds []) ex
/-- a reading that is told by the data alone -/
def tS (K : PySem.W.Frag) (E : XK) (m : EM) : TE := fun σ H Q => ∃ W δ post ex, SL W K σ H δ ∧ W.ok H ∧ m δ post ex ∧ (∀ v H' d, W.R H H' → Da W K (W.cut H') v d → post d → Q v H') ∧ XLink W K H E ex
def tSt (K : PySem.W.Frag) (E : XK) (m : TM) : TT := fun σ H Q => ∃ W δ post ex, SL W K σ H δ ∧ W.ok H ∧ m δ post ex ∧ (∀ b H', W.R H H' → post b → Q b H') ∧ XLink W K H E ex
theorem px_star {X : Cx} {E : XK} {e : Expr} {m : EM} (h : PX X E e m) : PE X e (tS X.K E m) := by
  obtain ⟨t, p, f⟩ := h
  constructor
  rintro pins s σ H Q I ⟨W, δ, post, ex, hs, ok, hm, hq, lx⟩
  exact p.run pins s σ H Q I (f W σ H Q δ post ex hs ok hm hq lx)
theorem tx_star {X : Cx} {E : XK} {e : Expr} {m : TM} (h : TX X E e m) : PT X e (tSt X.K E m) := by
  obtain ⟨t, p, f⟩ := h
  constructor
  rintro pins s σ H Q I ⟨W, δ, post, ex, hs, ok, hm, hq, lx⟩
  exact p.run pins s σ H Q I (f W σ H Q δ post ex hs ok hm hq lx)
theorem evo_star {W : Wld} {K : PySem.W.Frag} {E : XK} {m : EM} : EvO W K E (tS K E m) m := fun σ H Q δ post ex hs ok hm hq lx => ⟨W, δ, post, ex, hs, ok, hm, hq, lx⟩
theorem evt_star {W : Wld} {K : PySem.W.Frag} {E : XK} {m : TM} : EvT W K E (tSt K E m) m := fun σ H Q δ post ex hs ok hm hq lx => ⟨W, δ, post, ex, hs, ok, hm, hq, lx⟩

/-- the target stores just the comprehension's own names -/
def EvGw (W : Wld) (K : PySem.W.Frag) (own : List Nat) (t : TG) (g : GM) : Prop := ∀ v d (σ : L2.St) H (Q : L2.St → Hp → Prop) δ k, SL W K σ H δ → W.ok H → Da W K (W.cut H) v d → g d δ k →
  (∀ σ' δ', SL W K σ' H δ' → wipe σ' own = wipe σ own → k δ' → Q σ' H) → t v σ H Q
theorem wipe_out {i : Nat} {u : Option V} (τ : L2.St) : ∀ (l : List Nat), i ∉ l → wipe (τ.set i u) l = (wipe τ l).set i u
  | [], _ => rfl
  | j :: l, h => by
    have hj : i ≠ j := fun z => h (by rw [z]; exact List.mem_cons_self)
    show (wipe (τ.set i u) l).set j none = ((wipe τ l).set j none).set i u
    rw [wipe_out τ l fun z => h (List.mem_cons_of_mem _ z), List.set_comm _ _ hj]
theorem wipe_in {i : Nat} {u : Option V} (τ : L2.St) : ∀ (l : List Nat), i ∈ l → wipe (τ.set i u) l = wipe τ l
  | [], h => by cases h
  | j :: l, h => by
    show (wipe (τ.set i u) l).set j none = (wipe τ l).set j none
    by_cases hm : i ∈ l
    · rw [wipe_in τ l hm]
    · rcases List.mem_cons.mp h with e | e
      · subst e
        rw [wipe_out τ l hm, List.set_set]
      · exact absurd e hm
theorem wipe_at {j : Nat} (τ : L2.St) : ∀ (m : List Nat), j ∈ m → (wipe τ m).set j none = wipe τ m
  | [], h => by cases h
  | c :: m, h => by
    show ((wipe τ m).set c none).set j none = (wipe τ m).set c none
    by_cases hc : c = j
    · subst hc
      rw [List.set_set]
    · rw [List.set_comm _ _ hc]
      rcases List.mem_cons.mp h with z | z
      · exact absurd z.symm hc
      · rw [wipe_at τ m z]
theorem wipe_idem (τ : L2.St) (m : List Nat) : wipe (wipe τ m) m = wipe τ m := by
  have gen : ∀ (l : List Nat), (∀ j ∈ l, j ∈ m) → wipe (wipe τ m) l = wipe τ m := by
    intro l
    induction l with
    | nil =>
      intro _
      rfl
    | cons j l ih =>
      intro hsub
      show (wipe (wipe τ m) l).set j none = wipe τ m
      rw [ih fun x hx => hsub x (List.mem_cons_of_mem _ hx), wipe_at τ m (hsub j List.mem_cons_self)]
  exact gen m fun _ h => h
theorem evgw_name {W : Wld} {K : PySem.W.Frag} {i : Nat} {own : List Nat} (hi : i ∈ own) : EvGw W K own (gName i) (gNm i) :=
  fun v d σ H Q δ k hs ok hv hk hq => hq _ _ (hs.set i hv) (wipe_in σ own hi) hk
/-- two names, of a pair -/
theorem evgw_two {W : Wld} {K : PySem.W.Frag} {i j : Nat} {own : List Nat} (hi : i ∈ own) (hj : j ∈ own) :
    EvGw W K own (gTup K 2 (gCons (gName i) (gCons (gName j) gNil))) (gTp 2 (gCn (gNm i) (gCn (gNm j) gNl))) := by
  rintro v d σ H Q δ k hs ok hv ⟨ds, rfl, hl, d1, es, rfl, d2, es2, rfl, rfl, hk⟩ hq
  cases hv with
  | tup h1 h2 =>
    cases h2 with
    | cons a1 r1 =>
      cases r1 with
      | cons a2 r2 =>
        cases r2
        refine ⟨_, _, rfl, Evl.ex_t cut_sub h1, rfl, _, _, rfl, _, _, rfl, rfl, ?_⟩
        refine hq _ _ ((hs.set i a1).set j a2) ?_ hk
        rw [wipe_in _ own hj, wipe_in _ own hi]

/-- something that grows: its world -/
def Wld.grow (W : Wld) (p : Addr) (acc : HO) : Wld := { W with own := (p, acc) :: W.own }
theorem grow_sm (W : Wld) (p : Addr) (acc : HO) : W.Sm (W.grow p acc) := ⟨rfl, rfl, rfl⟩
theorem grow_ok {W : Wld} {H : Hp} {p : Addr} {acc : HO} (ok : W.ok H) (hp : p ∉ W.M) (oa : Own acc) (h : H p = some acc) : (W.grow p acc).ok H :=
  ⟨ok.dr, ok.tb, fun q hq => by
    rcases List.mem_cons.mp hq with e | e
    · rw [e]
      exact h
    · exact ok.own q e, fun q hq => by
    rcases List.mem_cons.mp hq with e | e
    · rw [e]
      exact fun z => hp (List.mem_append_right _ z)
    · exact ok.sep q e, fun q hq => by
    rcases List.mem_cons.mp hq with e | e
    · rw [e]
      exact oa
    · exact ok.ownO q e⟩
theorem grow_of {W : Wld} {H : Hp} {p : Addr} {acc : HO} (ok : (W.grow p acc).ok H) : W.ok H ∧ H p = some acc :=
  ⟨⟨ok.dr, ok.tb, fun q hq => ok.own q (List.mem_cons_of_mem _ hq), fun q hq => ok.sep q (List.mem_cons_of_mem _ hq), fun q hq => ok.ownO q (List.mem_cons_of_mem _ hq)⟩, ok.own (p, acc) List.mem_cons_self⟩
theorem grow_cut {W : Wld} {H : Hp} {p : Addr} {acc : HO} {b : Addr} : (W.grow p acc).cut H b = if b = p then none else W.cut H b := by
  have hM : b ∈ (W.grow p acc).M ↔ b = p ∨ b ∈ W.M := by
    show b ∈ ((p, acc) :: W.own).map (·.1) ++ drM W.dr ↔ b = p ∨ b ∈ W.own.map (·.1) ++ drM W.dr
    rw [List.map_cons, List.cons_append, List.mem_cons]
  unfold Wld.cut
  by_cases hb : b = p
  · rw [if_pos hb, if_pos (hM.mpr (.inl hb))]
  · rw [if_neg hb]
    by_cases hm : b ∈ W.M
    · rw [if_pos hm, if_pos (hM.mpr (.inr hm))]
    · rw [if_neg hm, if_neg fun z => (hM.mp z).elim hb hm]
theorem grow_sub {W : Wld} {H : Hp} {p : Addr} {acc : HO} : Ex ((W.grow p acc).cut H) (W.cut H) := by
  intro a o h
  rw [grow_cut] at h
  split at h
  · cases h
  · exact h
/-- what was there ahead of the list is there within -/
theorem grow_in {W : Wld} {H H' : Hp} {p : Addr} {acc : HO} (hp : H p = none) (e : Ex (W.cut H) (W.cut H')) : Ex (W.cut H) ((W.grow p acc).cut H') := by
  intro a o h
  rw [grow_cut, if_neg (ne_of_none (cut_sub _ _ h) hp)]
  exact e a o h
/-- it changes -/
theorem grow_put {W : Wld} {H : Hp} {p : Addr} {acc acc' : HO} (hp : p ∉ W.M) (oa' : Own acc') (ok : (W.grow p acc).ok H) : (W.grow p acc').ok (upd H p acc') := by
  obtain ⟨ok1, h⟩ := grow_of ok
  have oa : Own acc := ok.ownO (p, acc) List.mem_cons_self
  have ne : ∀ {b : Addr}, b ∈ W.M → b ≠ p := fun {b} hb z => hp (by rw [← z]; exact hb)
  have neT : ∀ {b : Addr} {ps : Array Value}, H b = some (.tbl ps) → b ≠ p := fun {b ps} e z => by
    rw [z, h] at e
    exact oa.tb _ (Option.some.inj e)
  have neC : ∀ {b : Addr} {q : Str}, H b = some (LamX.CodeO b q) → b ≠ p := fun {b q} e z => by
    rw [z, h] at e
    exact oa.co _ _ (Option.some.inj e)
  refine ⟨fun d l c hd => ?_, fun q hq => ?_, fun q hq => ?_, fun q hq => ?_, fun q hq => ?_⟩
  · obtain ⟨r, t, lg, h1, h2, h3, h4, h5, h6, h7⟩ := ok1.dr d l c hd
    have m : ∀ x ∈ [d, l, c], x ≠ p := fun x hx => ne (List.mem_append_right _ (by rw [show W.dr = some (d, l, c) from hd]; exact hx))
    refine ⟨r, t, lg, ?_, h2, h3, ?_, h5, ?_, h7⟩
    · rw [upd_ne (m d (by simp))]
      exact h1
    · rw [upd_ne (m l (by simp))]
      exact h4
    · rw [upd_ne (m c (by simp))]
      exact h6
  · obtain ⟨ps, a1, a2, a3⟩ := ok1.tb q hq
    refine ⟨ps, by rw [upd_ne (neT a1)]; exact a1, a2, fun pos cv hc => ?_⟩
    obtain ⟨c, e1, e2⟩ := a3 pos cv hc
    exact ⟨c, e1, by rw [upd_ne (neC e2)]; exact e2⟩
  · rcases List.mem_cons.mp hq with e | e
    · rw [e]
      exact upd_same
    · rw [upd_ne (ne (List.mem_append_left _ (List.mem_map_of_mem e)))]
      exact ok1.own q e
  · rcases List.mem_cons.mp hq with e | e
    · rw [e]
      exact fun z => hp (List.mem_append_right _ z)
    · exact ok1.sep q e
  · rcases List.mem_cons.mp hq with e | e
    · rw [e]
      exact oa'
    · exact ok1.ownO q e
theorem grow_upd {W : Wld} {H : Hp} {p : Addr} {acc acc' : HO} {o : HO} : (W.grow p acc').cut (upd H p o) = (W.grow p acc).cut H := by
  funext b
  rw [grow_cut, grow_cut]
  by_cases hb : b = p
  · rw [if_pos hb, if_pos hb]
  · rw [if_neg hb, if_neg hb]
    unfold Wld.cut
    rw [upd_ne hb]
section
variable {X : Cx} {E : XK} {elt tg it : Expr} {ifs : List Expr} {scope : Scope} {own : List (Str × Nat)} {pos : Pos} {im : IM} {g : GM} {mt : TM} {me : EM} {tgt : TG} {tt : TT}
/-- the list is new -/
theorem evo_lcN {W : Wld} {K : PySem.W.Frag} {wi : TI} {te : TE} {vs : List Nat} (hi : EvI W K E wi im) (hg : ∀ W, EvGw W K vs tgt g) (ht : ∀ W, EvT W K L2.E0 tt mt) (he : ∀ W, EvO W K L2.E0 te me) :
    ∀ (σ : L2.St) H (Q : VK) δ post ex, SL W K σ H δ → W.ok H → mLc im g mt me vs δ post ex →
      (∀ p H' xs ds, W.R H H' → (∀ b o, W.cut H b = some o → b ≠ p) → W.cut H' p = some (.lst xs) → Das W K (W.cut H') xs ds → post (.lst ds) → Q (.ref p) H') → XLink W K H E ex → tLc wi tgt tt te vs σ H Q := by
  intro σ H Q δ post ex hs ok hm hq lx
  refine hi σ H _ δ _ ex hs ok hm ?_ lx
  intro J H1 ds r1 src hgo p hp
  have pM : p ∉ W.M := fun hb => by
    obtain ⟨o, ho⟩ := mem_there r1.ok hb
    rw [hp] at ho
    cases ho
  have nx : ∀ (W' : Wld) (H' : Hp), XLink W' K H' L2.E0 noX := fun _ _ x C d H' _ z => z
  refine ⟨fun i n H' => n = ds.length - i ∧ i ≤ ds.length ∧ ∃ acc das, (W.grow p (.lst acc)).ok H' ∧ Ex (W.cut H1) ((W.grow p (.lst acc)).cut H') ∧ Das (W.grow p (.lst acc)) K ((W.grow p (.lst acc)).cut H') acc das ∧
    lcGo g mt me (wipeE δ vs) (fun acc => post (.lst acc)) (ds.drop i) das, ⟨ds.length, by simp, Nat.zero_le _, [], [], ?_, ?_, .nil, hgo⟩, ?_⟩
  · exact grow_ok (ok_ex r1.ok (Ex.new hp)) pM own_lst upd_same
  · exact grow_in hp (R_new r1.ok hp).ex
  rintro i n H' ⟨rfl, hle, acc, das, gok, gex, gda, hgo'⟩
  obtain ⟨wok, hpl⟩ := grow_of gok
  have sr := src (W.grow p (.lst acc)) H' (grow_sm W p (.lst acc)) gok gex
  by_cases hlt : i < ds.length
  · right
    obtain ⟨d, hd⟩ : ∃ d, ds[i]? = some d := ⟨_, List.getElem?_eq_getElem hlt⟩
    obtain ⟨go, yl⟩ := sr.1 i d hd
    refine ⟨go, fun H2 => ∃ acc das, (W.grow p (.lst acc)).ok H2 ∧ Ex (W.cut H1) ((W.grow p (.lst acc)).cut H2) ∧ Das (W.grow p (.lst acc)) K ((W.grow p (.lst acc)).cut H2) acc das ∧
      lcGo g mt me (wipeE δ vs) (fun acc => post (.lst acc)) (ds.drop (i + 1)) das, fun H2 h => ⟨ds.length - (i + 1), by omega, rfl, by omega, h⟩, fun x H2 hy => ?_⟩
    obtain ⟨r2, hda⟩ := yl x H2 hy
    have ed : ds.drop i = d :: ds.drop (i + 1) := by
      rw [List.getElem?_eq_getElem hlt] at hd
      cases hd
      exact List.drop_eq_getElem_cons hlt
    rw [ed] at hgo'
    have hsw : SL (W.grow p (.lst acc)) K (wipe σ vs) H2 (wipeE δ vs) := ((hs.R r1).wipe vs).sm (grow_sm W p (.lst acc)) (gex.trans r2.ex)
    refine hg _ x d (wipe σ vs) H2 _ (wipeE δ vs) _ hsw r2.ok hda hgo' fun σ3 δ3 hs3 hw3 hk => ⟨by rw [hw3, wipe_idem], ?_⟩
    refine ht _ σ3 H2 _ δ3 _ noX hs3 r2.ok hk ?_ (nx _ _)
    intro b H3 r3 hb
    have gex3 := (gex.trans r2.ex).trans r3.ex
    cases b with
    | false =>
      rw [if_neg Bool.false_ne_true] at hb ⊢
      exact ⟨acc, das, r3.ok, gex3, (gda.R r2).R r3, hb⟩
    | true =>
      rw [if_pos rfl] at hb ⊢
      refine he _ σ3 H3 _ δ3 _ noX (hs3.R r3) r3.ok hb ?_ (nx _ _)
      rintro y H4 dy r4 hy4 ⟨hsz, hgo4⟩
      have h4 := (grow_of r4.ok).2
      have gda4 := ((gda.R r2).R r3).R r4
      refine ⟨acc, h4, by rw [gda4.length, sizeLine_eq]; exact hsz, acc ++ [y], das ++ [dy], grow_put pM own_lst r4.ok, ?_, ?_, hgo4⟩
      · rw [grow_upd (acc := .lst acc)]
        exact gex3.trans r4.ex
      · rw [grow_upd (acc := .lst acc)]
        have sm : (W.grow p (.lst acc)).Sm (W.grow p (.lst (acc ++ [y]))) := ⟨rfl, rfl, rfl⟩
        exact (gda4.sm sm).app (.cons (hy4.sm sm) .nil)
  · left
    refine ⟨sr.2 i (by omega), ?_⟩
    rw [List.drop_eq_nil_of_le (by omega)] at hgo'
    have cp : W.cut H' p = some (.lst acc) := by
      unfold Wld.cut
      rw [if_neg pM, hpl]
    have sm : (W.grow p (.lst acc)).Sm W := ⟨rfl, rfl, rfl⟩
    refine hq p H' _ _ ⟨wok, ?_⟩ (fun b o hb => ne_of_none (cut_sub _ _ (r1.ex b o hb)) hp) cp ((gda.sm sm).up grow_sub) hgo'
    exact r1.ex.trans (gex.trans grow_sub)
theorem evo_lc {W : Wld} {K : PySem.W.Frag} {wi : TI} {te : TE} {vs : List Nat} (hi : EvI W K E wi im) (hg : ∀ W, EvGw W K vs tgt g) (ht : ∀ W, EvT W K L2.E0 tt mt) (he : ∀ W, EvO W K L2.E0 te me) :
    EvO W K E (tLc wi tgt tt te vs) (mLc im g mt me vs) := fun σ H Q δ post ex hs ok hm hq lx =>
  evo_lcN hi hg ht he σ H Q δ post ex hs ok hm (fun p H' xs ds r _ h1 h2 hp => hq _ H' _ r (.lst h1 h2) hp) lx
theorem px_lc (hc : X.calm = true) (hN : X.N.Nodup) (hi : IX X E tg it im) (ok : BlkOk X.N X.env.scope scope own)
    (hg : ∀ (s : Shared) (H : Hp) (C : Addr) (cl : List (Str × Addr)) (fp : List Addr), PG (X.blk s H scope (compEnvC scope cl C X.env) fp) tg tgt) (hgw : ∀ W, EvGw W X.K (own.map (·.2)) tgt g)
    (ht : ∀ (s : Shared) (H : Hp) (C : Addr) (cl : List (Str × Addr)) (fp : List Addr), PTs (X.blk s H scope (compEnvC scope cl C X.env) fp) ifs tt) (htw : ∀ W, EvT W X.K L2.E0 tt mt)
    (he : ∀ (s : Shared) (H : Hp) (C : Addr) (cl : List (Str × Addr)) (fp : List Addr), PX (X.blk s H scope (compEnvC scope cl C X.env) fp) L2.E0 elt me)
    (hs : ∀ x, foldedSetIterable it X.env x = pure x := by intro _; rfl) : PX X E (.ListComp elt [⟨tg, it, ifs, 0⟩] scope pos) (mLc im g mt me (own.map (·.2))) := by
  obtain ⟨t, p, e⟩ := hi
  exact ⟨_, pe_lc (te := tS X.K L2.E0 me) hc hN p ok hg ht (fun s H C cl fp => px_star (he s H C cl fp)) hs, fun W => evo_lc (e W) hgw htw fun _ => evo_star⟩
theorem sx_setLc {i : Nat} {y : Str} {py spos : Pos} (hc : X.calm = true) (hN : X.N.Nodup) (hy : X.N[i]? = some y) (hyl : X.env.scope.names.lookup y = some .local)
    (hsw : swapsWith (.ListComp elt [⟨tg, it, ifs, 0⟩] scope pos) (some (.Name y py)) spos.line X.env = pure true) (hi : IX X E tg it im) (ok : BlkOk X.N X.env.scope scope own)
    (hg : ∀ (s : Shared) (H : Hp) (C : Addr) (cl : List (Str × Addr)) (fp : List Addr), PG (X.blk s H scope (compEnvC scope cl C X.env) fp) tg tgt) (hgw : ∀ W, EvGw W X.K (own.map (·.2)) tgt g)
    (ht : ∀ (s : Shared) (H : Hp) (C : Addr) (cl : List (Str × Addr)) (fp : List Addr), PTs (X.blk s H scope (compEnvC scope cl C X.env) fp) ifs tt) (htw : ∀ W, EvT W X.K L2.E0 tt mt)
    (he : ∀ (s : Shared) (H : Hp) (C : Addr) (cl : List (Str × Addr)) (fp : List Addr), PX (X.blk s H scope (compEnvC scope cl C X.env) fp) L2.E0 elt me)
    (hs : ∀ x, foldedSetIterable it X.env x = pure x := by intro _; rfl) : SX X E (.Assign [.Name y py] (.ListComp elt [⟨tg, it, ifs, 0⟩] scope pos) spos) (sSet i (mLc im g mt me (own.map (·.2)))) := by
  obtain ⟨t, p, e⟩ := hi
  refine ⟨_, ps_setLc (te := tS X.K L2.E0 me) hc hN hy hyl hsw p ok hg ht (fun s H C cl fp => px_star (he s H C cl fp)) hs, fun W σ H Z δ F hsl ok hm l => ?_⟩
  refine evo_lc (e W) hgw htw (fun _ => evo_star) σ H _ δ _ F.ex hsl ok hm ?_ l.ex
  intro v H1 d r1 hv hp
  exact l.nx _ _ _ r1 ((hsl.R r1).set i hv) hp
theorem evt_yes {W : Wld} {K : PySem.W.Frag} : EvT W K L2.E0 tYes tTT := fun σ H Q δ post ex hs ok hm hq lx => hq true H (.refl ok) hm
end
end Fw
/-! # FwRun7: defs and their calls; errors made, asked and caught -/
namespace Fw
open PySem PySem.Spec PyProof.Rows L2
open Evl (Ex)
variable [TabsOf]

/-! ## a def's promise -/
def spF (K : PySem.W.Frag) (n : Nat) (m : FM) : Sp := fun vs H Q E => ∃ (W : Wld) (ds : List D) (post : D → Prop) (ex : EX → Prop), W.tb = TabsOf.tb K ∧ W.ok H ∧ Das W K (W.cut H) vs ds ∧ ds.length = n ∧
  m ds post ex ∧ (∀ v H' d, W.R H H' → Da W K (W.cut H') v d → post d → Q v H') ∧ XLink W K H E ex
theorem spF_len {K : PySem.W.Frag} {n : Nat} {m : FM} {vs : List V} {H : Hp} {Q : VK} {E : XK} (h : spF K n m vs H Q E) : vs.length = n := by
  obtain ⟨W, ds, post, ex, _, _, h, e, _⟩ := h
  rw [h.length, e]
/-- a def by its name: it stands there, and does with data what m says -/
def Good (P : Program) (w : World) (K : PySem.W.Frag) (mg : Str → Option Value) (base : Heap) (x nm : Str) (st : Stmt) (k : Nat) (ps : List Str) (m : FM) : Prop :=
  ∃ f fd, mg x = some (.ref f) ∧ FunD K nm nm (defArgs st) (defBody st) (defScope st) [] [] f fd ∧ Binds K fd ps [] ∧ FnOk P w K mg base (L2.CX P w) k f fd ps (spF K ps.length m)
/-- what a body does, as a def -/
def funM (n : Nat) (m : SM) : FM := fun ds post ex => m (ds.map some ++ List.replicate (n - ds.length) none) { nx := fun _ => post .non, rt := post, ex := ex }
section
variable {P : Program} {w : World} {K : PySem.W.Frag} {mg : Str → Option Value} {base : Heap} {x nm : Str} {st : Stmt} {k : Nat} {N ps : List Str} {m : SM}
theorem cx_takes {N : List Str} {q : Str} {sc : Scope} {f : Addr} {cd : Value} {A : Around} {outer : List PySem.Env} {s : Shared} {H : Hp} {E : XK} :
    Takes (cxOf (L2.CX P w) P w K mg base N q sc f cd A outer s H E) (fun cls d _ H' => E cls d H') := takes_of rfl rfl rfl rfl
theorem cx_passes {N : List Str} {q : Str} {sc : Scope} {f : Addr} {cd : Value} {A : Around} {outer : List PySem.Env} {s : Shared} {H : Hp} {E : XK} :
    Passes (L2.CX P w) (cxOf (L2.CX P w) P w K mg base N q sc f cd A outer s H E) E := passes_call cx_takes fun _ _ _ _ h => h
theorem cx_own {N : List Str} {q : Str} {sc : Scope} {f : Addr} {cd : Value} {A : Around} {outer : List PySem.Env} {s : Shared} {H : Hp} {E : XK} :
    PassesOwn (model P w) (A.deeper (envOfC q sc s.heap.objs.size f cd)) (envOfC q sc s.heap.objs.size f cd) (cxOf (L2.CX P w) P w K mg base N q sc f cd A outer s H E).xe := passes_of rfl
theorem good_of (p : He.Defn) {fd : FuncData} (hm : mg x = some (.ref (He.fAd K p))) (F : FunD K nm nm (defArgs st) (defBody st) (defScope st) [] [] (He.fAd K p) fd) (S : FnScope N ps (defScope st)) (hb : Binds K fd ps [])
    (body : ∀ (A : Around) (outer : List PySem.Env) (s : Shared) (H : Hp) (E : XK), Room k (A.deeper (envOfC nm (defScope st) s.heap.objs.size (He.fAd K p) (.ref (He.codeOf K p)))) →
      BX (cxOf (L2.CX P w) P w K mg base N nm (defScope st) (He.fAd K p) (.ref (He.codeOf K p)) A outer s H E) E (defBody st) m) : Good P w K mg base x nm st (k + 1) ps (funM N.length m) := by
  obtain ⟨oc, od, dV, kV, doc, pm, an, cdv, ct, osl, rfl, lk, hcd, hD, hK⟩ := id F.ex
  obtain ⟨c, rfl⟩ := He.codeIn_ref hcd
  have ec : He.codeOf K p = c := He.codeOf_eq lk rfl
  refine ⟨_, _, hm, F, hb, fn_of lk hcd S (fun vs H Q E h => spF_len h) ?_⟩
  rintro A outer s H vs Q E hr ⟨W, ds, post, ex, tb, ok, hd, hl, hmm, hq, lx⟩
  rw [ec] at body
  obtain ⟨t, q, e⟩ := body A outer s H E hr
  refine ⟨t, q, e W (L2.start N vs) H _ _ _ ⟨?_, tb, ?_⟩ ok hmm ⟨?_, ?_, ?_, ?_, lx⟩⟩
  · unfold L2.start
    simp [hd.length]
  · intro i d hi
    unfold L2.start
    by_cases h : i < ds.length
    · rw [List.getElem?_append_left (by simpa using h), List.getElem?_map] at hi
      obtain ⟨d', hd', e'⟩ := Option.map_eq_some_iff.mp hi
      cases e'
      obtain ⟨v, hv, hda⟩ := hd.getD hd'
      refine ⟨v, ?_, hda⟩
      rw [List.getElem?_append_left (by simpa [hd.length] using h), List.getElem?_map, hv]
      rfl
    · rw [List.getElem?_append_right (by simpa using h), List.getElem?_replicate] at hi
      split at hi <;> cases hi
  · intro σ' H' δ' r _ hp
    exact hq .non H' .non r .non hp
  · intro v H' d r hv hp
    exact hq v H' d r hv hp
  · intro _ _ _ _ _ z
    exact z.elim
  · intro _ _ _ _ _ z
    exact z.elim
end

/-! ## calls -/
def mCall (n : Nat) (g : FM) (m : AM) : EM := fun δ post ex => m δ (fun ds => ds.length = n ∧ g ds post ex) ex
section
variable {X : Cx} {E : XK} {x nm : Str} {st : Stmt} {k : Nat} {ps : List Str} {g : FM} {e : Expr} {es : List Expr} {m : AM} {p pos : Pos}
theorem evo_call {W : Wld} {K : PySem.W.Frag} {n : Nat} {t : TA} (h : EvA W K E t m) : EvO W K E (tCall (spF K n g) [] E t) (mCall n g m) := by
  intro σ H Q δ post ex hs ok hm hq lx
  refine h σ H _ δ _ ex hs ok hm ?_ lx
  rintro vs H1 ds r1 hv ⟨hl, hg⟩
  rw [List.append_nil]
  exact ⟨W, ds, post, ex, hs.tb, r1.ok, hv, hl, hg, fun v H' d r hd hp => hq v H' d (r1.trans r) hd hp, lx.R r1⟩
theorem px_call {n : Nat} (G : Good X.prog X.w X.K X.mg X.base x nm st k ps g) (hr : Room k X.A) (hx : Passes (L2.CX X.prog X.w) X E) (hg : Gl X x) (ha : AX X E (e :: es) m) (hn : ps.length = n := by rfl)
    (hdb : (x == ("__debug__" : Str)) = false := by decide) (he : starEach (e :: es) X.env = (false, eval e X.env) :: starEach es X.env := by rfl) (hpl : (backTo pos (starEach es X.env)).any (·.1) = false := by rfl) :
    PX X E (.Call (.Name x p) (e :: es) [] pos) (mCall n g m) := by
  subst hn
  obtain ⟨f, fd, hm, F, hb, ok⟩ := G
  obtain ⟨t, q, ev⟩ := ha
  exact ⟨_, pe_call ok hr hg hm F.kp hb .nil hx q hdb he hpl, fun W => evo_call (ev W)⟩
theorem px_call0 {n : Nat} (G : Good X.prog X.w X.K X.mg X.base x nm st k ps g) (hr : Room k X.A) (hx : Passes (L2.CX X.prog X.w) X E) (hg : Gl X x) (hn : ps.length = n := by rfl)
    (hdb : (x == ("__debug__" : Str)) = false := by decide) : PX X E (.Call (.Name x p) [] [] pos) (mCall n g mNil) := by
  subst hn
  obtain ⟨f, fd, hm, F, hb, ok⟩ := G
  obtain ⟨t, q, ev⟩ : AX X E [] mNil := ax_nil
  refine ⟨_, pe_call0 ok hr hg hm F.kp hb .nil hx hdb, fun W σ H Q δ post ex hs okW hm' hq lx => ?_⟩
  obtain ⟨hl, hg⟩ := hm'
  exact ⟨W, [], post, ex, hs.tb, okW, .nil, hl, hg, hq, lx⟩
/-- keywords' values -/
def KX (X : Cx) (E : XK) (ks : List Keyword) (m : AM) : Prop := ∃ t, PK X ks t ∧ ∀ W, EvA W X.K E t m
variable {nmk : Option Str} {kpos : Pos} {kws : List Keyword} {ma : EM} {mk : AM} {ks : List Str}
theorem kx_nil : KX X E [] mNil := ⟨_, pk_nil, fun W σ H Q δ post ex hs ok hm hq _ => hq [] H [] (.refl ok) .nil hm⟩
theorem kx_cons (h : PX X E e ma) (k : KX X E kws mk) : KX X E (⟨nmk, e, kpos⟩ :: kws) (mCons ma mk) := by
  obtain ⟨t, p, ev⟩ := h
  obtain ⟨u, q, f⟩ := k
  refine ⟨_, pk_cons p q, fun W σ H Q δ post ex hs ok hm hq lx => ?_⟩
  refine ev W σ H _ δ _ ex hs ok hm ?_ lx
  intro v H1 d r1 hv hm
  refine f W σ H1 _ δ _ ex (hs.R r1) r1.ok hm ?_ (lx.R r1)
  intro vs H2 ds r2 hvs hp
  exact hq (v :: vs) H2 (d :: ds) (r1.trans r2) (.cons (hv.R r2) hvs) hp
/-- f(a = .., b = ..): all by keywords; perm puts them in the parameters' order -/
structure PermOk (perm : {α : Type} → List α → List α) : Prop where
  vals : ∀ {vs : List V} {us : List Value}, Vals vs us → Vals (perm vs) (perm us)
  das : ∀ {W : Wld} {K : PySem.W.Frag} {H : Hp} {vs : List V} {ds : List D}, Das W K H vs ds → Das W K H (perm vs) (perm ds)
def mCallK (k n : Nat) (perm : {α : Type} → List α → List α) (g : FM) (m : AM) : EM := fun δ post ex => m δ (fun ds => ds.length = k ∧ (perm ds).length = n ∧ g (perm ds) post ex) ex
theorem px_callK {nk n : Nat} (perm : {α : Type} → List α → List α) (po : PermOk perm) (G : Good X.prog X.w X.K X.mg X.base x nm st k ps g) (hr : Room k X.A) (hx : Passes (L2.CX X.prog X.w) X E) (hg : Gl X x) (hkw : KX X E kws mk) (hnk : ks.length = nk := by rfl) (hn : ps.length = n := by rfl)
    (hb : ∀ (kV doc pm : Value) (an : Option Addr) (cdv ct : Value) (ws : List Value), ws.length = ks.length →
      bindArgs (PySem.W.fnOf nm nm (defArgs st) (defBody st) (defScope st) .none kV doc pm an cdv ct) ⟨[], ks.zip ws⟩ = pure (ps.zip (perm ws)))
    (hall : (backToKw pos (keywordEach kws X.env)).all (·.1.isSome) = true := by rfl) (hks : (backToKw pos (keywordEach kws X.env)).filterMap (·.1) = ks := by rfl)
    (hdb : (x == ("__debug__" : Str)) = false := by decide)
    (hpl : ((backTo pos (starEach [] X.env)).any (·.1) || (backToKw pos (keywordEach kws X.env)).any (·.1.isNone)) = false := by rfl) (hlen : ks.length = kws.length := by rfl) :
    PX X E (.Call (.Name x p) [] kws pos) (mCallK nk n perm g mk) := by
  subst hnk hn
  obtain ⟨f, fd, hm, F, _, ok⟩ := G
  obtain ⟨t, q, ev⟩ := hkw
  have kb : KBn X.K fd ps 0 ks (fun us ws => perm ws) (fun vs zs => perm zs) := by
    obtain ⟨oc, od, dV, kV, doc, pm, an, cdv, ct, osl, rfl, lk, hcd, hD, hK⟩ := F.ex
    rcases hD with ⟨_, rfl⟩ | ⟨z, _⟩
    · refine ⟨fun s us ws KI h1 h2 => ?_, fun _ r => po.vals r⟩
      have : us = [] := List.length_eq_zero_iff.mp h1
      subst this
      exact BindsTo.of_eq (hb kV doc pm an cdv ct ws h2)
    · exact absurd rfl z
  refine ⟨_, pe_callN0 ok hr hg hm F.kp kb hx q hall hks hdb hpl, fun W σ H Q δ post ex hs okW hm' hq lx => ?_⟩
  refine ev W σ H _ δ _ ex hs okW hm' ?_ lx
  rintro vs H1 ds r1 hv ⟨hl0, hl, hg⟩
  refine ⟨rfl, hv.length.trans hl0, W, perm ds, post, ex, hs.tb, r1.ok, po.das hv, hl, hg, fun v H' d r hd hp => hq v H' d (r1.trans r) hd hp, lx.R r1⟩
end
end Fw
/-! # FwRun8: errors: raised, told apart, read, caught through a lambda -/
namespace Fw
open PySem PySem.Spec PyProof.Rows L2
open Evl (Ex)
variable [TabsOf]

/-! ## an error with one attribute -/
/-- the error's class n, its attribute f -/
structure ErrDef (P : Program) (w : World) (K : PySem.W.Frag) (mg : Str → Option Value) (base : Heap) (n f : Str) : Prop where
  at_ : mg n = some (.ref (He.ga K n))
  xc : XC K (He.ga K n)
  ini : ∃ fI fd ps, PySem.W.findIn K (.ref (He.ga K n)) "__init__" = some (some (.ref fI)) ∧ PySem.W.typeIn K (.ref fI) = some (.type "function") ∧ Binds K fd ps [] ∧
    FnOk P w K mg base L2.CX0 1 fI fd ps (spXi (He.ga K n) f)
  no : PySem.W.findIn K (.ref (He.ga K n)) f = some none
def sRaise (n f : Str) (m : EM) : SM := fun δ F => m δ (fun d => F.ex (n, [(f, d)])) F.ex
section
variable {X : Cx} {E : XK} {n f : Str} {e : Expr} {m : EM} {p pos pos2 : Pos}
theorem errOut_one {W : Wld} {K : PySem.W.Frag} {H : Hp} {v : V} {d : D} {dx : Addr} (ok : W.ok H) (hd : H dx = none) (hv : Da W K (W.cut H) v d) :
    ErrOut W K H (n, [(f, d)]) (.ref (He.ga K n)) (some dx) (upd H dx (.xd [(f, v)])) := by
  have r : W.R H (upd H dx (.xd [(f, v)])) := R_new ok hd
  exact ⟨r, rfl, [v], .cons (hv.R r) .nil, .inr ⟨dx, rfl, cut_new ok hd fun _ z => nomatch z⟩⟩
theorem sx_raise (D : ErrDef X.prog X.w X.K X.mg X.base n f) (hc : X.calm = true) (tk : Takes X (fun cls d _ H' => E cls d H')) (hr : Room 2 X.A) (hg : Gl X n) (ha : PX X E e m)
    (hdb : (n == ("__debug__" : Str)) = false := by decide) (he : starEach [e] X.env = (false, eval e X.env) :: starEach [] X.env := by rfl) (hpl : (backTo pos (starEach [] X.env)).any (·.1) = false := by rfl) :
    SX X E (.Raise (some (.Call (.Name n p) [e] [] pos)) none pos2) (sRaise n f m) := by
  obtain ⟨fI, fd, ps, iC, tI, hb, F1⟩ := D.ini
  obtain ⟨t, q, ev⟩ := ha
  refine ⟨_, ps_rz1 hc tk D.xc iC tI F1 hr hb pass0 hg D.at_ (pa_cons q pa_nil he) hdb he hpl, fun W σ H Z δ F hs ok hm l => ?_⟩
  refine ev W σ H _ δ _ F.ex hs ok hm ?_ l.ex
  intro v H1 d r1 hv hp
  exact ⟨v, rfl, fun dx hd => (l.ex.R r1) (n, [(f, d)]) _ _ _ (errOut_one r1.ok hd hv) hp⟩
end

/-! ## isinstance(e, C), C an own error -/
/-- what is known of the errors' classes: each of these names stands for one, and which is below which -/
structure Kinds (K : PySem.W.Frag) (mg : Str → Option Value) (ns : List Str) (sub : Str → Str → Bool) : Prop where
  at_ : ∀ n ∈ ns, mg n = some (.ref (He.ga K n))
  xc : ∀ n ∈ ns, XC K (He.ga K n)
  kit : ∀ n ∈ ns, ∀ m ∈ ns, PySem.W.kitOne K (.ref (He.ga K n)) (.ref (He.ga K m)) = some (sub n m)
  non : ∀ m ∈ ns, PySem.W.kitOne K (.type "NoneType") (.ref (He.ga K m)) = some false
def mIsC (ns : List Str) (sub : Str → Str → Bool) (c : Str) (a : EM) : EM := fun δ post ex => a δ (fun d => (d = .non ∧ post (.bl false)) ∨ ∃ n fs, d = .err n fs ∧ n ∈ ns ∧ post (.bl (sub n c))) ex
theorem call_isU {X : Cx} : CallR X (.builtin "isinstance") (fun xs H Q => rIsi X.K xs H Q ∨ rIsV X.K xs H Q) := by
  intro pins s σ H xs us Q I r h
  rcases h with h | h
  · exact call_isi pins s σ H xs us Q I r h
  · exact call_isV pins s σ H xs us Q I r h
section
variable {X : Cx} {E : XK} {ns : List Str} {sub : Str → Str → Bool} {c : Str} {a : Expr} {ma : EM} {p p2 pos : Pos}
theorem px_isC (Ks : Kinds X.K X.mg ns sub) (hc : c ∈ ns) (hg : Gl X "isinstance") (hm : X.mg "isinstance" = none) (hgc : Gl X c) (ha : PX X E a ma)
    (st : starEach [a, .Name c p2] X.env = (false, eval a X.env) :: starEach [.Name c p2] X.env := by rfl)
    (st2 : starEach [.Name c p2] X.env = (false, eval (.Name c p2) X.env) :: starEach [] X.env := by rfl)
    (hdc : (c == ("__debug__" : Str)) = false := by decide)
    (hpl : (backTo pos (starEach [.Name c p2] X.env)).any (·.1) = false := by rfl) :
    PX X E (.Call (.Name "isinstance" p) [a, .Name c p2] [] pos) (mIsC ns sub c ma) := by
  obtain ⟨t, q, ev⟩ := ha
  refine ⟨_, pe_callB call_isU hg hm (by decide +kernel) (pa_cons q (pa_cons (pe_glob hgc (Ks.at_ c hc) (v := .ref (He.ga X.K c)) rfl (hd := hdc)) pa_nil st2) st) (by decide) (by decide) st hpl, fun W σ H Q δ post ex hs ok hm hq lx => ?_⟩
  refine ev W σ H _ δ _ ex hs ok hm ?_ lx
  rintro v H1 d r1 hv (⟨rfl, hp⟩ | ⟨n, fs, rfl, hn, hp⟩)
  · cases hv
    exact .inl ⟨.non, .ref (He.ga X.K c), _, _, false, rfl, .own _, .base .non, Ks.non c hc, hq _ H1 _ r1 (.bl _) hp⟩
  · cases hv with
    | err h r =>
      refine .inr ⟨_, _, _, _, .ref (He.ga X.K c), .ref (He.ga X.K c), _, rfl, h.up cut_sub, (Ks.xc n hn).is, fun u hu => hu, Ks.kit n hn c hc, hq _ H1 _ r1 (.bl _) hp⟩
/-- e.f -/
def mExF (ns : List Str) (f : Str) (a : EM) : EM := fun δ post ex => a δ (fun d => ∃ n fs x, d = .err n fs ∧ n ∈ ns ∧ fs.lookup f = some x ∧ post x) ex
theorem look_cons {α : Type} (f g : Str) (y : α) (fs : List (Str × α)) : ((f, y) :: fs).lookup g = if g = f then some y else fs.lookup g := by
  by_cases h : g = f
  · subst h
    simp [List.lookup]
  · have e : (g == f) = false := by simpa using h
    rw [if_neg h]
    simp [List.lookup, e]
theorem zip_look {W : Wld} {K : PySem.W.Frag} {H : Hp} {f : Str} {x : D} : ∀ {fs : List (Str × D)} {xs : List V}, Das W K H xs (fs.map (·.2)) → fs.lookup f = some x → ∃ v, ((fs.map (·.1)).zip xs).lookup f = some v ∧ Da W K H v x
  | [], _, _, e => by cases e
  | (g, y) :: fs, _, .cons (v := v) (vs := vs) h r, e => by
    rw [look_cons] at e
    show ∃ u, ((g, v) :: (fs.map (·.1)).zip vs).lookup f = some u ∧ _
    by_cases hf : f = g
    · rw [if_pos hf] at e
      cases e
      exact ⟨v, by rw [look_cons, if_pos hf], h⟩
    · rw [if_neg hf] at e
      obtain ⟨u, h1, h2⟩ := zip_look r e
      exact ⟨u, by rw [look_cons, if_neg hf]; exact h1, h2⟩
theorem px_exf {f : Str} (Ks : Kinds X.K X.mg ns sub) (hno : ∀ n ∈ ns, ∀ fs : List (Str × D), (fs.lookup f).isSome = true → PySem.W.findIn X.K (.ref (He.ga X.K n)) f = some none) (ha : PX X E a ma)
    (hb : attributeBase a f X.env (eval a X.env) = eval a X.env := by rfl) : PX X E (.Attribute a f pos) (mExF ns f ma) := by
  obtain ⟨t, q, ev⟩ := ha
  refine ⟨_, pe_exf q hb, fun W σ H Q δ post ex hs ok hm hq lx => ?_⟩
  refine ev W σ H _ δ _ ex hs ok hm ?_ lx
  rintro v H1 d r1 hv ⟨n, fs, x, rfl, hn, hl, hp⟩
  cases hv with
  | @err _ dd _ xs _ h r =>
    obtain ⟨u, h1, h2⟩ := zip_look r hl
    have h' := h.up cut_sub
    rcases h'.dict with ⟨_, z⟩ | ⟨d2, rfl, z⟩
    · rw [z] at h1
      cases h1
    · exact ⟨_, _, d2, _, u, rfl, h', (Ks.xc n hn).xf, hno n hn fs (by rw [hl]; rfl), h1, hq u H1 x r1 h2 hp⟩
end

/-! ## _law_caught(lambda: e) -/
/-- what the def makes of what it got: None, or the error -/
def TCaught (K : PySem.W.Frag) (CW : Addr) : (XK → Hp → VK → Prop) → Hp → VK → Prop := fun tl H Q =>
  tl (fun cls d H' => PySem.W.exmOne K cls (.ref CW) = some true ∧ ∀ a, H' a = none → Q (.ref a) (upd H' a (ExV cls d a))) H (fun _ H' => ∃ v : V, ([some V.non] : List (Option V))[0]? = some (some v) ∧ Q v H')
/-- work, caught = None; try: work() / except C as error: caught = error; return caught -/
theorem caught_gives {X : Cx} {x q : Str} {sg : Scope} {g CW : Addr} {cdg : Value} {c : Str} {j : Nat} {p1 p2 p3 p4 p5 p6 p7 p8 p9 p10 p11 p12 p13 p14 : Pos}
    (hge : sg.names.lookup c = some .globalImplicit) (hme : X.mg c = some (.ref CW)) (hde : (c == ("__debug__" : Str)) = false)
    (hct : sg.names.lookup ("caught" : Str) = some .local) (her : sg.names.lookup ("error" : Str) = some .local) :
    LamX.GivesTo X ["work", "caught", "error"] x sg g cdg [.Assign [.Name "caught" p1] (.Constant .none j p2) p3,
      .Try [.Expr (.Call (.Name "work" p4) [] [] p5) p6] [.ExceptHandler (some (.Name c p7)) (some "error") [.Assign [.Name "caught" p8] (.Name "error" p9) p10] p11] [] [] p12,
      .Return (some (.Name "caught" p13)) p14] "work" q (TCaught X.K CW) := by
  intro f c' s H Q tl act hc h
  have nd : (["work", "caught", "error"] : List Str).Nodup := by decide +kernel
  refine ⟨_, pss_cons (ps_set (i := 1) nd rfl (.inl hct) pe_non (hf := .inl rfl))
    (pss_cons (ps_try_keep (X := (cxOf C8.CX0 X.prog X.w X.K X.mg X.base ["work", "caught", "error"] x sg g cdg X.A X.stack s H C8.E0).nox) (i := 2) (j := 1) (c := .ref CW)
      (tb := fun W D σ H => ∃ Ech : XK, (∀ cls d σ' H', Ech cls d H' → W cls d σ' H') ∧ σ = [some (.ref f), some .non, none] ∧ H c' = some (LamX.CodeO c' q) ∧ tl Ech H (fun _ H' => D.nx σ H'))
      rfl rfl rfl nd rfl her rfl hct ⟨hge, hde, .inl hme⟩ (by decide) (by decide) (fun W pn xe tk _ => ?_))
    (pss_one (ps_ret (pe_var (i := 1) rfl (.inl hct) (by decide) (by decide))))), ?_⟩
  · refine ⟨fun pins s' σ H' D I h' => ?_⟩
    obtain ⟨Ech, hW, h1, h2, h3⟩ := h'
    have hp := act W pn xe Ech p4 p5 tk hW
    have hq := pss_one (ps_expr (pos := p6) hp (by rfl))
    subst h1
    exact hq.run pins s' _ H' D I ⟨rfl, h2, h3⟩
  · refine ⟨fun cls d H' => PySem.W.exmOne X.K cls (.ref CW) = some true ∧ ∀ a, H' a = none → Q (.ref a) (upd H' a (ExV cls d a)), ?_, rfl, hc, ?_⟩
    · rintro cls d σ' H' ⟨e1, e2⟩
      refine ⟨e1, fun hl a ha => ?_⟩
      refine ⟨.ref a, ?_, e2 a ha⟩
      match σ', hl with
      | [_, _, _], _ => rfl
    · exact h

/-- what is caught, over data: the errors' classes are among ns -/
def mCaught (ns : List Str) (m : EM) : EM := fun δ post _ => m δ (fun _ => post .non) (fun x => x.1 ∈ ns ∧ post (.err x.1 x.2))
theorem extN_R {W : Wld} {H H' : Hp} (ok : W.ok H) (e : LamX.ExtN H H') (t : LamX.Tabs W.tb H') : W.R H H' := by
  refine ⟨⟨fun d l c hd => ?_, t, fun q hq => e _ _ (ok.own q hq) (ok.ownO q hq).tb, ok.sep, ok.ownO⟩, fun a o h => ?_⟩
  · obtain ⟨r, t, lg, h1, h2, h3, h4, h5, h6, h7⟩ := ok.dr d l c hd
    exact ⟨r, t, lg, e _ _ h1 (fun _ z => nomatch z), h2, h3, e _ _ h4 (fun _ z => nomatch z), h5, e _ _ h6 (fun _ z => nomatch z), h7⟩
  · unfold Wld.cut at h ⊢
    split at h
    · cases h
    · rename_i hm
      rw [if_neg hm]
      split at h
      · cases h
      · rename_i nt
        rw [e _ _ h fun ps z => nt ps (by rw [h, z])]
        split
        · rename_i ps z
          cases z
          exact absurd h (nt ps)
        · rfl
section
variable {X : Cx} {E : XK} {x : Str} {st : Stmt} {g CW c P : Addr} {cn : Str} {k : Nat} {fd : FuncData} {ns : List Str} {params : Arguments} {body : Expr} {scope : Scope} {m : EM} {p lpos pos : Pos}
theorem px_caught (hg : Gl X x) (hm : X.mg x = some (.ref g)) (F : FunD X.K x x (defArgs st) (defBody st) (defScope st) [] [] g fd) (hb : Binds X.K fd ["work"] []) (S : FnScope ["work", "caught", "error"] ["work"] (defScope st))
    (hva : Vis (defScope st) ("work" : Str)) (hG : ∀ (cdg : Value) (q : Str), LamX.GivesTo X ["work", "caught", "error"] x (defScope st) g cdg (defBody st) "work" q (TCaught X.K CW))
    (hex : ∀ n ∈ ns, PySem.W.exmOne X.K (.ref (He.ga X.K n)) (.ref CW) = some true)
    (TB : LamX.TabB X.base X.mg c P) (hcode : X.env.code = .ref c) (hmT : (P, X.env.qual ++ "<lambda>") ∈ TabsOf.tb X.K) (hu : ∀ p ∈ TabsOf.tb X.K, p.1 = P → p.2 = X.env.qual ++ "<lambda>")
    (hr : Room (k + 2) X.A) (L : LamX.LamS X.env.scope scope)
    (hbody : ∀ (A : Around) (outer : List PySem.Env) (s : Shared) (H : Hp) (E' : XK) (f c' : Addr), Room k (A.deeper (LamX.lamEnv X scope s.heap.objs.size f c')) → PX (LamX.lamCx X A outer s H E' scope f c') E' body m)
    (hdef : defaultsOf params X.env = ([], []) := by rfl)
    (hbind : ∀ (q : Str) (cl : List (Str × Addr)) (pm cv ctv : Value), bindArgs (PySem.W.kla_fn "<lambda>" q params body scope cl pm cv ctv) ⟨[], []⟩ = pure [] := by intros; rfl)
    (hdb : (x == ("__debug__" : Str)) = false := by decide) :
    PX X E (.Call (.Name x p) [.Lambda params body scope lpos] [] pos) (mCaught ns m) := by
  obtain ⟨oc, od, dV, kV, doc, pm, an, cdv, ct, osl, rfl, lk, hcd, hD, hK⟩ := F.ex
  refine ⟨_, LamX.pe_lamcall (Ng := ["work", "caught", "error"]) (T := TabsOf.tb X.K) (t := fun E' => tS X.K E' m) (TT := TCaught X.K CW) hg hm F.kp lk hcd hb S rfl hva (hG cdv _) TB hcode hmT hu hr L hdef hbind
    (fun A outer s H E' f c' hr2 => px_star (hbody A outer s H E' f c' hr2)) hdb (by decide) (by decide), fun W σ H Q δ post ex hs ok hmm hq lx => ?_⟩
  refine ⟨by rw [← hs.tb]; exact ok.tb, fun H1 e1 t1 => ?_⟩
  have r1 : W.R H H1 := extN_R ok e1 (by rw [hs.tb]; exact t1)
  refine ⟨W, δ, _, _, hs.R r1, r1.ok, hmm, ?_, ?_⟩
  · intro v H' d r2 hv hp
    exact ⟨.non, rfl, hq .non H' .non (r1.trans r2) .non hp⟩
  · rintro ⟨n, fs⟩ C d H' ⟨r2, rfl, xs, hda, hdd⟩ ⟨hn, hp⟩
    refine ⟨hex n hn, fun a ha => ?_⟩
    have r3 : W.R H' (upd H' a (ExV (.ref (He.ga X.K n)) d a)) := R_new r2.ok ha
    refine hq (.ref a) _ (.err n fs) ((r1.trans r2).trans r3) (.err (dd := d) ⟨cut_new r2.ok ha (fun _ z => nomatch z), ?_⟩ (hda.R r3)) hp
    rcases hdd with ⟨rfl, e⟩ | ⟨dd, rfl, e⟩
    · left
      have e : fs = [] := e
      subst e
      exact ⟨rfl, rfl⟩
    · right
      exact ⟨dd, rfl, r3.ex _ _ e⟩
end
end Fw
/-! # FwDraw: what a law draws: any int that may come -/
namespace Fw
open PySem PySem.Spec PyProof.Rows L2
open Evl (Ex)
variable [TabsOf]

/-! ## the draw changes, all else stays -/
section
variable {W : Wld} {H : Hp} {d l c : Addr}
theorem R_upd (ok : W.ok H) (hd : W.dr = some (d, l, c)) {a : Addr} (ha : a = d ∨ a = l) {o : HO} (hk : DrawOk (upd H a o) d l c W.cells) : W.R H (upd H a o) := by
  obtain ⟨r, t, lg, h1, h2, h3, h4, h5, h6, h7, h8⟩ := ok.dr d l c hd
  have aM : a ∈ W.M := List.mem_append_right _ (by
    rw [hd]
    rcases ha with rfl | rfl
    · exact List.mem_cons_self
    · exact List.mem_cons_of_mem _ List.mem_cons_self)
  have an : ∀ {ps : Array Value}, H a ≠ some (.tbl ps) := by
    intro ps z
    rcases ha with rfl | rfl
    · rw [h1] at z
      cases z
    · rw [h4] at z
      cases z
  have ac : ∀ {b : Addr} {q : Str}, H a ≠ some (LamX.CodeO b q) := by
    intro b q z
    rcases ha with rfl | rfl
    · rw [h1] at z
      have z : HO.dK (drK l c r t) = LamX.CodeO b q := Option.some.inj z
      cases z
    · rw [h4] at z
      have z : HO.lst (lg.map V.int) = LamX.CodeO b q := Option.some.inj z
      cases z
  refine ⟨⟨fun d' l' c' hd' => ?_, fun q hq => ?_, fun q hq => ?_, ok.sep, ok.ownO⟩, ?_⟩
  · rw [hd] at hd'
    cases hd'
    exact hk
  · obtain ⟨ps, a1, a2, a3⟩ := ok.tb q hq
    refine ⟨ps, by rw [upd_ne fun z => an (by rw [← z]; exact a1)]; exact a1, a2, fun pos cv hc => ?_⟩
    obtain ⟨c, e1, e2⟩ := a3 pos cv hc
    exact ⟨c, e1, by rw [upd_ne fun z => ac (by rw [← z]; exact e2)]; exact e2⟩
  · have : q.1 ≠ a := by
      rintro rfl
      have z := ok.sep q hq
      rw [hd] at z
      rcases ha with h | h
      · exact z (by rw [h]; exact List.mem_cons_self)
      · exact z (by rw [h]; exact List.mem_cons_of_mem _ List.mem_cons_self)
    rw [upd_ne this]
    exact ok.own q hq
  · have : W.cut (upd H a o) = W.cut H := by
      funext b
      unfold Wld.cut
      by_cases hb : b ∈ W.M
      · rw [if_pos hb, if_pos hb]
      · rw [if_neg hb, if_neg hb, upd_ne fun z => hb (by rw [z]; exact aM)]
    rw [this]
    exact Ex.refl _
/-- the dict's numbers change -/
theorem R_num (ok : W.ok H) (hd : W.dr = some (d, l, c)) {r t : Int} (hr : 0 ≤ r) (ht : 0 ≤ t) : W.R H (upd H d (.dK (drK l c r t))) := by
  refine R_upd ok hd (.inl rfl) ?_
  obtain ⟨r', t', lg, h1, h2, h3, h4, h5, h6, h7, h8⟩ := ok.dr d l c hd
  have nl : l ≠ d := by
    rintro rfl
    rw [h1] at h4
    cases h4
  have nc : c ≠ d := by
    rintro rfl
    rw [h1] at h6
    cases h6
  exact ⟨r, t, lg, upd_same, hr, ht, by rw [upd_ne nl]; exact h4, h5, by rw [upd_ne nc]; exact h6, h7, h8⟩
/-- what is large loses its first -/
theorem R_pop (ok : W.ok H) (hd : W.dr = some (d, l, c)) {x : Int} {lg : List Int} (hl : H l = some (.lst ((x :: lg).map V.int))) (hn : ∀ y ∈ lg, 0 ≤ y) : W.R H (upd H l (.lst (lg.map V.int))) := by
  refine R_upd ok hd (.inr rfl) ?_
  obtain ⟨r', t', lg', h1, h2, h3, h4, h5, h6, h7, h8⟩ := ok.dr d l c hd
  have nd : d ≠ l := by
    rintro rfl
    rw [h1] at h4
    cases h4
  exact ⟨r', t', lg, by rw [upd_ne nd]; exact h1, h2, h3, upd_same, hn, by rw [upd_ne (Ne.symm h8)]; exact h6, h7, h8⟩
end

section
variable {X : Cx} {E : XK} {a b e : Expr} {ma mb me : EM} {k j : Nat} {p2 pos : Pos}
theorem room1 {A : Around} (hr : Room k A) : A.units + 1 < cLine := by
  have := room64 hr
  omega
theorem val_rest {l c : Addr} {r t : Int} : valV (drK l c r t) (.inr "rest") = some (.int r) := by rfl
theorem val_turn {l c : Addr} {r t : Int} : valV (drK l c r t) (.inr "turn") = some (.int t) := by rfl
theorem val_large {l c : Addr} {r t : Int} : valV (drK l c r t) (.inr "large") = some (.ref l) := by rfl
theorem val_cells {l c : Addr} {r t : Int} : valV (drK l c r t) (.inr "cells") = some (.ref c) := by rfl
theorem put_rest {l c : Addr} {r t i : Int} : putK (drK l c r t) (.inr "rest") (.int i) = drK l c i t := by rfl
theorem put_turn {l c : Addr} {r t i : Int} : putK (drK l c r t) (.inr "turn") (.int i) = drK l c r i := by rfl
theorem dget_at {H : Hp} {a : Addr} {kvs : List (Key × V)} {q : Str} {v : V} (e : H a = some (.dK kvs)) (h : valV kvs (.inr q) = some v) : DGet H a (.str q) (some v) := by
  rw [← h]
  exact DGet.k (k := .inr q) e
theorem dput_at {H : Hp} {a : Addr} {kvs kvs' : List (Key × V)} {q : Str} {v : V} (e : H a = some (.dK kvs)) (hl : kvs.length < 16777216) (h : putK kvs (.inr q) v = kvs') : DPut H a (.str q) v (upd H a (.dK kvs')) := by
  rw [← h]
  exact DPut.k (k := .inr q) e (by rw [sizeLine_eq]; exact hl)

/-! ## draw['rest'], draw['turn'] -/
def mDrI (a : EM) : EM := fun δ post ex => a δ (fun d => d = .drw ∧ ∀ n : Int, 0 ≤ n → post (.int n)) ex
theorem px_drInt {key : Str} (hk : key = "rest" ∨ key = "turn") (hr : Room k X.A) (ha : PX X E a ma) (hs : NoSl (.Constant (.str key) j p2) := by intro _ _; rfl) :
    PX X E (.Subscript a (.Constant (.str key) j p2) pos) (mDrI ma) := by
  obtain ⟨t, p, ev⟩ := ha
  refine ⟨_, pe_dget (room1 hr) p pe_str hs, fun W σ H Q δ post ex hs ok hm hq lx => ?_⟩
  refine ev W σ H _ δ _ ex hs ok hm ?_ lx
  rintro v H1 d r1 hv ⟨rfl, hp⟩
  cases hv with
  | @drw dd l c hd =>
    obtain ⟨r, t, lg, h1, h2, h3, _⟩ := r1.ok.dr _ _ _ hd
    rcases hk with rfl | rfl
    · exact ⟨dd, .int r, rfl, dget_at h1 val_rest, hq _ H1 _ r1 (.int r) (hp r h2)⟩
    · exact ⟨dd, .int t, rfl, dget_at h1 val_turn, hq _ H1 _ r1 (.int t) (hp t h3)⟩

/-! ## draw['rest'] = n -/
def sDrPut (a e : EM) : SM := fun δ F => e δ (fun n => ∃ i, n = .int i ∧ 0 ≤ i ∧ a δ (fun d => d = .drw ∧ F.nx δ) F.ex) F.ex
theorem sx_drPut {key : Str} {p3 : Pos} (hk : key = "rest" ∨ key = "turn") (hr : Room k X.A) (ha : PX X E a ma) (he : PX X E e me)
    (hs : swapsWith e (some (.Subscript a (.Constant (.str key) j p2) p3)) pos.line X.env = pure false := by rfl) :
    SX X E (.Assign [.Subscript a (.Constant (.str key) j p2) p3] e pos) (sDrPut ma me) := by
  obtain ⟨t, p, ev⟩ := ha
  obtain ⟨u, q, ew⟩ := he
  refine ⟨_, ps_dput (room1 hr) p pe_str q hs, fun W σ H Z δ F hsl ok hm l => ?_⟩
  refine ew W σ H _ δ _ F.ex hsl ok hm ?_ l.ex
  rintro v H1 n r1 hv ⟨i, rfl, hi, hm⟩
  cases hv
  refine ev W σ H1 _ δ _ F.ex (hsl.R r1) r1.ok hm ?_ (l.ex.R r1)
  rintro v H2 d r2 hv ⟨rfl, hp⟩
  cases hv with
  | @drw dd l0 c hd =>
    obtain ⟨r, t, lg, h1, h2, h3, _⟩ := r2.ok.dr _ _ _ hd
    rcases hk with rfl | rfl
    · have r3 := R_num r2.ok hd hi h3
      exact ⟨dd, _, rfl, dput_at h1 (by show 4 < 16777216; decide) put_rest, l.nx _ _ _ ((r1.trans r2).trans r3) (hsl.R ((r1.trans r2).trans r3)) hp⟩
    · have r3 := R_num r2.ok hd h2 hi
      exact ⟨dd, _, rfl, dput_at h1 (by show 4 < 16777216; decide) put_turn, l.nx _ _ _ ((r1.trans r2).trans r3) (hsl.R ((r1.trans r2).trans r3)) hp⟩

/-! ## for grain in draw['cells'] -/
def iDrC (a : EM) : IM := fun δ post ex => a δ (fun d => d = .drw ∧ ∀ cs : List Int, (∀ x ∈ cs, 0 ≤ x) → post (cs.map D.int)) ex
theorem src_cells {W : Wld} {K : PySem.W.Frag} {H0 : Hp} {d l c : Addr} (hd : W.dr = some (d, l, c)) : Src W K (Itl K c) (W.cells.map D.int) H0 := by
  intro W' H sm ok e
  obtain ⟨r, t, lg, _, _, _, _, _, h6, _⟩ := ok.dr d l c (sm.dr.trans hd)
  rw [sm.cells] at h6
  have h1 : SqL K H c (W.cells.map V.int) := Evl.sq_of h6
  refine ⟨fun i d hd => ?_, fun i hi => ⟨_, h1, by rw [List.length_map] at hi ⊢; exact hi⟩⟩
  rw [List.getElem?_map] at hd
  obtain ⟨n, hn, rfl⟩ := Option.map_eq_some_iff.mp hd
  have hv : (W.cells.map V.int)[i]? = some (.int n) := by rw [List.getElem?_map, hn]; rfl
  refine ⟨⟨_, _, h1, hv⟩, fun x H' => ?_⟩
  rintro ⟨rfl, hx⟩
  have := hx _ h1
  rw [hv] at this
  cases this
  exact ⟨.refl ok, .int n⟩
theorem ix_drC {tg : Expr} (hr : Room k X.A) (ha : PX X E a ma) (hs : NoSl (.Constant (.str "cells") j p2) := by intro _ _; rfl) :
    IX X E tg (.Subscript a (.Constant (.str "cells") j p2) pos) (iDrC ma) := by
  obtain ⟨t, p, ev⟩ := ha
  refine ⟨_, pi_seq (pe_dget (room1 hr) p pe_str hs), fun W σ H R δ post ex hs ok hm hq lx => ?_⟩
  refine ev W σ H _ δ _ ex hs ok hm ?_ lx
  rintro v H1 d r1 hv ⟨rfl, hp⟩
  cases hv with
  | @drw dd l c hd =>
    obtain ⟨r, t, lg, h1, _, _, _, _, h6, h7, _⟩ := r1.ok.dr _ _ _ hd
    exact ⟨dd, .ref c, rfl, dget_at h1 val_cells, c, rfl, .inl ⟨⟨_, Evl.sq_of h6⟩, hq _ _ _ r1 (src_cells hd) (hp _ h7)⟩⟩

/-! ## draw['large'].pop(0) if draw['large'] != [] else e -/
theorem ints_pd : ∀ (ns : List Int), pds (ns.map D.int) = true ∧ PyData.depthAll (toPs (ns.map D.int)) = 0
  | [] => ⟨rfl, rfl⟩
  | n :: ns => by
    obtain ⟨h1, h2⟩ := ints_pd ns
    refine ⟨?_, ?_⟩
    · show (pd (.int n) && pds (ns.map D.int)) = true
      rw [h1]
      rfl
    · show max (PyData.depth (toP (.int n))) (PyData.depthAll (toPs (ns.map D.int))) = 0
      rw [h2]
      rfl
theorem ints_ok (ns : List Int) : eqOk (.lst (ns.map D.int)) := by
  obtain ⟨h1, h2⟩ := ints_pd ns
  refine ⟨h1, ?_⟩
  show PyData.depthAll (toPs (ns.map D.int)) + 1 ≤ 64
  rw [h2]
  decide
theorem ints_da {W : Wld} {K : PySem.W.Frag} {H : Hp} : ∀ (ns : List Int), Das W K H (ns.map V.int) (ns.map D.int)
  | [] => .nil
  | n :: ns => .cons (.int n) (ints_da ns)
def mDrPop (i : Nat) (b : EM) : EM := fun δ post ex => δ[i]? = some (some .drw) ∧ (∀ n : Int, 0 ≤ n → post (.int n)) ∧ b δ post ex
theorem px_drPop (i : Nat) {x : Str} {p0 p0' p1 p2' p3 p4 p5 p6 p7 p8 : Pos} {j3 j' : Nat} (hr : Room k X.A) (hb : PX X E b mb) (hN : X.N[i]? = some x := by rfl)
    (hv : Vis X.env.scope x := by first | exact Or.inl rfl | exact Or.inr (Or.inl rfl) | exact Or.inr (Or.inr rfl))
    (hd : (x == ("__debug__" : Str)) = false := by decide) (hcd : (x == ("__classdict__" : Str)) = false := by decide)
    (hbase : attributeBase (.Subscript (.Name x p0') (.Constant (.str "large") j' p2') p3) "pop" X.env (eval (.Subscript (.Name x p0') (.Constant (.str "large") j' p2') p3) X.env) = eval (.Subscript (.Name x p0') (.Constant (.str "large") j' p2') p3) X.env := by rfl)
    (hfew : ((backTo p6 (starEach [.Constant (.int 0) j3 p5] X.env)).all (fun x => !x.1) && (backToKw p6 (keywordEach [] X.env)).all (fun x => x.1.isSome)
      && decide (([.Constant (.int 0) j3 p5] : List Expr).length + ([] : List Keyword).length + (if ([] : List Keyword).isEmpty then 0 else 1) < 30)) = true := by rfl)
    (hline : (p4.endLine == p6.line) = true := by rfl) (hs : ∀ j p2, NoSl (.Constant (.str "large") j p2) := by intro _ _ _ _; rfl) :
    PX X E (.IfExp (.Compare (.Subscript (.Name x p0) (.Constant (.str "large") j p2) p1) [.NotEq] [.List [] p7] p8)
      (.Call (.Attribute (.Subscript (.Name x p0') (.Constant (.str "large") j' p2') p3) "pop" p4) [.Constant (.int 0) j3 p5] [] p6) b pos) (mDrPop i mb) := by
  obtain ⟨u, q, ew⟩ := hb
  have P1 : ∀ j p2 q q', PE X (.Subscript (.Name x q') (.Constant (.str "large") j p2) q) (tDGet (tVar i) (tC (.str "large"))) := fun j p2 q q' => pe_dget (room1 hr) (pe_var hN hv hd hcd) pe_str (hs j p2)
  refine ⟨_, pe_ifExp (pt_cmpR (op_neD (room64 hr)) (P1 j p2 p1 p0) (pe_lst pa_nil) (by first | rfl | exact nomark _))
    (pe_bm PySem.F.plainAttrs_list PySem.F.slot_list_pop PySem.F.type_list_pop mt_popAt (P1 j' p2' p3 p0') (pa_cons pe_int pa_nil rfl) hbase hfew hline rfl rfl) q, fun W σ H Q δ post ex hs ok hm hq lx => ?_⟩
  obtain ⟨hm, hp, hpb⟩ := hm
  obtain ⟨v, h1, hv⟩ := hs.at_ i .drw hm
  cases hv with
  | @drw dd l c hd =>
    obtain ⟨r, t, lg, g1, g2, g3, g4, g5, g6, g7, g8⟩ := ok.dr _ _ _ hd
    refine ⟨_, h1, dd, .ref l, rfl, dget_at g1 val_large, ?_⟩
    refine ⟨by rw [sizeLine_eq]; decide, fun e0 he0 => ?_⟩
    have r2 : W.R H (upd H e0 (.lst [])) := R_new ok he0
    have nl : l ≠ e0 := by
      rintro rfl
      rw [g4] at he0
      cases he0
    have nd : dd ≠ e0 := by
      rintro rfl
      rw [g1] at he0
      cases he0
    have h4' : upd H e0 (.lst []) l = some (.lst (lg.map V.int)) := by rw [upd_ne nl]; exact g4
    refine ⟨_, _, da_dp (W := W) (d := .lst (lg.map D.int)) (ints_ok lg).1 (.lst h4' (ints_da lg)), da_dp (W := W) (d := .lst []) rfl (.lst upd_same .nil), shaped_of (ints_ok lg), shaped_of (d := .lst []) ⟨rfl, by decide⟩, _, rfl, ?_⟩
    cases lg with
    | nil =>
      show u σ _ Q
      exact ew W σ _ Q δ post ex (hs.R r2) r2.ok hpb (fun v H' d r => hq v H' d (r2.trans r)) (lx.R r2)
    | cons y lg =>
      have r3 := R_pop r2.ok hd h4' fun z hz => g5 z (List.mem_cons_of_mem _ hz)
      show tBM X.K "list" rPopAt (tDGet (tVar i) (tC (.str "large"))) (tCons (tC (.int 0)) tNil) σ _ Q
      refine ⟨_, h1, dd, .ref l, rfl, dget_at (by rw [upd_ne nd]; exact g1) val_large, .inl ⟨rfl, _, Evl.sq_of h4'⟩, ?_⟩
      refine ⟨l, (y :: lg).map V.int, 0, 0, .int y, rfl, rfl, h4', by decide, by decide, ?_, rfl, ?_⟩
      · show seqIndex? 0 (lg.map V.int).length.succ = some 0
        unfold seqIndex?
        simp
      · exact hq _ _ _ (r2.trans r3) (.int y) (hp y (g5 y List.mem_cons_self))
end
end Fw
/-! # FwMiss: a tuple sought in a dict whose keys are ints and texts: it is not there -/
namespace Fw
open PySem PySem.Spec PyProof.Rows L2
section
variable {prog : Program} {w : World} {A : Around} {E : Value → Shared → Prop} {s : Shared}
/-- the keys are ints and texts -/
def LowKeys (h : Heap) (es : Array DictEntry) : Prop := ∀ e ∈ es, carriedByValue e.key = true ∧ ∃ nk : NestedKey, NestedIs h nk e.key ∧ ∀ ks, nk ≠ .tup ks
theorem lowKeys_of {h : Heap} {es : Array DictEntry} (k : KeysOf (mixKind prog w) es) : LowKeys h es := by
  intro e he
  obtain ⟨k, hk, _⟩ := k e he
  rcases keyIs_shape hk with ⟨i, t, _, e2⟩ | ⟨x, t, _, e2⟩
  · rw [e2]
    exact ⟨rfl, .num i, .int i t, fun _ z => nomatch z⟩
  · rw [e2]
    exact ⟨rfl, .text x, .text x t, fun _ z => nomatch z⟩
theorem tell_miss {a : Addr} {ks : List NestedKey} {stored : List Value} {Q : Bool → Shared → Prop} (hk : NestedIs s.heap (.tup ks) (.ref a)) (hd : NestedKey.depth (.tup ks) ≤ 8)
    (hst : ∀ v ∈ stored, carriedByValue v = true) (h : Q false s) : wpAny (model prog w) A (tableMayTell (.ref a) stored) Q E s := by
  unfold tableMayTell
  split
  · exact wpAny_pure h
  · refine wpAny_bind (quiet_key _ _ 8 s hk hd A E _ ?_)
    simp only [Bool.not_true, Bool.false_eq_true, if_false]
    refine wpAny_bind ?_
    refine wpAny_forIn_list _ (fun rest r s' => s' = s ∧ r = (none, ()) ∧ ∀ v ∈ rest, carriedByValue v = true) _ ?_ ?_ _ _ ⟨rfl, rfl, hst⟩
    · rintro x rest r s' ⟨rfl, rfl, hr⟩
      refine wpAny_bind ?_
      rw [eqIsQuiet_byValue 8 (hr x List.mem_cons_self)]
      refine wpAny_pure ?_
      simp only [Bool.not_true, Bool.false_eq_true, if_false]
      exact wpAny_pure ⟨rfl, rfl, fun v hv => hr v (List.mem_cons_of_mem _ hv)⟩
    · rintro r s' ⟨rfl, rfl, _⟩
      exact wpAny_pure h
theorem find_miss {d a : Addr} {o : Obj} {es ep} {ks : List NestedKey} {hh : Int} {Q : Option Nat → Shared → Prop} (hu : A.units + 8 < cLine)
    (hk : NestedIs s.heap (.tup ks) (.ref a)) (hdp : NestedKey.depth (.tup ks) ≤ 8) (ho : s.heap.get? d = some o) (hd : o.data = .dict es ep) (lk : LowKeys s.heap es) (h : Q none s) :
    wpAny (model prog w) A (dictFind d (.ref a) hh) Q E s := by
  have hany : ¬ (es.any fun e => e.key == Value.ref a && e.hash != hh) = true := by
    rw [← Array.any_toList, List.any_eq_true]
    rintro ⟨e, hin, hc⟩
    have := (lk e (Array.mem_toList_iff.mp hin)).1
    simp only [Bool.and_eq_true, beq_iff_eq] at hc
    rw [hc.1] at this
    cases this
  have hst : ∀ v ∈ (placesWithHash es.size (fun i => es[i]?.map (·.hash)) hh).filterMap (fun i => es[i]?.map (·.key)), carriedByValue v = true := by
    intro v hv
    obtain ⟨i, _, hi⟩ := List.mem_filterMap.mp hv
    cases hei : es[i]? with
    | none => rw [hei] at hi; cases hi
    | some e =>
      rw [hei] at hi
      obtain rfl : e.key = v := by simpa using hi
      exact (lk e (Array.mem_of_getElem? hei)).1
  unfold dictFind
  try with_reducible refine wpAny_holding ?_
  refine wpAny_bind (wpAny_dictEntries ho hd ?_)
  dsimp only
  rw [if_neg (show ¬ ((Value.ref a :: (placesWithHash es.size (fun i => es[i]?.map (·.hash)) hh).filterMap (fun i => es[i]?.map (·.key))).all carriedByValue) = true by simp [carriedByValue])]
  rw [if_neg hany]
  by_cases hone : (((placesWithHash es.size (fun i => es[i]?.map (·.hash)) hh).filterMap (fun i => es[i]?.map (·.key))) == [Value.ref a]) = true <;>
  (first | rw [if_pos hone] | rw [if_neg hone]) <;> (first | refine wpAny_bind (wpAny_pure ?_) | refine wpAny_bind (tell_miss hk hdp hst ?_)) <;> (
    rw [if_neg (by simp)]
    refine wpAny_bind ?_
    refine wpAny_forIn_list _ (fun rest b s' => s' = s ∧ b = (none, none)) _ ?_ ?_ _ _ ⟨rfl, rfl⟩
    · rintro x rest b s' ⟨rfl, rfl⟩
      cases hex : es[x]? with
      | none => exact wpAny_pure ⟨rfl, rfl⟩
      | some e =>
        dsimp only
        by_cases hq : (e.hash == hh) = true
        · rw [if_pos hq]
          obtain ⟨_, nk, hn, hne⟩ := lk e (Array.mem_of_getElem? hex)
          have hb : NestedKey.beq nk (.tup ks) = false := by
            rw [← NestedKey.decide_eq]
            exact decide_eq_false (hne ks)
          refine wpAny_bind (wpAny_dictEpoch ho hd (wpAny_bind ((eqAt_key nk (.tup ks) A s' _ _ hn hk (by omega)) _ _ _ _ (wpAny_bind (wpAny_dictEpoch ho hd ?_)))))
          rw [hb]
          show wpAny _ _ (if (ep != ep) = true then _ else _) _ E _
          rw [if_neg (by simp)]
          simp only [Bool.false_eq_true, if_false]
          refine wpAny_bind (wpAny_rule ?_)
          first | rw [if_neg (by simp)] | skip
          first
            | exact wpAny_pure ⟨rfl, rfl⟩
            | exact wpAny_bind (wpAny_pure (wpAny_pure ⟨rfl, rfl⟩))
        · rw [if_neg hq]
          exact wpAny_pure ⟨rfl, rfl⟩
    · rintro b s' ⟨rfl, rfl⟩
      exact wpAny_pure h)
theorem dget_miss {d a : Addr} {o : Obj} {es ep} {ks : List NestedKey} {Q : Option Value → Shared → Prop} (hu : A.units + 8 < cLine)
    (hk : NestedIs s.heap (.tup ks) (.ref a)) (hdp : NestedKey.depth (.tup ks) ≤ 8) (ho : s.heap.get? d = some o) (hd : o.data = .dict es ep) (lk : LowKeys s.heap es)
    (h : Q none { s with toks := s.toks + NestedKey.draws (.tup ks) }) : wpAny (model prog w) A (dictGet d (.ref a)) Q E s := by
  unfold dictGet
  try with_reducible refine wpAny_holding ?_
  refine wpAny_bind (pyHash_key _ _ _ _ _ hk (by omega) (wpAny_bind (find_miss (s := { s with toks := s.toks + NestedKey.draws (.tup ks) }) hu hk hdp ho hd lk ?_)))
  exact wpAny_pure h
end
section
variable {X : Cx} {pins : List (Addr × Obj)} {σ : L2.St} {H : Hp} {s : Shared} {a b : Addr} {r : Value} {A : Around} {E : Value → Shared → Prop}
/-- d.get(y, x), y a tuple -/
theorem d_get2_miss {Q : Value → Shared → Prop} {kvs : List (Key × V)} {ks : List NestedKey} (hu : A.units + 9 < cLine) (I : Inv X pins σ H s) (e : Rd H a (.dK kvs)) (hk : NestedIs s.heap (.tup ks) (.ref b)) (hdp : NestedKey.depth (.tup ks) ≤ 8)
    (h : ∀ s', Inv X pins σ H s' → Q r s') : wpAny (model X.prog X.w) A (call (.builtin "dict.get") [.ref a, .ref b, r]) Q E s := by
  obtain ⟨z, hd, vs, rel, dd⟩ := dk_rd I.hok e
  obtain ⟨o, es, ep, h1, h2, h3, h4, h5⟩ := dd.mapOf
  refine call_meetsIn PySem.F.slot_dict_get dd.typeIs PySem.F.entry_dict_get (PySem.F.args_dict_get_3 _ _ _)
    (S := fun A' R s' => A' = A ∧ s' = s ∧ R (.ok (.ret r)) { s with toks := s.toks + NestedKey.draws (.tup ks) }) (fun A' R s' hS => ?_) ?_
  · obtain ⟨rfl, rfl, hq⟩ := hS
    show wpAny _ _ (dictGet a (.ref b) >>= _) _ _ _
    refine wpAny_bind (dget_miss (by first | exact hu | (show A.in1.units + 8 < cLine; exact hu) | omega) hk hdp h1 h3 (lowKeys_of h4) ?_)
    show wpAny _ _ (Builtin.Dict.missed a (.ref b) >>= _) _ _ _
    exact wpAny_bind (wpAny_missed_other hd (wpAny_pure hq))
  · exact ⟨rfl, rfl, h _ (I.tok _)⟩
end
end Fw
/-! # FwGet: displays of dicts, d[k], d.get(k, e) -/
namespace Fw
open PySem PySem.Spec PyProof.Rows L2
open Evl (Ex)
variable [TabsOf]

/-! ## what grew comes to stand -/
section
variable {W : Wld} {H H2 : Hp} {p : Addr} {o o2 : HO}
theorem new_out (ok : W.ok H) (hp : H p = none) : p ∉ W.M := fun hb => by
  obtain ⟨u, hu⟩ := mem_there ok hb
  rw [hp] at hu
  cases hu
theorem grow_new (ok : W.ok H) (hp : H p = none) (oa : Own o) : (W.grow p o).ok (upd H p o) := grow_ok (ok_ex ok (Ex.new hp)) (new_out ok hp) oa upd_same
/-- it is let go, as it stands -/
theorem grow_done (ok : W.ok H) (hp : H p = none) (oa : Own o) (oa2 : Own o2) (r : (W.grow p o).R (upd H p o) H2) : W.R H (upd H2 p o2) ∧ W.cut (upd H2 p o2) p = some o2 ∧ Ex ((W.grow p o).cut H2) (W.cut (upd H2 p o2)) := by
  have pM := new_out ok hp
  have g2 : (W.grow p o2).ok (upd H2 p o2) := grow_put pM oa2 r.ok
  have e2 : Ex ((W.grow p o).cut H2) (W.cut (upd H2 p o2)) := by
    have : (W.grow p o2).cut (upd H2 p o2) = (W.grow p o).cut H2 := grow_upd
    rw [← this]
    exact grow_sub
  refine ⟨⟨(grow_of g2).1, ?_⟩, ?_, e2⟩
  · exact ((grow_in hp (R_new ok hp).ex).trans r.ex).trans e2
  · unfold Wld.cut
    rw [if_neg pM, upd_same]
    split
    · rename_i ps z
      cases z
      exact absurd rfl (oa2.tb ps)
    · rfl
end
theorem XLink.grow {W : Wld} {K : PySem.W.Frag} {H : Hp} {p : Addr} {o : HO} {E : XK} {ex : EX → Prop} (ok : W.ok H) (hp : H p = none) (oa : Own o) (l : XLink W K H E ex) : XLink (W.grow p o) K (upd H p o) E ex := by
  rintro x C d H' ⟨r, hC, xs, hda, hdd⟩ hx
  have sm : (W.grow p o).Sm W := ⟨rfl, rfl, rfl⟩
  obtain ⟨ok', hpo⟩ := grow_of r.ok
  refine l x C d H' ⟨⟨ok', ?_⟩, hC, xs, (hda.sm sm).up grow_sub, ?_⟩ hx
  · exact ((grow_in hp (R_new ok hp).ex).trans r.ex).trans grow_sub
  · rcases hdd with h | ⟨dd, h1, h2⟩
    · exact .inl h
    · exact .inr ⟨dd, h1, grow_sub _ _ h2⟩
theorem SL.grow {W : Wld} {K : PySem.W.Frag} {σ : L2.St} {H : Hp} {δ : Env} {p : Addr} {o : HO} (ok : W.ok H) (hp : H p = none) (h : SL W K σ H δ) : SL (W.grow p o) K σ (upd H p o) δ :=
  h.sm (grow_sm W p o) (grow_in hp (R_new ok hp).ex)

/-! ## {k: e, ..} -/
def EvP (W : Wld) (K : PySem.W.Frag) (E : XK) (trs : List (TE × TE)) (ks : List Key) (m : AM) : Prop := ∀ σ H Q δ post ex, SL W K σ H δ → W.ok H → m δ post ex →
  (∀ (ps : List (V × V)) H' ds, W.R H H' → ps.map (·.1) = ks.map kV → Das W K (W.cut H') (ps.map (·.2)) ds → post ds → Q ps H') → XLink W K H E ex → tPairs trs σ H Q
def DPX (X : Cx) (E : XK) (pos : Pos) (keys : List (Option Expr)) (vals : List Expr) (ks : List Key) (m : AM) : Prop := ∃ trs, PPs X pos keys vals trs ∧ ∀ W, EvP W X.K E trs ks m
section
variable {X : Cx} {E : XK} {e : Expr} {me : EM} {m : AM} {keys : List (Option Expr)} {vals : List Expr} {ks : List Key} {p pos : Pos} {j : Nat}
theorem dx_nil : DPX X E pos [] [] [] mNil := ⟨_, pps_nil, fun W σ H Q δ post ex hs ok hm hq _ => hq [] H [] (.refl ok) rfl .nil hm⟩
theorem dx_str {x : Str} (he : PX X E e me) (h : DPX X E pos keys vals ks m) : DPX X E pos (some (.Constant (.str x) j p) :: keys) (e :: vals) (.inr x :: ks) (mCons me m) := by
  obtain ⟨t, q, ev⟩ := he
  obtain ⟨trs, r, ew⟩ := h
  refine ⟨_, pps_cons pe_str q r, fun W σ H Q δ post ex hs ok hm hq lx => ?_⟩
  refine ev W σ H _ δ _ ex hs ok hm ?_ lx
  intro v H1 d r1 hv hm
  refine ew W σ H1 _ δ _ ex (hs.R r1) r1.ok hm ?_ (lx.R r1)
  intro ps H2 ds r2 h1 h2 hp
  exact hq _ H2 (d :: ds) (r1.trans r2) (by rw [List.map_cons, List.map_cons, h1]; rfl) (.cons (hv.R r2) h2) hp
theorem dx_int {i : Int} (he : PX X E e me) (h : DPX X E pos keys vals ks m) : DPX X E pos (some (.Constant (.int i) j p) :: keys) (e :: vals) (.inl i :: ks) (mCons me m) := by
  obtain ⟨t, q, ev⟩ := he
  obtain ⟨trs, r, ew⟩ := h
  refine ⟨_, pps_cons pe_int q r, fun W σ H Q δ post ex hs ok hm hq lx => ?_⟩
  refine ev W σ H _ δ _ ex hs ok hm ?_ lx
  intro v H1 d r1 hv hm
  refine ew W σ H1 _ δ _ ex (hs.R r1) r1.ok hm ?_ (lx.R r1)
  intro ps H2 ds r2 h1 h2 hp
  exact hq _ H2 (d :: ds) (r1.trans r2) (by rw [List.map_cons, List.map_cons, h1]; rfl) (.cons (hv.R r2) h2) hp
def mDic (ks : List Key) (m : AM) : EM := fun δ post ex => m δ (fun ds => ds.length = ks.length → post (.dic ks ds)) ex
theorem putK_new {kvs : List (Key × V)} {k : Key} {v : V} (h : k ∉ kvs.map (·.1)) : putK kvs k v = kvs ++ [(k, v)] := by
  unfold putK
  rw [if_neg]
  intro q
  obtain ⟨x, hx, hk⟩ := List.any_eq_true.mp q
  exact h (List.mem_map.mpr ⟨x, hx, of_decide_eq_true hk⟩)
theorem mergeK_new : ∀ (more kvs : List (Key × V)), (kvs.map (·.1) ++ more.map (·.1)).Nodup → mergeK kvs more = kvs ++ more
  | [], kvs, _ => (List.append_nil _).symm
  | p :: r, kvs, h => by
    have h1 : p.1 ∉ kvs.map (·.1) := fun z => by
      have := (List.nodup_append.mp h).2.2 _ z p.1 (by simp)
      exact this rfl
    show mergeK (putK kvs p.1 p.2) r = _
    rw [putK_new h1, mergeK_new r]
    · simp
    · simpa using h
theorem pairs_split : ∀ (ps : List (V × V)) (ks : List Key), ps.map (·.1) = ks.map kV → ∃ kvs : List (Key × V), ps = kvs.map (fun kv => (kV kv.1, kv.2)) ∧ kvs.map (·.1) = ks ∧ kvs.map (·.2) = ps.map (·.2)
  | [], [], _ => ⟨[], rfl, rfl, rfl⟩
  | [], _ :: _, h => by cases h
  | _ :: _, [], h => by cases h
  | (x, y) :: ps, k :: ks, h => by
    rw [List.map_cons, List.map_cons] at h
    obtain ⟨kvs, h1, h2, h3⟩ := pairs_split ps ks (List.cons.inj h).2
    have e : x = kV k := (List.cons.inj h).1
    exact ⟨(k, y) :: kvs, by rw [List.map_cons, ← h1, ← e], by rw [List.map_cons, h2], by rw [List.map_cons, h3]; rfl⟩
theorem px_dic (h : DPX X E pos keys vals ks m) (hn : ks.Nodup) (hl : ks.length ≤ 15 := by decide) (hall : keys.all (·.isSome) = true := by rfl) (hlen : keys.length = vals.length := by rfl) (h0 : keys ≠ [] := by intro z; cases z) (h15 : keys.length ≤ 15 := by decide) :
    PX X E (.Dict keys vals pos) (mDic ks m) := by
  obtain ⟨trs, r, ew⟩ := h
  refine ⟨_, pe_disp r hall hlen h0 h15, fun W σ H Q δ post ex hs ok hm hq lx p hp => ?_⟩
  refine ew (W.grow p (.dK [])) σ _ _ δ _ ex (hs.grow ok hp) (grow_new ok hp own_dK) hm ?_ (lx.grow ok hp own_dK)
  intro ps H2 ds r1 h1 h2 hpost
  obtain ⟨kvs, e1, e2, e3⟩ := pairs_split ps ks h1
  have hk : (grow_of r1.ok).2 = (grow_of r1.ok).2 := rfl
  refine ⟨(grow_of r1.ok).2, kvs, e1, by rw [← List.length_map (f := (·.1)), e2]; exact hl, ?_⟩
  have em : mergeK [] kvs = kvs := by
    rw [mergeK_new kvs [] (by rw [e2]; exact hn)]
    rfl
  rw [em]
  obtain ⟨r2, c2, x2⟩ := grow_done ok hp own_dK (o2 := .dK kvs) own_dK r1
  have sm : (W.grow p (.dK [])).Sm W := ⟨rfl, rfl, rfl⟩
  rw [← e3] at h2
  refine hq _ _ _ r2 (.dic c2 e2 ((h2.sm sm).up x2)) (hpost ?_)
  rw [← h2.length, List.length_map, ← List.length_map (f := (·.1)), e2]
end

/-! ## a tuple as a key -/
mutual
def keyD : D → Option NestedKey
  | .non => some .none | .bl b => some (.num (if b = true then 1 else 0)) | .int i => some (.num i) | .str x => some (.text x)
  | .tup ds => (keysD ds).map .tup
  | .lst _ => none | .dic _ _ => none | .err _ _ => none | .drw => none | .scr _ => none | .pin _ => none
def keysD : List D → Option (List NestedKey)
  | [] => some []
  | d :: ds => (keyD d).bind fun k => (keysD ds).map (k :: ·)
end
section
variable {X : Cx} {pins : List (Addr × Obj)} {σ : L2.St} {H : Hp} {s : Shared} {W : Wld}
mutual
theorem nested_of (I : Inv X pins σ H s) : ∀ {d : D} {v : V} {u : Value} {k : NestedKey}, Da W X.K H v d → RelV v u → keyD d = some k → NestedIs s.heap k u
  | _, _, _, _, .non, r, e => by
    unfold keyD at e
    cases e
    cases (show _ = Value.none from r)
    exact .none
  | _, _, _, _, .bl b, r, e => by
    unfold keyD at e
    cases e
    cases (show _ = Value.bool b from r)
    exact .bool rfl
  | _, _, _, _, .int i, r, e => by
    unfold keyD at e
    cases e
    obtain ⟨t, rfl⟩ := r
    exact .int i t
  | _, _, _, _, .str x, r, e => by
    unfold keyD at e
    cases e
    obtain ⟨t, rfl⟩ := r
    exact .text x t
  | .tup ds, _, _, _, .tup (a := a) (xs := xs) h hd, r, e => by
    unfold keyD at e
    obtain ⟨ks, hk, rfl⟩ := Option.map_eq_some_iff.mp e
    cases (show _ = Value.ref a from r)
    obtain ⟨its, rv, ⟨o, h1, h2, n, h3⟩, _⟩ := I.tuple h
    exact .tup h1 h2 h3 (nesteds_of I hd rv hk)
  | .lst _, _, _, _, _, _, e => by unfold keyD at e; cases e
  | .dic _ _, _, _, _, _, _, e => by unfold keyD at e; cases e
  | .err _ _, _, _, _, _, _, e => by unfold keyD at e; cases e
  | .drw, _, _, _, _, _, e => by unfold keyD at e; cases e
  | .scr _, _, _, _, _, _, e => by unfold keyD at e; cases e
  | .pin _, _, _, _, _, _, e => by unfold keyD at e; cases e
theorem nesteds_of (I : Inv X pins σ H s) : ∀ {ds : List D} {vs : List V} {us : List Value} {ks : List NestedKey}, Das W X.K H vs ds → Vals vs us → keysD ds = some ks → NestedAll s.heap ks us
  | [], _, _, _, .nil, .nil, e => by
    unfold keysD at e
    cases e
    exact .nil
  | d :: ds, _, _, _, .cons h hs, .cons r rs, e => by
    unfold keysD at e
    obtain ⟨k, hk, e2⟩ := Option.bind_eq_some_iff.mp e
    obtain ⟨ks, hks, rfl⟩ := Option.map_eq_some_iff.mp e2
    exact .cons (nested_of I h r hk) (nesteds_of I hs rs hks)
end
end

/-! ## d.get(k, e) -/
/-- what is sought in the dict at a: what is found -/
def DSeek (K : PySem.W.Frag) (H : Hp) (a : Addr) (y : V) (r : Option V) : Prop := DGet H a y r ∨
  ∃ (kvs : List (Key × V)) (b : Addr) (W : Wld) (d : D) (ks : List NestedKey), r = none ∧ H a = some (.dK kvs) ∧ y = .ref b ∧ Da W K H (.ref b) d ∧ keyD d = some (.tup ks) ∧ NestedKey.depth (.tup ks) ≤ 8
theorem DSeek.up {K : PySem.W.Frag} {H H' : Hp} {a : Addr} {y : V} {r : Option V} (e : Ex H H') (h : DSeek K H a y r) : DSeek K H' a y r := by
  have rd : ∀ {u : HO}, Rd H a u → Rd H' a u := fun h => h.imp (e _ _) fun ⟨o, ho⟩ => ⟨o, e _ _ ho⟩
  rcases h with (⟨kvs, k, h1, h2, h3⟩ | ⟨kvs, k, b, h1, h2, h3, h4⟩) | ⟨kvs, b, W, d, ks, h1, h2, h3, h4, h5, h6⟩
  · exact .inl (.inl ⟨kvs, k, rd h1, h2, h3⟩)
  · exact .inl (.inr ⟨kvs, k, b, rd h1, h2, e _ _ h3, h4⟩)
  · exact .inr ⟨kvs, b, W, d, ks, h1, e _ _ h2, h3, h4.up e, h5, h6⟩
def tGetU (K : PySem.W.Frag) (td ty tx : TE) : TE := fun σ H Q => td σ H fun x H1 => ∃ a, x = .ref a ∧ IsD H1 a ∧ ty σ H1 fun y H2 => tx σ H2 fun z H3 => ∃ o, DSeek K H3 a y o ∧ Q (o.getD z) H3
section
variable {X : Cx} {o e f : Expr} {apos cpos : Pos} {td ty tx : TE}
theorem pe_getU (hu : X.A.units + 9 < cLine) (ho : PE X o td) (he : PE X e ty) (hf : PE X f tx) (m : M2 X o "get" apos e f cpos) : PE X (.Call (.Attribute o "get" apos) [e, f] [] cpos) (tGetU X.K td ty tx) := by
  refine ⟨fun pins s σ H Q I h => ?_⟩
  refine wpAny_Call_method m.base m.few m.line PySem.F.plainAttrs_dict PySem.F.slot_dict_get PySem.F.type_dict_get (thn (ho.run pins s σ H _ I h) fun u s1 ⟨x, H1, I1, rx, a, ex, d, q1⟩ => ?_)
  subst ex
  obtain rfl : u = Value.ref a := rx
  obtain ⟨t1, t2, _⟩ := isD_at I1 d
  refine ⟨t1, t2, ?_⟩
  rw [m.trees]
  refine Calls.callWith_builtin rfl (Calls.evalArgs_plain (Calls.spliced_cons (thn (he.run pins s1 σ H1 _ I1 q1) fun iv s2 ⟨y, H2, I2, ry, q2⟩ =>
    Calls.spliced_cons (thn (hf.run pins s2 σ H2 _ I2 q2) fun fv s3 ⟨z, H3, I3, rz, ov, g, q3⟩ => Calls.spliced_nil ?_))))
  rcases g with g | ⟨kvs, b, W, d, ks, rfl, hk, rfl, hd, hkd, hdp⟩
  · exact d_get2 (by omega) I3 g ry rz fun w' s4 I4 rw' => ⟨_, H3, I4, rw', q3⟩
  · cases (show iv = Value.ref b from ry)
    exact d_get2_miss hu I3 (.inl hk) (nested_of I3 hd rfl hkd) hdp fun s4 I4 => ⟨z, H3, I4, rz, q3⟩
end
/-- what a dict of data gives -/
def lookD : List Key → List D → Key → Option D
  | k :: ks, d :: ds, q => if q = k then some d else lookD ks ds q
  | _, _, _ => none
def dKey : D → Option Key
  | .int i => some (.inl i)
  | .str x => some (.inr x)
  | _ => none
/-- the result of .get -/
def getD (ks : List Key) (ds : List D) (q z : D) : Option D := match q with
  | .int i => some ((lookD ks ds (.inl i)).getD z)
  | .str x => some ((lookD ks ds (.inr x)).getD z)
  | .tup es => match keysD es with
    | some k => if NestedKey.depth (.tup k) ≤ 8 then some z else none
    | none => none
  | _ => none
def mGet (a q z : EM) : EM := fun δ post ex => a δ (fun x => ∃ ks ds, x = .dic ks ds ∧ q δ (fun y => z δ (fun w => ∃ r, getD ks ds y w = some r ∧ post r) ex) ex) ex
theorem look_of {W : Wld} {K : PySem.W.Frag} {H : Hp} {q : Key} : ∀ {kvs : List (Key × V)} {ds : List D}, Das W K H (kvs.map (·.2)) ds →
    (valV kvs q = none ∧ lookD (kvs.map (·.1)) ds q = none) ∨ ∃ v d, valV kvs q = some v ∧ lookD (kvs.map (·.1)) ds q = some d ∧ Da W K H v d
  | [], _, .nil => .inl ⟨rfl, rfl⟩
  | (k, v) :: kvs, _, .cons (d := d) (ds := ds) h r => by
    by_cases e : q = k
    · refine .inr ⟨v, d, valV_pos (p := (k, v)) e.symm, ?_, h⟩
      show (if q = k then some d else _) = _
      rw [if_pos e]
    · have : valV ((k, v) :: kvs) q = valV kvs q := valV_neg (p := (k, v)) fun z => e z.symm
      rw [this]
      show (_ ∧ (if q = k then some d else lookD (kvs.map (·.1)) ds q) = none) ∨ ∃ v' d', _ ∧ (if q = k then some d else lookD (kvs.map (·.1)) ds q) = some d' ∧ _
      rw [if_neg e]
      exact look_of r
theorem seek_of {W : Wld} {K : PySem.W.Frag} {H : Hp} {a : Addr} {y u : V} {ks : List Key} {ds : List D} {q z r : D} (hd : Da W K H (.ref a) (.dic ks ds)) (hy : Da W K H y q) (hz : Da W K H u z) (e : getD ks ds q z = some r) :
    ∃ o, DSeek K H a y o ∧ Da W K H (o.getD u) r := by
  cases hd with
  | @dic _ kvs _ _ h1 h2 h3 =>
    subst h2
    cases hy <;> first
      | (cases e; done)
      | skip
    case int i =>
      have e : some ((lookD (kvs.map (·.1)) ds (.inl i)).getD z) = some r := e
      refine ⟨valV kvs (.inl i), .inl (DGet.k (k := .inl i) h1), ?_⟩
      rcases look_of (q := .inl i) h3 with ⟨e1, e2⟩ | ⟨v, d, e1, e2, hv⟩
      · rw [e2] at e
        cases e
        rw [e1]
        exact hz
      · rw [e2] at e
        cases e
        rw [e1]
        exact hv
    case str x =>
      have e : some ((lookD (kvs.map (·.1)) ds (.inr x)).getD z) = some r := e
      refine ⟨valV kvs (.inr x), .inl (DGet.k (k := .inr x) h1), ?_⟩
      rcases look_of (q := .inr x) h3 with ⟨e1, e2⟩ | ⟨v, d, e1, e2, hv⟩
      · rw [e2] at e
        cases e
        rw [e1]
        exact hz
      · rw [e2] at e
        cases e
        rw [e1]
        exact hv
    case tup b xs es ht hr =>
      have e : (match keysD es with
        | some k => if NestedKey.depth (.tup k) ≤ 8 then some z else none
        | none => none) = some r := e
      split at e
      · rename_i k hk
        split at e
        · rename_i hdp
          cases e
          exact ⟨none, .inr ⟨kvs, b, W, .tup es, k, rfl, h1, rfl, .tup ht hr, by unfold keyD; rw [hk]; rfl, hdp⟩, hz⟩
        · cases e
      · cases e
section
variable {X : Cx} {E : XK} {o e f : Expr} {mo me mf : EM} {k : Nat} {apos cpos : Pos}
theorem px_get (hr : Room k X.A) (ho : PX X E o mo) (he : PX X E e me) (hf : PX X E f mf) (m : M2 X o "get" apos e f cpos := by exact ⟨rfl, rfl, rfl, rfl⟩) : PX X E (.Call (.Attribute o "get" apos) [e, f] [] cpos) (mGet mo me mf) := by
  obtain ⟨t, p, ev⟩ := ho
  obtain ⟨u, q, ew⟩ := he
  obtain ⟨w, r, ex'⟩ := hf
  have := room64 hr
  refine ⟨_, pe_getU (by omega) p q r m, fun W σ H Q δ post ex hs ok hm hq lx => ?_⟩
  refine ev W σ H _ δ _ ex hs ok hm ?_ lx
  rintro v H1 x r1 hv ⟨ks, ds, rfl, hm⟩
  obtain ⟨a, rfl⟩ : ∃ a, v = .ref a := by
    cases hv
    exact ⟨_, rfl⟩
  refine ⟨a, rfl, ?_, ?_⟩
  · cases hv with
    | dic h1 _ _ => exact .inl ⟨_, .inl (cut_sub _ _ h1)⟩
  refine ew W σ H1 _ δ _ ex (hs.R r1) r1.ok hm ?_ (lx.R r1)
  intro y H2 dy r2 hy hm
  refine ex' W σ H2 _ δ _ ex (hs.R (r1.trans r2)) r2.ok hm ?_ (lx.R (r1.trans r2))
  rintro z H3 dz r3 hz ⟨r, hr, hp⟩
  obtain ⟨o, g1, g2⟩ := seek_of (hv.R (r2.trans r3)) (hy.R r3) hz hr
  exact ⟨o, g1.up cut_sub, hq _ H3 r ((r1.trans r2).trans r3) g2 hp⟩

/-! ## d[k] -/
def fDAt (a b z : D) : Prop := ∃ ks ds q, a = .dic ks ds ∧ dKey b = some q ∧ lookD ks ds q = some z
theorem px_dat (hr : Room k X.A) (ho : PX X E o mo) (he : PX X E e me) (hs : NoSl e := by intro _ _; rfl) {pos : Pos} : PX X E (.Subscript o e pos) (mOp fDAt mo me) := by
  obtain ⟨t, p, ev⟩ := ho
  obtain ⟨u, q, ew⟩ := he
  refine ⟨_, pe_dget (room1 hr) p q hs, fun W σ H Q δ post ex hs ok hm hq lx => ?_⟩
  refine ev W σ H _ δ _ ex hs ok hm ?_ lx
  intro v H1 x r1 hv hm
  refine ew W σ H1 _ δ _ ex (hs.R r1) r1.ok hm ?_ (lx.R r1)
  rintro y H2 dy r2 hy ⟨z, ⟨ks, ds, q, rfl, hk, hl⟩, hp⟩
  have hv2 := hv.R r2
  cases hv2 with
  | @dic a kvs _ _ h1 h2 h3 =>
    subst h2
    rcases look_of (q := q) h3 with ⟨_, e2⟩ | ⟨v, d, e1, e2, hd⟩
    · rw [e2] at hl
      cases hl
    · rw [e2] at hl
      cases hl
      refine ⟨a, v, rfl, ?_, hq v H2 _ (r1.trans r2) hd hp⟩
      rw [← e1]
      cases hy <;> first
        | (cases hk; done)
        | skip
      case int i =>
        cases hk
        exact DGet.k (k := .inl i) (cut_sub _ _ h1)
      case str x =>
        cases hk
        exact DGet.k (k := .inr x) (cut_sub _ _ h1)
end
end Fw
/-! # FwCon: constants of the module; a def's promise told more plainly -/
namespace Fw
open PySem PySem.Spec PyProof.Rows L2
open Evl (Ex)
mutual
/-- the value u, as it stands in K, is this data (tuples within one another) -/
def conB (K : PySem.W.Frag) : D → Value → Bool
  | .non, u => u == .none
  | .bl b, u => u == .bool b
  | .int i, u => match u with
    | .int j _ => j == i
    | _ => false
  | .str x, u => match u with
    | .str y _ => y == x
    | _ => false
  | .tup ds, u => match u with
    | .ref a => (match K.lookup a with
      | some ⟨.type c, _, .seq its _, _⟩ => decide (c = "tuple") && (decide (its.size ≤ sizeLine) && consB K ds its.toList)
      | _ => false)
    | _ => false
  | .lst _, _ => false | .dic _ _, _ => false | .err _ _, _ => false | .drw, _ => false | .scr _, _ => false | .pin _, _ => false
def consB (K : PySem.W.Frag) : List D → List Value → Bool
  | [], us => us.isEmpty
  | d :: ds, us => match us with
    | u :: us => conB K d u && consB K ds us
    | [] => false
end
mutual
theorem con_ok {K : PySem.W.Frag} : ∀ {d : D} {u : Value}, conB K d u = true → ∃ v, RelV v u ∧ ∀ W H, Da W K H v d
  | .non, u, h => by
    unfold conB at h
    rw [beq_iff_eq] at h
    exact ⟨.non, h, fun W H => .non⟩
  | .bl b, u, h => by
    unfold conB at h
    rw [beq_iff_eq] at h
    exact ⟨.bl b, h, fun W H => .bl b⟩
  | .int i, u, h => by
    unfold conB at h
    split at h
    · rw [beq_iff_eq] at h
      subst h
      exact ⟨.int _, ⟨_, rfl⟩, fun W H => .int _⟩
    · cases h
  | .str x, u, h => by
    unfold conB at h
    split at h
    · rw [beq_iff_eq] at h
      subst h
      exact ⟨.str _, ⟨_, rfl⟩, fun W H => .str _⟩
    · cases h
  | .tup ds, u, h => by
    unfold conB at h
    split at h
    · rename_i a
      split at h
      · rename_i c d its n sl q
        have h' := Bool.and_eq_true_iff.mp h
        have h2 := Bool.and_eq_true_iff.mp h'.2
        obtain ⟨vs, r, hd⟩ := cons_ok h2.2
        exact ⟨.ref a, rfl, fun W H => .tup (.inr ⟨_, its, n, q, congrArg Value.type (of_decide_eq_true h'.1), rfl, of_decide_eq_true h2.1, r⟩) (hd W H)⟩
      · cases h
    · cases h
  | .lst _, _, h => by unfold conB at h; cases h
  | .dic _ _, _, h => by unfold conB at h; cases h
  | .err _ _, _, h => by unfold conB at h; cases h
  | .drw, _, h => by unfold conB at h; cases h
  | .scr _, _, h => by unfold conB at h; cases h
  | .pin _, _, h => by unfold conB at h; cases h
theorem cons_ok {K : PySem.W.Frag} : ∀ {ds : List D} {us : List Value}, consB K ds us = true → ∃ vs, Vals vs us ∧ ∀ W H, Das W K H vs ds
  | [], us, h => by
    unfold consB at h
    rw [List.isEmpty_iff] at h
    subst h
    exact ⟨[], .nil, fun W H => .nil⟩
  | d :: ds, us, h => by
    unfold consB at h
    split at h
    · rename_i u us
      have h' := Bool.and_eq_true_iff.mp h
      obtain ⟨v, r, hd⟩ := con_ok h'.1
      obtain ⟨vs, rs, hds⟩ := cons_ok h'.2
      exact ⟨v :: vs, .cons r rs, fun W H => .cons (hd W H) (hds W H)⟩
    · cases h
end
/-- the module's name x is this data -/
def conAt (K : PySem.W.Frag) (x : Str) (d : D) : Bool := match PySem.W.nsIn K mainGlobals x with
  | some (some u) => conB K d u
  | _ => false
def ConOk (K : PySem.W.Frag) (mg : Str → Option Value) (x : Str) (d : D) : Prop := ∃ v u, mg x = some u ∧ RelV v u ∧ ∀ W H, Da W K H v d
theorem conAt_ok {K : PySem.W.Frag} {h : Heap} {mg : Str → Option Value} (X : K.In h) (G : h.Ns mainGlobals mg) {x : Str} {d : D} (c : conAt K x d = true) : ConOk K mg x d := by
  unfold conAt at c
  split at c
  · rename_i u hu
    obtain ⟨v, r, hd⟩ := con_ok c
    exact ⟨v, u, PySem.W.mg_of X G hu, r, hd⟩
  · cases c
section
variable [TabsOf] {X : Cx} {E : XK}
theorem px_con {x : Str} {d : D} {pos : Pos} (c : ConOk X.K X.mg x d) (hg : Gl X x) (hd : (x == ("__debug__" : Str)) = false := by decide) : PX X E (.Name x pos) (mC d) := by
  obtain ⟨v, u, hm, r, h⟩ := c
  exact px_glob hg hm r h hd

/-! ## tests by comparisons -/
variable {a b : Expr} {ma mb : EM} {pos : Pos} {k : Nat}
theorem tx_lt (ha : PX X E a ma) (hb : PX X E b mb) : TX X E (.Compare a [.Lt] [b] pos) (mTest (mOp (fIB fun i j => decide (i < j)) ma mb)) := tx_cmp op_lt (fun W => opD_I0 fun i j _ => .bl _) ha hb
theorem tx_le (ha : PX X E a ma) (hb : PX X E b mb) : TX X E (.Compare a [.LtE] [b] pos) (mTest (mOp (fIB fun i j => decide (i ≤ j)) ma mb)) := tx_cmp op_le (fun W => opD_I0 fun i j _ => .bl _) ha hb
theorem tx_gt (ha : PX X E a ma) (hb : PX X E b mb) : TX X E (.Compare a [.Gt] [b] pos) (mTest (mOp (fIB fun i j => decide (j < i)) ma mb)) := tx_cmp op_gt (fun W => opD_I0 fun i j _ => .bl _) ha hb
theorem tx_ge (ha : PX X E a ma) (hb : PX X E b mb) : TX X E (.Compare a [.GtE] [b] pos) (mTest (mOp (fIB fun i j => decide (j ≤ i)) ma mb)) := tx_cmp op_ge (fun W => opD_I0 fun i j _ => .bl _) ha hb
theorem tx_eq (hr : Room k X.A) (ha : PX X E a ma) (hb : PX X E b mb) (hm : behindInMarks .Eq b = false := by first | rfl | exact nomark _) :
    TX X E (.Compare a [.Eq] [b] pos) (mTest (mOp fEq ma mb)) := tx_cmp (op_eqD (room64 hr)) (fun _ => opD_eq) ha hb hm
theorem tx_ne (hr : Room k X.A) (ha : PX X E a ma) (hb : PX X E b mb) (hm : behindInMarks .NotEq b = false := by first | rfl | exact nomark _) :
    TX X E (.Compare a [.NotEq] [b] pos) (mTest (mOp fNe ma mb)) := tx_cmp (op_neD (room64 hr)) (fun _ => opD_ne) ha hb hm
theorem opD_isN {W : Wld} {K : PySem.W.Frag} : OpD W K (fun x y H Q => y = .non ∧ Q (.bl (decide (x = .non))) H) fIsN := by
  rintro H x y c d z Q ok hx hy ⟨rfl, rfl⟩ q
  cases hy
  refine ⟨rfl, ?_⟩
  rw [da_non hx]
  exact q _ H (.refl ok) (.bl _)
theorem tx_in (ha : PX X E a ma) (hb : PX X E b mb) (hm : behindInMarks .In b = false := by first | rfl | exact nomark _) :
    TX X E (.Compare a [.In] [b] pos) (mTest (mOp fIn ma mb)) := tx_cmp (op_in_seq) (fun _ => opD_in (neg := false)) ha hb hm
theorem tx_notIn (ha : PX X E a ma) (hb : PX X E b mb) (hm : behindInMarks .NotIn b = false := by first | rfl | exact nomark _) :
    TX X E (.Compare a [.NotIn] [b] pos) (mTest (mOp fNotIn ma mb)) := tx_cmp (op_notIn_seq) (fun _ => opD_in (neg := true)) ha hb hm
theorem tx_isN (ha : PX X E a ma) (hb : PX X E b mb) (hm : behindInMarks .Is b = false := by first | rfl | exact nomark _) :
    TX X E (.Compare a [.Is] [b] pos) (mTest (mOp fIsN ma mb)) := tx_cmp op_isN (fun W => by
  rintro H x y c d z Q ok hx hy ⟨rfl, rfl⟩ q
  cases hy
  refine ⟨rfl, ?_⟩
  rw [da_non hx]
  exact q _ H (.refl ok) (.bl _)) ha hb hm
theorem tx_notN (ha : PX X E a ma) (hb : PX X E b mb) (hm : behindInMarks .IsNot b = false := by first | rfl | exact nomark _) :
    TX X E (.Compare a [.IsNot] [b] pos) (mTest (mOp fNotN ma mb)) := tx_cmp op_notN (fun W => by
  rintro H x y c d z Q ok hx hy ⟨rfl, rfl⟩ q
  cases hy
  refine ⟨rfl, ?_⟩
  rw [da_non hx]
  exact q _ H (.refl ok) (.bl _)) ha hb hm
theorem tx_isB (ha : PX X E a ma) (hb : PX X E b mb) (hm : behindInMarks .Is b = false := by first | rfl | exact nomark _) :
    TX X E (.Compare a [.Is] [b] pos) (mTest (mOp fIsB ma mb)) := tx_cmp op_isBl (fun W => by
  rintro H x y c d z Q ok hx hy ⟨p, r, rfl, rfl, rfl⟩ q
  cases hx
  cases hy
  exact ⟨p, r, rfl, rfl, q _ H (.refl ok) (.bl _)⟩) ha hb hm
theorem tx_notB (ha : PX X E a ma) (hb : PX X E b mb) (hm : behindInMarks .IsNot b = false := by first | rfl | exact nomark _) :
    TX X E (.Compare a [.IsNot] [b] pos) (mTest (mOp fNotB ma mb)) := tx_cmp op_notBl (fun W => by
  rintro H x y c d z Q ok hx hy ⟨p, r, rfl, rfl, rfl⟩ q
  cases hx
  cases hy
  exact ⟨p, r, rfl, rfl, q _ H (.refl ok) (.bl _)⟩) ha hb hm
end

/-! ## a promise told otherwise -/
section
variable [TabsOf] {P : Program} {w : World} {K : PySem.W.Frag} {mg : Str → Option Value} {base : Heap} {x nm : Str} {st : Stmt} {k : Nat} {ps : List Str} {g g' : FM}
theorem Good.mono (G : Good P w K mg base x nm st k ps g) (h : ∀ ds post ex, g' ds post ex → g ds post ex) : Good P w K mg base x nm st k ps g' := by
  obtain ⟨f, fd, hm, F, hb, ok⟩ := G
  refine ⟨f, fd, hm, F, hb, ok.imp ?_⟩
  rintro vs H Q E ⟨W, ds, post, ex, h1, h2, h3, h4, h5, h6, h7⟩
  exact ⟨W, ds, post, ex, h1, h2, h3, h4, h _ _ _ h5, h6, h7⟩
theorem Good.up {j : Nat} (G : Good P w K mg base x nm st k ps g) (h : k ≤ j) : Good P w K mg base x nm st j ps g := by
  obtain ⟨f, fd, hm, F, hb, ok⟩ := G
  exact ⟨f, fd, hm, F, hb, ok.mono h⟩
end
end Fw
/-! # FwEnd: rules told for the writer: comprehensions, defs and their binding -/
namespace Fw
open PySem PySem.Spec PyProof.Rows L2
open Evl (Ex)
variable [TabsOf]
theorem gl_k {X : Cx} {x : Str} (h : X.env.kindOf x = some .globalImplicit) : Gl X x := h
theorem passes_no {X : Cx} {P : Program} {w : World} : Passes (L2.CX P w) X L2.E0 := by
  rintro pins σ H s e s' I ⟨a, B, H', cls, d, _, _, _, _, _, _, _, h⟩
  exact h.elim
theorem binds_fd {K : PySem.W.Frag} {nm q : Str} {args : Arguments} {body : List Stmt} {sc : Scope} {f : Addr} {fd : FuncData} {ps : List Str} (F : FunD K nm q args body sc [] [] f fd)
    (h : ∀ (kV doc pm : Value) (an : Option Addr) (cdv ct : Value) (us : List Value), us.length = ps.length → bindArgs (PySem.W.fnOf nm q args body sc .none kV doc pm an cdv ct) ⟨us, []⟩ = pure (ps.zip us)) : Binds K fd ps [] := by
  obtain ⟨oc, od, dV, kV, doc, pm, an, cdv, ct, osl, rfl, lk, hcd, hD, hK⟩ := F.ex
  rcases hD with ⟨_, rfl⟩ | ⟨z, _⟩
  · exact .all fun us hl => h kV doc pm an cdv ct us hl
  · exact absurd rfl z
/-! ## comprehensions -/
def blkB (N : List Str) (sc scope : Scope) (own : List (Str × Nat)) : Bool :=
  decide (scope.kind = .function) && (scope.names.all (fun y => decide (scope.names.lookup y.1 = some y.2)) && (own.all (fun p => decide (N[p.2]? = some p.1)) &&
    (scope.names.all (fun y => !decide (y.2 = .free) || decide (sc.names.lookup y.1 = some .cell) || decide (sc.names.lookup y.1 = some .free)) &&
      scope.names.all (fun y => !(decide (y.2 = .local) || decide (y.2 = .cell)) || (own.map (·.1)).contains y.1 || !N.contains y.1))))
theorem blk_ok {N : List Str} {sc scope : Scope} {own : List (Str × Nat)} (h : blkB N sc scope own = true) : BlkOk N sc scope own := by
  unfold blkB at h
  simp only [Bool.and_eq_true, List.all_eq_true, decide_eq_true_eq, Bool.or_eq_true, Bool.not_eq_true', decide_eq_false_iff_not] at h
  obtain ⟨h1, h2, h3, h4, h5⟩ := h
  refine ⟨h1, h2, h3, fun y hy e => ?_, fun y hy e => ?_⟩
  · rcases h4 y hy with (z | z) | z
    · exact absurd e z
    · exact .inl z
    · exact .inr z
  · rcases h5 y hy with (z | z) | z
    · simp only [Bool.or_eq_false_iff, decide_eq_false_iff_not] at z
      rcases e with e | e
      · exact absurd e z.1
      · exact absurd e z.2
    · exact .inl (by simpa using z)
    · right
      simpa using z
section
variable {X : Cx} {E : XK} {elt it c : Expr} {scope : Scope} {pos : Pos} {im : IM} {mt : TM} {me : EM} {x y : Str} {i j : Nat} {p1 p2 p3 : Pos}
abbrev InBlk (X : Cx) (scope : Scope) (φ : Cx → Prop) : Prop := ∀ (s : Shared) (H : Hp) (C : Addr) (cl : List (Str × Addr)) (fp : List Addr), φ (X.blk s H scope (compEnvC scope cl C X.env) fp)
theorem px_lc1 (hN : X.N.Nodup) (hi : IX X E (.Name x p1) it im) (he : InBlk X scope fun Y => PX Y L2.E0 elt me) (hc : X.calm = true := by rfl) (ok : blkB X.N X.env.scope scope [(x, i)] = true := by kernel_rfl)
    (hx : scope.names.lookup x = some .local := by kernel_rfl) (hs : ∀ x, foldedSetIterable it X.env x = pure x := by intro _; rfl) :
    PX X E (.ListComp elt [⟨.Name x p1, it, [], 0⟩] scope pos) (mLc im (gNm i) tTT me [i]) := by
  have b := blk_ok ok
  exact px_lc hc hN hi b (fun s H C cl fp => pg_name hN (b.ix _ List.mem_cons_self) (.inl (lookup_relabel_local hx)) (.inr (lookup_relabel_local hx))) (fun _ => evgw_name List.mem_cons_self) (fun _ _ _ _ _ => pts_nil) (fun _ => evt_yes) he hs
theorem px_lc1t (hN : X.N.Nodup) (hi : IX X E (.Name x p1) it im) (ht : InBlk X scope fun Y => TX Y L2.E0 c mt) (he : InBlk X scope fun Y => PX Y L2.E0 elt me) (hc : X.calm = true := by rfl) (ok : blkB X.N X.env.scope scope [(x, i)] = true := by kernel_rfl)
    (hx : scope.names.lookup x = some .local := by kernel_rfl) (hs : ∀ x, foldedSetIterable it X.env x = pure x := by intro _; rfl) :
    PX X E (.ListComp elt [⟨.Name x p1, it, [c], 0⟩] scope pos) (mLc im (gNm i) mt me [i]) := by
  have b := blk_ok ok
  exact px_lc hc hN hi b (fun s H C cl fp => pg_name hN (b.ix _ List.mem_cons_self) (.inl (lookup_relabel_local hx)) (.inr (lookup_relabel_local hx))) (fun _ => evgw_name List.mem_cons_self) (fun s H C cl fp => pts_one (tx_star (ht s H C cl fp))) (fun _ => evt_star) he hs
variable {z : Str} {pz spos : Pos} {q : Nat}
theorem sx_lc1 (hN : X.N.Nodup) (hi : IX X E (.Name x p1) it im) (he : InBlk X scope fun Y => PX Y L2.E0 elt me) (hc : X.calm = true := by rfl) (ok : blkB X.N X.env.scope scope [(x, i)] = true := by kernel_rfl)
    (hx : scope.names.lookup x = some .local := by kernel_rfl) (hs : ∀ x, foldedSetIterable it X.env x = pure x := by intro _; rfl) (hz : X.N[q]? = some z := by rfl) (hzl : X.env.scope.names.lookup z = some .local := by kernel_rfl)
    (hsw : swapsWith (.ListComp elt [⟨.Name x p1, it, [], 0⟩] scope pos) (some (.Name z pz)) spos.line X.env = pure true := by rfl) :
    SX X E (.Assign [.Name z pz] (.ListComp elt [⟨.Name x p1, it, [], 0⟩] scope pos) spos) (sSet q (mLc im (gNm i) tTT me [i])) := by
  have b := blk_ok ok
  exact sx_setLc hc hN hz hzl hsw hi b (fun s H C cl fp => pg_name hN (b.ix _ List.mem_cons_self) (.inl (lookup_relabel_local hx)) (.inr (lookup_relabel_local hx))) (fun _ => evgw_name List.mem_cons_self) (fun _ _ _ _ _ => pts_nil) (fun _ => evt_yes) he hs
theorem sx_lc1t (hN : X.N.Nodup) (hi : IX X E (.Name x p1) it im) (ht : InBlk X scope fun Y => TX Y L2.E0 c mt) (he : InBlk X scope fun Y => PX Y L2.E0 elt me) (hc : X.calm = true := by rfl) (ok : blkB X.N X.env.scope scope [(x, i)] = true := by kernel_rfl)
    (hx : scope.names.lookup x = some .local := by kernel_rfl) (hs : ∀ x, foldedSetIterable it X.env x = pure x := by intro _; rfl) (hz : X.N[q]? = some z := by rfl) (hzl : X.env.scope.names.lookup z = some .local := by kernel_rfl)
    (hsw : swapsWith (.ListComp elt [⟨.Name x p1, it, [c], 0⟩] scope pos) (some (.Name z pz)) spos.line X.env = pure true := by rfl) :
    SX X E (.Assign [.Name z pz] (.ListComp elt [⟨.Name x p1, it, [c], 0⟩] scope pos) spos) (sSet q (mLc im (gNm i) mt me [i])) := by
  have b := blk_ok ok
  exact sx_setLc hc hN hz hzl hsw hi b (fun s H C cl fp => pg_name hN (b.ix _ List.mem_cons_self) (.inl (lookup_relabel_local hx)) (.inr (lookup_relabel_local hx))) (fun _ => evgw_name List.mem_cons_self) (fun s H C cl fp => pts_one (tx_star (ht s H C cl fp))) (fun _ => evt_star) he hs
end
/-! ## x op= e, a, b = x, y -/
def sAug (i : Nat) (f : D → D → D → Prop) (m : EM) : SM := fun δ F => ∃ x, δ[i]? = some (some x) ∧ m δ (fun y => ∃ z, f x y z ∧ F.nx (δ.set i (some z))) F.ex
def sPar (i j : Nat) (m : AM) : SM := fun δ F => m δ (fun ds => ∃ a b, ds = [a, b] ∧ F.nx ((δ.set i (some a)).set j (some b))) F.ex
def sPar3 (i j l : Nat) (m : AM) : SM := fun δ F => m δ (fun ds => ∃ a b c, ds = [a, b, c] ∧ F.nx (((δ.set i (some a)).set j (some b)).set l (some c))) F.ex
section
variable {X : Cx} {E : XK} {e : Expr} {m : EM} {x y z : Str} {pos pos' : Pos} {r : R2} {f : D → D → D → Prop} {op : Operator}
theorem sx_augR (i : Nat) (hN : X.N.Nodup) (ho : OpR X (inplaceOp op) r) (hf : ∀ W, OpD W X.K r f) (he : PX X E e m) (hi : X.N[i]? = some x)
    (hx : X.env.scope.names.lookup x = some .local) : SX X E (.AugAssign (.Name x pos') op e pos) (sAug i f m) := by
  obtain ⟨t, p, ev⟩ := he
  refine ⟨_, ps_aug hN hi (.inl hx) p ho (.inr hx), fun W σ H Z δ F hsl ok hm l => ?_⟩
  obtain ⟨dx, h1, hm⟩ := hm
  obtain ⟨vx, h2, hv⟩ := hsl.at_ i dx h1
  refine ⟨vx, h2, ev W σ H _ δ _ F.ex hsl ok hm ?_ l.ex⟩
  rintro v H1 dy r1 hy ⟨dz, hz, hp⟩
  refine hf W H1 vx v dx dy dz _ r1.ok (hv.R r1) hy hz ?_
  intro u H2 r2 hu
  exact l.nx _ _ _ (r1.trans r2) ((hsl.R (r1.trans r2)).set i hu) hp
theorem sx_augAdd (i : Nat) (hN : X.N.Nodup) (he : PX X E e m) (hi : X.N[i]? = some x := by rfl) (hx : X.env.scope.names.lookup x = some .local := by kernel_rfl) : SX X E (.AugAssign (.Name x pos') .Add e pos) (sAug i (fI (· + ·)) m) :=
  sx_augR i hN iop_add (fun W => opD_I0 fun i j _ => .int _) he hi hx
theorem sx_augSub (i : Nat) (hN : X.N.Nodup) (he : PX X E e m) (hi : X.N[i]? = some x := by rfl) (hx : X.env.scope.names.lookup x = some .local := by kernel_rfl) : SX X E (.AugAssign (.Name x pos') .Sub e pos) (sAug i (fI (· - ·)) m) :=
  sx_augR i hN iop_sub (fun W => opD_I0 fun i j _ => .int _) he hi hx
theorem das2 {W : Wld} {K : PySem.W.Frag} {H : Hp} {vs : List V} {a b : D} (h : Das W K H vs [a, b]) : ∃ v u, vs = [v, u] ∧ Da W K H v a ∧ Da W K H u b := by
  cases h with
  | cons h1 r =>
    cases r with
    | cons h2 r =>
      cases r
      exact ⟨_, _, rfl, h1, h2⟩
theorem das3 {W : Wld} {K : PySem.W.Frag} {H : Hp} {vs : List V} {a b c : D} (h : Das W K H vs [a, b, c]) : ∃ v u t, vs = [v, u, t] ∧ Da W K H v a ∧ Da W K H u b ∧ Da W K H t c := by
  cases h with
  | cons h1 r =>
    obtain ⟨v, u, rfl, h2, h3⟩ := das2 r
    exact ⟨_, _, _, rfl, h1, h2, h3⟩
theorem sx_par (i j : Nat) {a b : Expr} {ma : AM} {px py pt pt2 : Pos} {kt k2} (hN : X.N.Nodup) (ha : AX X E [a, b] ma) (hc : X.calm = true := by rfl) (hi : X.N[i]? = some x := by rfl) (hj : X.N[j]? = some y := by rfl) (hij : i ≠ j := by decide)
    (hx : X.env.scope.names.lookup x = some .local := by kernel_rfl) (hy : X.env.scope.names.lookup y = some .local := by kernel_rfl)
    (hw : swappedStores [.Tuple [.Name x px, .Name y py] kt pt] (.Tuple [a, b] k2 pt2) X.env = pure (some [x, y]) := by rfl)
    (hs : swapsWithSole [.Tuple [.Name x px, .Name y py] kt pt] (.Tuple [a, b] k2 pt2) pos.line X.env = pure false := by rfl) :
    SX X E (.Assign [.Tuple [.Name x px, .Name y py] kt pt] (.Tuple [a, b] k2 pt2) pos) (sPar i j ma) := by
  obtain ⟨t, p, ev⟩ := ha
  refine ⟨_, ps_par hc hN hi hj hij hx hy p hw hs, fun W σ H Z δ F hsl ok hm l => ?_⟩
  refine ev W σ H _ δ _ F.ex hsl ok hm ?_ l.ex
  rintro vs H1 ds r1 hv ⟨a, b, rfl, hp⟩
  obtain ⟨v, u, rfl, h1, h2⟩ := das2 hv
  exact ⟨v, u, rfl, l.nx _ _ _ r1 (((hsl.R r1).set i h1).set j h2) hp⟩
theorem sx_par3 (i j q : Nat) {a b c : Expr} {ma : AM} {px py pz pt pt2 : Pos} {kt k2} (hN : X.N.Nodup) (ha : AX X E [a, b, c] ma) (hc : X.calm = true := by rfl) (hi : X.N[i]? = some x := by rfl) (hj : X.N[j]? = some y := by rfl) (hq : X.N[q]? = some z := by rfl)
    (hij : i ≠ j := by decide) (hil : i ≠ q := by decide) (hjl : j ≠ q := by decide)
    (hx : X.env.scope.names.lookup x = some .local := by kernel_rfl) (hy : X.env.scope.names.lookup y = some .local := by kernel_rfl) (hz : X.env.scope.names.lookup z = some .local := by kernel_rfl)
    (hw : swappedStores [.Tuple [.Name x px, .Name y py, .Name z pz] kt pt] (.Tuple [a, b, c] k2 pt2) X.env = pure (some [x, y, z]) := by rfl)
    (hs : swapsWithSole [.Tuple [.Name x px, .Name y py, .Name z pz] kt pt] (.Tuple [a, b, c] k2 pt2) pos.line X.env = pure false := by rfl) :
    SX X E (.Assign [.Tuple [.Name x px, .Name y py, .Name z pz] kt pt] (.Tuple [a, b, c] k2 pt2) pos) (sPar3 i j q ma) := by
  obtain ⟨t, p, ev⟩ := ha
  refine ⟨_, ps_par3 hc hN hi hj hq hij hil hjl hx hy hz p hw hs, fun W σ H Z δ F hsl ok hm l => ?_⟩
  refine ev W σ H _ δ _ F.ex hsl ok hm ?_ l.ex
  rintro vs H1 ds r1 hv ⟨a, b, c, rfl, hp⟩
  obtain ⟨v, u, t, rfl, h1, h2, h3⟩ := das3 hv
  exact ⟨v, u, t, rfl, l.nx _ _ _ r1 ((((hsl.R r1).set i h1).set j h2).set q h3) hp⟩
end
abbrev mSub (a b : EM) : EM := mOp (fI (· - ·)) a b
abbrev mMul (a b : EM) : EM := mOp (fIc CMul (· * ·)) a b
abbrev mFdiv (a b : EM) : EM := mOp (fIc CDivW (· / ·)) a b
abbrev mMod (a b : EM) : EM := mOp (fIc (fun _ j => 0 < j) (· % ·)) a b
abbrev mPow (a b : EM) : EM := mOp (fIc CPow fun i j => i ^ j.toNat) a b
abbrev fLt : D → D → D → Prop := fIB fun i j => decide (i < j)
abbrev fLe : D → D → D → Prop := fIB fun i j => decide (i ≤ j)
abbrev fGt : D → D → D → Prop := fIB fun i j => decide (j < i)
abbrev fGe : D → D → D → Prop := fIB fun i j => decide (j ≤ i)
/-! ## a def by its body, told once more -/
section
variable {P : Program} {w : World} {K : PySem.W.Frag} {mg : Str → Option Value} {base : Heap} {x nm : Str} {st : Stmt} {k : Nat} {N ps : List Str} {m : SM}
abbrev cxF (P : Program) (w : World) (K : PySem.W.Frag) (mg : Str → Option Value) (base : Heap) (N : List Str) (nm : Str) (st : Stmt) (p : He.Defn) (A : Around) (outer : List PySem.Env) (s : Shared) (H : Hp) (E : XK) : Cx :=
  cxOf (L2.CX P w) P w K mg base N nm (defScope st) (He.fAd K p) (.ref (He.codeOf K p)) A outer s H E
theorem good_fd (p : He.Defn) (hm : mg x = some (.ref (He.fAd K p))) (F : ∃ fd, FunD K nm nm (defArgs st) (defBody st) (defScope st) [] [] (He.fAd K p) fd) (S : FnScope N ps (defScope st))
    (hb : ∀ (kV doc pm : Value) (an : Option Addr) (cdv ct : Value) (us : List Value), us.length = ps.length → bindArgs (PySem.W.fnOf nm nm (defArgs st) (defBody st) (defScope st) .none kV doc pm an cdv ct) ⟨us, []⟩ = pure (ps.zip us))
    (body : ∀ (A : Around) (outer : List PySem.Env) (s : Shared) (H : Hp) (E : XK), Room k (cxF P w K mg base N nm st p A outer s H E).A → BX (cxF P w K mg base N nm st p A outer s H E) E (defBody st) m) : Good P w K mg base x nm st (k + 1) ps (funM N.length m) := by
  obtain ⟨fd, F⟩ := F
  exact good_of p hm F S (binds_fd F hb) body
end
end Fw
/-! # FwPure: wishes over data: loops, and what is unfolded -/
namespace Fw
open PySem PySem.Spec PyProof.Rows L2
theorem forGo_inv {g : GM} {body : SM} {F : SE} {I : Env → Prop} : ∀ (ds : List D) (δ : Env), I δ →
    (∀ d δ (k : Env → Prop), d ∈ ds → I δ → (∀ δ', I δ' → k δ') → g d δ fun δ2 => body δ2 { F with nx := k, ct := k, bk := F.nx }) → (∀ δ, I δ → F.nx δ) → forGo g body F ds δ
  | [], δ, h, _, e => e δ h
  | d :: ds, δ, h, st, e => by
    show g d δ fun δ2 => body δ2 { F with nx := forGo g body F ds, ct := forGo g body F ds, bk := F.nx }
    exact st d δ _ List.mem_cons_self h fun δ' h' => forGo_inv ds δ' h' (fun d δ k hd => st d δ k (List.mem_cons_of_mem _ hd)) e
/-- one more element done: the invariant speaks of what is left -/
theorem forGo_cons {g : GM} {body : SM} {F : SE} {d : D} {ds : List D} {δ : Env} (h : g d δ fun δ2 => body δ2 { F with nx := forGo g body F ds, ct := forGo g body F ds, bk := F.nx }) : forGo g body F (d :: ds) δ := h
theorem forGo_nil {g : GM} {body : SM} {F : SE} {δ : Env} (h : F.nx δ) : forGo g body F [] δ := h
theorem whGo_done {c : TM} {body : SM} {F : SE} {δ : Env} (h : c δ (fun p => p = false ∧ F.nx δ) F.ex) (mono : ∀ (a b : Bool → Prop) (e : EX → Prop), (∀ p, a p → b p) → c δ a e → c δ b e) : sWhile c body δ F :=
  ⟨1, mono _ _ _ (fun p ⟨e, hp⟩ => by subst e; exact hp) h⟩
theorem fAdd_int {i j : Int} {z : D} : fAdd (.int i) (.int j) z ↔ z = .int (i + j) := Iff.rfl
theorem fAdd_lst {xs ys : List D} {z : D} : fAdd (.lst xs) (.lst ys) z ↔ xs.length + ys.length ≤ 16777216 ∧ z = .lst (xs ++ ys) := Iff.rfl
theorem fAdd_tup {xs ys : List D} {z : D} : fAdd (.tup xs) (.tup ys) z ↔ xs.length + ys.length ≤ 16777216 ∧ z = .tup (xs ++ ys) := Iff.rfl
theorem fI_int {g : Int → Int → Int} {i j : Int} {z : D} : fI g (.int i) (.int j) z ↔ z = .int (g i j) := ⟨fun ⟨a, b, h1, h2, h⟩ => by cases h1; cases h2; exact h, fun h => ⟨i, j, rfl, rfl, h⟩⟩
theorem fIc_int {C : Int → Int → Prop} {g : Int → Int → Int} {i j : Int} {z : D} : fIc C g (.int i) (.int j) z ↔ C i j ∧ z = .int (g i j) := ⟨fun ⟨a, b, h1, h2, h⟩ => by cases h1; cases h2; exact h, fun h => ⟨i, j, rfl, rfl, h⟩⟩
theorem fIB_int {g : Int → Int → Bool} {i j : Int} {z : D} : fIB g (.int i) (.int j) z ↔ z = .bl (g i j) := ⟨fun ⟨a, b, h1, h2, h⟩ => by cases h1; cases h2; exact h, fun h => ⟨i, j, rfl, rfl, h⟩⟩
theorem fInt_int {i : Int} {z : D} : fInt [.int i] z ↔ z = .int i := ⟨fun ⟨a, h1, h⟩ => by cases h1; exact h, fun h => ⟨i, rfl, h⟩⟩
theorem fAbs_int {i : Int} {z : D} : fAbs [.int i] z ↔ z = .int (if i < 0 then -i else i) := ⟨fun ⟨a, h1, h⟩ => by cases h1; exact h, fun h => ⟨i, rfl, h⟩⟩
theorem fMin_int {i j : Int} {z : D} : fMin [.int i, .int j] z ↔ z = .int (if j < i then j else i) := ⟨fun ⟨a, b, h1, h⟩ => by cases h1; exact h, fun h => ⟨i, j, rfl, h⟩⟩
theorem fIsB_bl {a b : Bool} {z : D} : fIsB (.bl a) (.bl b) z ↔ z = .bl (decide (a = b)) := ⟨fun ⟨p, q, h1, h2, h⟩ => by cases h1; cases h2; exact h, fun h => ⟨a, b, rfl, rfl, h⟩⟩
theorem fNotB_bl {a b : Bool} {z : D} : fNotB (.bl a) (.bl b) z ↔ z = .bl (!decide (a = b)) := ⟨fun ⟨p, q, h1, h2, h⟩ => by cases h1; cases h2; exact h, fun h => ⟨a, b, rfl, rfl, h⟩⟩
theorem fLen_lst {xs : List D} {z : D} : fLen [.lst xs] z ↔ z = .int (xs.length : Nat) := ⟨fun ⟨x, n, h1, h2, h⟩ => by cases h1; cases h2; exact h, fun h => ⟨_, _, rfl, rfl, h⟩⟩
theorem fLen_tup {xs : List D} {z : D} : fLen [.tup xs] z ↔ z = .int (xs.length : Nat) := ⟨fun ⟨x, n, h1, h2, h⟩ => by cases h1; cases h2; exact h, fun h => ⟨_, _, rfl, rfl, h⟩⟩
theorem eqd_int {i j : Int} : eqd (.int i) (.int j) = decide (i = j) := by
  show (i == j) = decide (i = j)
  rfl
theorem eqOk_int {i : Int} : eqOk (.int i) ↔ True := ⟨fun _ => trivial, fun _ => ⟨rfl, Nat.zero_le _⟩⟩
theorem items_lst {xs ds : List D} : itemsD (.lst xs) = some ds ↔ xs = ds := ⟨fun h => Option.some.inj h, fun h => congrArg some h⟩
theorem items_tup {xs ds : List D} : itemsD (.tup xs) = some ds ↔ xs = ds := ⟨fun h => Option.some.inj h, fun h => congrArg some h⟩
theorem fEq_int {i j : Int} {z : D} : fEq (.int i) (.int j) z ↔ z = .bl (decide (i = j)) := by
  unfold fEq
  rw [eqd_int]
  exact ⟨fun h => h.2.2, fun h => ⟨eqOk_int.mpr trivial, eqOk_int.mpr trivial, h⟩⟩
def isIntB : D → Bool | .int _ => true | .bl _ => true | _ => false
def isBoolB : D → Bool | .bl _ => true | _ => false
def isStrB : D → Bool | .str _ => true | _ => false
def isTupB : D → Bool | .tup _ => true | _ => false
def isLstB : D → Bool | .lst _ => true | .scr _ => true | _ => false
theorem kit_int {d : D} (h : isErr d = false) : kitB (tyn d) "int" = some (isIntB d) := by cases d <;> first | (cases h; done) | decide +kernel | rfl
theorem kit_bool {d : D} (h : isErr d = false) : kitB (tyn d) "bool" = some (isBoolB d) := by cases d <;> first | (cases h; done) | decide +kernel | rfl
theorem kit_str {d : D} (h : isErr d = false) : kitB (tyn d) "str" = some (isStrB d) := by cases d <;> first | (cases h; done) | decide +kernel | rfl
theorem kit_tuple {d : D} (h : isErr d = false) : kitB (tyn d) "tuple" = some (isTupB d) := by cases d <;> first | (cases h; done) | decide +kernel | rfl
theorem kit_list {d : D} (h : isErr d = false) : kitB (tyn d) "list" = some (isLstB d) := by cases d <;> first | (cases h; done) | decide +kernel | rfl
theorem at_of {α : Type} {xs : List α} {j : Int} (h0 : 0 ≤ j) (h1 : j < xs.length) : ∃ x, x ∈ xs ∧ atI xs j = some x := by
  unfold atI ixN
  have hl : j.toNat < xs.length := by omega
  have e : (if j < 0 then j + (xs.length : Int) else j) = j := if_neg (by omega)
  refine ⟨xs[j.toNat], List.getElem_mem _, ?_⟩
  simp [h0, h1, hl]
  try omega
end Fw
local macro_rules | `(tactic| walk_at "fws") => `(tactic| simp (config := { failIfUnchanged := false }) only [Fw.funM, Fw.sSeq, Fw.sSet, Fw.sTo, Fw.sDrop, Fw.sRet, Fw.sRetN, Fw.sNx, Fw.sBk, Fw.sCt, Fw.sIf, Fw.sFor, Fw.sAug, Fw.sPar, Fw.sPar3, Fw.sRaise, Fw.sDrPut, Fw.mVar, Fw.mC, Fw.mOp, Fw.mSub, Fw.mMul, Fw.mFdiv, Fw.mMod, Fw.mPow, Fw.mNeg, Fw.mTest, Fw.mNot, Fw.mAnd, Fw.mOr, Fw.mAndV, Fw.mOrV, Fw.mNotV, Fw.mIf, Fw.mChain,   Fw.mTup, Fw.mLst, Fw.mNil, Fw.mCons, Fw.mCall, Fw.mCallK, Fw.mCB, Fw.mDrI, Fw.mDrPop, Fw.mDic, Fw.mGet, Fw.gNm, Fw.gTp, Fw.gCn, Fw.gNl, Fw.iSq, Fw.iDrC, Fw.iRange, Fw.iRange2, Fw.iScr, Fw.tTT, Fw.mIsi, Fw.mIsi2, List.map_cons, List.map_nil, List.length_cons, List.length_nil, List.replicate, List.cons_append, List.nil_append,   List.getElem?_cons_zero, List.getElem?_cons_succ, List.getElem?_nil, List.set_cons_zero, List.set_cons_succ, Option.some.injEq, exists_eq_left', exists_eq_left, Nat.reduceAdd, Nat.reduceSub, true_and, and_true, Fw.fAdd_int, Fw.fAdd_lst, Fw.fAdd_tup, Fw.fI_int, Fw.fIc_int, Fw.fIB_int, Fw.fInt_int, Fw.fAbs_int, Fw.fMin_int, Fw.fIsB_bl, Fw.fNotB_bl, Fw.fLen_lst, Fw.fLen_tup, Fw.fEq_int, Fw.items_lst, Fw.items_tup, List.cons.injEq, Fw.D.int.injEq, Fw.D.bl.injEq, Fw.D.str.injEq, Fw.D.lst.injEq, Fw.D.tup.injEq, and_assoc, exists_and_left, exists_eq_right, exists_eq_right', eq_self_iff_true, Nat.reduceLeDiff])
namespace Fw
open PySem PySem.Spec PyProof.Rows L2
end Fw

/-! # FwErr: an own error with one attribute, by its class and the text of its __init__; _law_begun -/
namespace Fw
open PySem PySem.Spec PyProof.Rows L2
open Evl (Ex)
variable [TabsOf]
section
variable {P : Program} {w : World} {K : PySem.W.Frag} {mg : Str → Option Value} {base : Heap} {n f prm q msg : Str} {st : Stmt} {j : Nat} {p1 p2 p3 p4 p5 p6 p7 p8 p9 p10 : Pos}
theorem errDef_of (p : He.Defn) (hg : mg n = some (.ref (He.ga K n))) (xc : XC K (He.ga K n)) (xi : xiB K (He.ga K n) (He.fAd K p) = true) (no : PySem.W.findIn K (.ref (He.ga K n)) f = some none)
    (F : ∃ fd, FunD K "__init__" q (defArgs st) (defBody st) (defScope st) [] [] (He.fAd K p) fd) (S : FnScope ["self", prm] ["self", prm] (defScope st))
    (hw : mg "WrongError" = some (.ref (He.ga K "WrongError"))) (B : XB K (He.ga K "WrongError")) (hgl : (defScope st).names.lookup ("WrongError" : Str) = some .globalImplicit)
    (hs : (defScope st).names.lookup ("self" : Str) = some .local) (hp : (defScope st).names.lookup prm = some .local) (hd : (prm == ("__debug__" : Str)) = false) (hcd : (prm == ("__classdict__" : Str)) = false)
    (hb : ∀ (kV doc pm : Value) (an : Option Addr) (cdv ct : Value) (us : List Value), us.length = 2 → bindArgs (PySem.W.fnOf "__init__" q (defArgs st) (defBody st) (defScope st) .none kV doc pm an cdv ct) ⟨us, []⟩ = pure (([("self" : Str), prm] : List Str).zip us))
    (body : defBody st = [.Expr (.Call (.Attribute (.Name "WrongError" p1) "__init__" p2) [.Name "self" p3, .Constant (.str msg) j p4] [] p5) p6, .Assign [.Attribute (.Name "self" p7) f p8] (.Name prm p9) p10])
    (hc : ∀ (cdv : Value) (A : Around) (outer : List PySem.Env) (s : Shared) (H : Hp) (E : XK) (X : Cx), X = cxOf L2.CX0 P w K mg base ["self", prm] q (defScope st) (He.fAd K p) cdv A outer s H E → ∃ pl : Sem Bool,
      eval (.Call (.Attribute (.Name "WrongError" p1) "__init__" p2) [.Name "self" p3, .Constant (.str msg) j p4] [] p5) X.env = (do
      let ov ← eval (.Name "WrongError" p1) X.env
      standAt p2.atName
      let (f, first) ← holding [ov] (getMethod ov "__init__" pl)
      callWith p5 f first (backTo p5 (starEach [.Name "self" p3, .Constant (.str msg) j p4] X.env)) (backToKw p5 (keywordEach [] X.env)))) :
    ErrDef P w K mg base n f := by
  obtain ⟨fd, F⟩ := F
  have bd : Binds K fd ["self", prm] [] := binds_fd F hb
  obtain ⟨oc, od, dV, kV, doc, pm, an, cdv, ct, osl, rfl, lk, hcdI, hD, hK⟩ := F.ex
  obtain ⟨h1, h2⟩ := xi_ok xi
  refine ⟨hg, xc, ⟨_, _, _, h1, h2, bd, fn_of lk hcdI S ?_ ?_⟩, no⟩
  · rintro vs H Q E ⟨a, v, rfl, _⟩
    rfl
  · rintro A outer s H vs Q E hr ⟨a, v, rfl, ha, k⟩
    rw [body]
    obtain ⟨pl, hc⟩ := hc cdv A outer s H E _ rfl
    refine ⟨_, pss_cons (ps_expr (pe_winit (hc := hc) hgl hw B (pa_cons (pe_var (i := 0) rfl (.inl hs) (by decide) (by decide)) (pa_cons pe_str pa_nil)))) (pss_one (ps_ost (pe_var (i := 0) rfl (.inl hs) (by decide) (by decide)) (pe_var (i := 1) rfl (.inl hp) hd hcd))), ?_⟩
    refine ⟨.ref a, rfl, ?_⟩
    refine ⟨a, He.ga K n, [.str msg], rfl, by show 1 ≤ 1000; decide, xc.ox, ha, ?_⟩
    exact ⟨v, rfl, .ref a, rfl, a, _, rfl, xc.ox, no, .inl ⟨ha, fun dx h1 h2 => k dx h1 h2⟩⟩
end
end Fw
/-! # FwBegun: the draw is begun -/
namespace Fw
open PySem PySem.Spec PyProof.Rows L2
open Evl (Ex)
variable [TabsOf]
/-- a list that is new -/
def NX (X : Cx) (E : XK) (e : Expr) (m : EM) : Prop := ∃ t, PE X e t ∧ ∀ W (σ : L2.St) H (Q : VK) δ (post : D → Prop) ex, SL W X.K σ H δ → W.ok H → m δ post ex →
  (∀ p H' xs ds, W.R H H' → (∀ b o, W.cut H b = some o → b ≠ p) → W.cut H' p = some (.lst xs) → Das W X.K (W.cut H') xs ds → post (.lst ds) → Q (.ref p) H') → XLink W X.K H E ex → t σ H Q
section
variable {X : Cx} {E : XK} {elt it c : Expr} {scope : Scope} {pos : Pos} {im : IM} {mt : TM} {me : EM} {x y : Str} {i j : Nat} {p1 p2 p3 : Pos}
theorem nx_lc1 (hN : X.N.Nodup) (hi : IX X E (.Name x p1) it im) (he : InBlk X scope fun Y => PX Y L2.E0 elt me) (hc : X.calm = true := by rfl) (ok : blkB X.N X.env.scope scope [(x, i)] = true := by kernel_rfl)
    (hx : scope.names.lookup x = some .local := by kernel_rfl) (hs : ∀ x, foldedSetIterable it X.env x = pure x := by intro _; rfl) :
    NX X E (.ListComp elt [⟨.Name x p1, it, [], 0⟩] scope pos) (mLc im (gNm i) tTT me [i]) := by
  have b := blk_ok ok
  obtain ⟨t, p, e⟩ := hi
  exact ⟨_, pe_lc (te := tS X.K L2.E0 me) hc hN p b (fun s H C cl fp => pg_name hN (b.ix _ List.mem_cons_self) (.inl (lookup_relabel_local hx)) (.inr (lookup_relabel_local hx))) (fun _ _ _ _ _ => pts_nil) (fun s H C cl fp => px_star (he s H C cl fp)) hs,
    fun W => evo_lcN (e W) (fun _ => evgw_name List.mem_cons_self) (fun _ => evt_yes) fun _ => evo_star⟩
/-- name = a list that is new -/
def NSX (X : Cx) (i : Nat) (st : Stmt) (m : EM) : Prop := ∃ t, PS X st t ∧ ∀ W (σ : L2.St) H (Z : Ends) δ (post : D → Prop), SL W X.K σ H δ → W.ok H → m δ post (fun _ => False) →
  (∀ p H' xs ds, W.R H H' → (∀ b o, W.cut H b = some o → b ≠ p) → W.cut H' p = some (.lst xs) → Das W X.K (W.cut H') xs ds → post (.lst ds) → Z.nx (σ.set i (some (.ref p))) H') → t Z σ H
theorem nsx_lc1t {q : Nat} {z : Str} {pz spos : Pos} (hN : X.N.Nodup) (hi : IX X L2.E0 (.Name x p1) it im) (ht : InBlk X scope fun Y => TX Y L2.E0 c mt) (he : InBlk X scope fun Y => PX Y L2.E0 elt me) (hc : X.calm = true := by rfl) (ok : blkB X.N X.env.scope scope [(x, i)] = true := by kernel_rfl)
    (hx : scope.names.lookup x = some .local := by kernel_rfl) (hs : ∀ x, foldedSetIterable it X.env x = pure x := by intro _; rfl) (hz : X.N[q]? = some z := by rfl) (hzl : X.env.scope.names.lookup z = some .local := by kernel_rfl)
    (hsw : swapsWith (.ListComp elt [⟨.Name x p1, it, [c], 0⟩] scope pos) (some (.Name z pz)) spos.line X.env = pure true := by rfl) :
    NSX X q (.Assign [.Name z pz] (.ListComp elt [⟨.Name x p1, it, [c], 0⟩] scope pos) spos) (mLc im (gNm i) mt me [i]) := by
  have b := blk_ok ok
  obtain ⟨t, p, e⟩ := hi
  refine ⟨_, ps_setLc (te := tS X.K L2.E0 me) hc hN hz hzl hsw p b (fun s H C cl fp => pg_name hN (b.ix _ List.mem_cons_self) (.inl (lookup_relabel_local hx)) (.inr (lookup_relabel_local hx))) (fun s H C cl fp => (pts_one (tx_star (ht s H C cl fp)) : PTs (X.blk s H scope (compEnvC scope cl C X.env) fp) [c] (tSt X.K L2.E0 mt))) (fun s H C cl fp => px_star (he s H C cl fp)) hs, fun W σ H Z δ post hsl ok hm l => ?_⟩
  exact evo_lcN (e W) (fun _ => evgw_name List.mem_cons_self) (fun _ => evt_star) (fun _ => evo_star) σ H _ δ post _ hsl ok hm (fun p H' xs ds r h1 h2 h3 h4 => l p H' xs ds r h1 h2 h3 h4) fun _ _ _ _ _ z => z
end
abbrev W00 (K : PySem.W.Frag) : Wld := ⟨none, [], TabsOf.tb K, []⟩
theorem w00_ok {K : PySem.W.Frag} {H : Hp} (h : LamX.Tabs (TabsOf.tb K) H) : (W00 K).ok H := ⟨(fun _ _ _ z => nomatch z), h, (fun _ z => nomatch z), (fun _ z => nomatch z), (fun _ z => nomatch z)⟩
theorem w00_M {K : PySem.W.Frag} (b : Addr) : b ∉ (W00 K).M := fun z => nomatch z
def absI (i : Int) : Int := if i < 0 then -i else i
theorem absI_nn (i : Int) : 0 ≤ absI i := by
  unfold absI
  split <;> omega
/-- what _law_begun does -/
def spBegun (K : PySem.W.Frag) : Sp := fun vs H Q _ => ∃ (a : Addr) (ns : List Int), vs = [.ref a] ∧ SqL K H a (ns.map V.int) ∧ ns.length ≤ 16777216 ∧ LamX.Tabs (TabsOf.tb K) H ∧
  ∀ d l c H', (W00 K).R H H' → (W00 K).cut H d = none → (W00 K).cut H l = none → (W00 K).cut H c = none → DrawOk H' d l c (ns.map absI) → Q (.ref d) H'
theorem das_ints {W : Wld} {K : PySem.W.Frag} {H : Hp} : ∀ {ns : List Int} {vs : List V}, Das W K H vs (ns.map D.int) → vs = ns.map V.int
  | [], _, .nil => rfl
  | n :: ns, _, .cons h r => by
    cases h
    rw [das_ints r]
    rfl
theorem sqL_cut {W : Wld} {K : PySem.W.Frag} {H : Hp} {a : Addr} {xs : List V} (ha : ∀ o, H a = some o → a ∉ W.M) (h : SqL K H a xs) : SqL K (W.cut H) a xs := by
  have keep : ∀ {o : HO}, (∀ ps, o ≠ .tbl ps) → H a = some o → W.cut H a = some o := fun {o} no e => by
    unfold Wld.cut
    rw [if_neg (ha _ e), e]
    split
    · rename_i ps z
      cases z
      exact absurd rfl (no ps)
    · rfl
  rcases h with (h | ⟨o, h⟩) | h
  · exact .inl (.inl (keep (fun _ z => nomatch z) h))
  · exact .inl (.inr ⟨o, keep (fun _ z => nomatch z) h⟩)
  · exact .inr h
section
variable {P : Program} {w : World} {K : PySem.W.Frag} {mg : Str → Option Value} {base : Heap} {st s1 : Stmt} {e3 : Expr} {m1 m3 : EM} {k j1 j2 j3 j4 ja jb : Nat} {q1 q2 q3 q4 qa qb qc pos pos2 : Pos}
theorem begun_ok (p : He.Defn) (F : ∃ fd, FunD K "_law_begun" "_law_begun" (defArgs st) (defBody st) (defScope st) [] [] (He.fAd K p) fd) (S : FnScope ["script", "large", "grain"] ["script"] (defScope st))
    (hl : (defScope st).names.lookup ("large" : Str) = some .local)
    (hb : ∀ (kV doc pm : Value) (an : Option Addr) (cdv ct : Value) (us : List Value), us.length = 1 → bindArgs (PySem.W.fnOf "_law_begun" "_law_begun" (defArgs st) (defBody st) (defScope st) .none kV doc pm an cdv ct) ⟨us, []⟩ = pure ((["script"] : List Str).zip us))
    (body : defBody st = [s1, .Return (some (.Dict [some (.Constant (.str "large") j1 q1), some (.Constant (.str "rest") j2 q2), some (.Constant (.str "cells") j3 q3), some (.Constant (.str "turn") j4 q4)] [.Name "large" qa, .Constant (.int 0) ja qb, e3, .Constant (.int 0) jb qc] pos)) pos2])
    (h1 : ∀ (A : Around) (outer : List PySem.Env) (s : Shared) (H : Hp) (E : XK), Room k (cxF P w K mg base ["script", "large", "grain"] "_law_begun" st p A outer s H E).A → NSX (cxF P w K mg base ["script", "large", "grain"] "_law_begun" st p A outer s H E) 1 s1 m1)
    (h3 : ∀ (A : Around) (outer : List PySem.Env) (s : Shared) (H : Hp) (E : XK), Room k (cxF P w K mg base ["script", "large", "grain"] "_law_begun" st p A outer s H E).A → NX (cxF P w K mg base ["script", "large", "grain"] "_law_begun" st p A outer s H E) E e3 m3)
    (d1 : ∀ (ns : List Int) (post : D → Prop) (ex : EX → Prop), ns.length ≤ 16777216 → (∀ lg : List Int, (∀ x ∈ lg, 0 ≤ x) → post (.lst (lg.map D.int))) → m1 [some (.scr ns), none, none] post ex)
    (d3 : ∀ (ns : List Int) (x : Option D) (post : D → Prop) (ex : EX → Prop), ns.length ≤ 16777216 → post (.lst ((ns.map absI).map D.int)) → m3 [some (.scr ns), x, none] post ex) :
    ∃ fd, Binds K fd ["script"] [] ∧ PySem.W.keepIn K (.ref (He.fAd K p)) = true ∧ FnOk P w K mg base (L2.CX P w) (k + 1) (He.fAd K p) fd ["script"] (spBegun K) := by
  obtain ⟨fd, F⟩ := F
  have bd : Binds K fd ["script"] [] := binds_fd F hb
  have kp := F.kp
  obtain ⟨oc, od, dV, kV, doc, pm, an, cdv, ct, osl, rfl, lk, hcd, hD, hK⟩ := F.ex
  obtain ⟨c, rfl⟩ := He.codeIn_ref hcd
  have ec : He.codeOf K p = c := He.codeOf_eq lk rfl
  refine ⟨_, bd, kp, fn_of lk hcd S ?_ ?_⟩
  · rintro vs H Q E ⟨a, ns, rfl, _⟩
    rfl
  rintro A outer s H vs Q E hr ⟨a, ns, rfl, hsq, hlen, htb, hq⟩
  have h1 := h1 A outer s H E
  have h3 := h3 A outer s H E
  unfold cxF at h1 h3
  rw [ec] at h1 h3
  obtain ⟨t1, p1, v1⟩ := h1 hr
  obtain ⟨t3, p3, v3⟩ := h3 hr
  rw [body]
  refine ⟨_, pss_cons p1 (pss_one (ps_ret (pe_disp (pps_cons pe_str (pe_var (i := 1) rfl (.inl hl) (by decide) (by decide)) (pps_cons pe_str pe_int (pps_cons pe_str p3 (pps_cons pe_str pe_int pps_nil)))) rfl rfl (by intro z; cases z) (by show 4 ≤ 15; decide)))), ?_⟩
  have ok0 := w00_ok htb
  have s0 : SL (W00 K) K (L2.start ["script", "large", "grain"] [.ref a]) H [some (.scr ns), none, none] := by
    refine ⟨rfl, rfl, fun i d e => ?_⟩
    match i, e with
    | 0, e =>
      cases e
      exact ⟨.ref a, rfl, .scr (sqL_cut (fun _ _ => w00_M a) hsq)⟩
    | 1, e => cases e
    | 2, e => cases e
    | i + 3, e => cases e
  refine v1 (W00 K) _ H _ _ (fun z => ∃ lg : List Int, (∀ x ∈ lg, 0 ≤ x) ∧ z = .lst (lg.map D.int)) s0 ok0 (d1 ns _ _ hlen fun lg h => ⟨lg, h, rfl⟩) ?_
  rintro l H1 xs ds r1 new gl gd ⟨lg, hlg, e⟩
  cases e
  have ex := das_ints gd
  subst ex
  have nl : (W00 K).cut H l = none := by
    cases e : (W00 K).cut H l with
    | none => rfl
    | some o => exact absurd rfl (new _ _ e)
  intro d hd
  have nd : (W00 K).cut H d = none := by
    cases e : (W00 K).cut H d with
    | none => rfl
    | some o =>
      have := cut_sub _ _ (r1.ex _ _ e)
      rw [hd] at this
      cases this
  have hdl : l ≠ d := by
    rintro rfl
    have := cut_sub _ _ gl
    rw [hd] at this
    cases this
  have hs1 : SL (W00 K) K ((L2.start ["script", "large", "grain"] [.ref a]).set 1 (some (.ref l))) H1 [some (.scr ns), some (.lst (lg.map D.int)), none] := (s0.R r1).set 1 (.lst gl gd)
  refine ⟨.ref l, rfl, ?_⟩
  show t3 _ _ _
  refine v3 ((W00 K).grow d (.dK [])) _ _ _ _ (fun z => z = .lst ((ns.map absI).map D.int)) (fun _ => False) (hs1.grow r1.ok hd) (grow_new r1.ok hd own_dK) (d3 ns _ _ _ hlen rfl) ?_ (fun _ _ _ _ _ z => z.elim)
  rintro c0 H2 xs ds r2 hne hc hds e
  cases e
  have exs := das_ints hds
  subst exs
  have up : ∀ {b : Addr} {o : HO}, (W00 K).cut H1 b = some o → ((W00 K).grow d (.dK [])).cut (upd H1 d (.dK [])) b = some o := fun {b o} h => grow_in hd (R_new r1.ok hd).ex _ _ h
  have nc : (W00 K).cut H c0 = none := by
    cases e : (W00 K).cut H c0 with
    | none => rfl
    | some o => exact absurd rfl (hne _ _ (up (r1.ex _ _ e)))
  have hcl : l ≠ c0 := hne _ _ (up gl)
  have hcd : c0 ≠ d := by
    rintro rfl
    rw [grow_cut, if_pos rfl] at hc
    cases hc
  refine ⟨(grow_of r2.ok).2, [(.inr "large", .ref l), (.inr "rest", .int 0), (.inr "cells", .ref c0), (.inr "turn", .int 0)], rfl, by show 4 ≤ 15; decide, ?_⟩
  have em : mergeK [] [(.inr "large", .ref l), (.inr "rest", .int 0), (.inr "cells", .ref c0), (.inr "turn", .int 0)] = drK l c0 0 0 := rfl
  rw [em]
  refine hq d l c0 _ (r1.trans (grow_done r1.ok hd own_dK own_dK r2).1) nd nl nc ⟨0, 0, lg, upd_same, by decide, by decide, ?_, hlg, ?_, ?_, hcl⟩
  · rw [upd_ne hdl]
    exact cut_sub _ _ (r2.ex _ _ (up gl))
  · rw [upd_ne hcd]
    exact cut_sub _ _ hc
  · intro x hx
    obtain ⟨y, _, rfl⟩ := List.mem_map.mp hx
    exact absI_nn y
end
end Fw
/-! # FwLaw: the law's own body: the draw begun, then the rest -/
namespace Fw
open PySem PySem.Spec PyProof.Rows L2
open Evl (Ex)
def mB1 : EM := mLc (iScr (mVar 0)) (gNm 2) (mTest (mOp fGe (mCB fAbs (mCons (mVar 2) mNil)) (mPow (mC (.int 10)) (mC (.int 18))))) (mSub (mCB fAbs (mCons (mVar 2) mNil)) (mPow (mC (.int 10)) (mC (.int 18)))) [2]
def mB3 : EM := mLc (iScr (mVar 0)) (gNm 2) tTT (mCB fAbs (mCons (mVar 2) mNil)) [2]
theorem lc_abs {a x : Option D} {k : List D → Prop} : ∀ (ns acc : List Int), acc.length + ns.length ≤ 16777216 → k ((acc ++ ns.map absI).map D.int) →
    lcGo (gNm 2) tTT (mCB fAbs (mCons (mVar 2) mNil)) [a, x, none] k (ns.map D.int) (acc.map D.int)
  | [], acc, _, h => by
    rw [List.map_nil, List.append_nil] at h
    exact h
  | n :: ns, acc, hl, h => by
    rw [List.map_cons]
    unfold lcGo
    walk_at "fws"
    simp only [if_true]
    walk_at "fws"
    rw [List.length_cons] at hl
    refine ⟨by rw [List.length_map]; omega, ?_⟩
    have := lc_abs (a := a) (x := x) (k := k) ns (acc ++ [absI n]) (by rw [List.length_append, List.length_singleton]; omega) (by simpa using h)
    rw [List.map_append] at this
    exact this
theorem lc_big {a x : Option D} {k : List D → Prop} (hk : ∀ lg : List Int, (∀ z ∈ lg, 0 ≤ z) → k (lg.map D.int)) : ∀ (ns acc : List Int), acc.length + ns.length ≤ 16777216 → (∀ z ∈ acc, 0 ≤ z) →
    lcGo (gNm 2) (mTest (mOp fGe (mCB fAbs (mCons (mVar 2) mNil)) (mPow (mC (.int 10)) (mC (.int 18))))) (mSub (mCB fAbs (mCons (mVar 2) mNil)) (mPow (mC (.int 10)) (mC (.int 18)))) [a, x, none] k (ns.map D.int) (acc.map D.int)
  | [], acc, _, h => hk acc h
  | n :: ns, acc, hl, h => by
    have cp : CPow 10 18 := ⟨by decide, by decide, by decide⟩
    rw [List.map_cons]
    rw [List.length_cons] at hl
    unfold lcGo
    walk_at "fws"
    refine ⟨cp, ?_⟩
    by_cases hb : (10 : Int) ^ Int.toNat 18 ≤ (if n < 0 then -n else n)
    · rw [if_pos (decide_eq_true hb)]
      refine ⟨cp, by rw [List.length_map]; omega, ?_⟩
      have := lc_big (a := a) (x := x) hk ns (acc ++ [(if n < 0 then -n else n) - (10 : Int) ^ Int.toNat 18]) (by rw [List.length_append, List.length_singleton]; omega) (by
        intro z hz
        rcases List.mem_append.mp hz with hz | hz
        · exact h z hz
        · rw [List.mem_singleton.mp hz]
          omega)
      rw [List.map_append] at this
      exact this
    · rw [if_neg (by simpa using hb)]
      exact lc_big (a := a) (x := x) hk ns acc (by omega) h
theorem d1_ok (ns : List Int) (post : D → Prop) (ex : EX → Prop) (hl : ns.length ≤ 16777216) (h : ∀ lg : List Int, (∀ x ∈ lg, 0 ≤ x) → post (.lst (lg.map D.int))) : mB1 [some (.scr ns), none, none] post ex := by
  unfold mB1 mLc
  walk_at "fws"
  exact ⟨ns, rfl, lc_big (acc := []) (fun lg hlg => h lg hlg) ns (by simpa using hl) (fun _ z => nomatch z)⟩
theorem d3_ok (ns : List Int) (x : Option D) (post : D → Prop) (ex : EX → Prop) (hl : ns.length ≤ 16777216) (h : post (.lst ((ns.map absI).map D.int))) : mB3 [some (.scr ns), x, none] post ex := by
  unfold mB3 mLc
  walk_at "fws"
  exact ⟨ns, rfl, lc_abs (acc := []) ns (by simpa using hl) (by simpa using h)⟩
end Fw
namespace Fw
open PySem PySem.Spec PyProof.Rows L2
open Evl (Ex)
variable [TabsOf]
/-- what the law does: True -/
def spLaw (K : PySem.W.Frag) : Sp := fun vs H Q _ => ∃ (a : Addr) (ns : List Int), vs = [.ref a] ∧ SqL K H a (ns.map V.int) ∧ ns.length ≤ 16777216 ∧ LamX.Tabs (TabsOf.tb K) H ∧ ∀ H', Q (.bl true) H'
section
variable {P : Program} {w : World} {K : PySem.W.Frag} {mg : Str → Option Value} {base : Heap} {st : Stmt} {rest : List Stmt} {m : SM} {k kb : Nat} {N' : List Str} {p1 p2 p3 p4 p5 : Pos}
theorem law_ok {fd : FuncData} (p pb : He.Defn) (F : FunD K "law" "law" (defArgs st) (defBody st) (defScope st) [] [] (He.fAd K p) fd) (S : FnScope ("script" :: "draw" :: N') ["script"] (defScope st))
    (B : ∃ fd, Binds K fd ["script"] [] ∧ PySem.W.keepIn K (.ref (He.fAd K pb)) = true ∧ FnOk P w K mg base (L2.CX P w) kb (He.fAd K pb) fd ["script"] (spBegun K)) (hkb : kb ≤ k)
    (hgb : mg "_law_begun" = some (.ref (He.fAd K pb))) (hglb : (defScope st).names.lookup ("_law_begun" : Str) = some .globalImplicit) (hs : (defScope st).names.lookup ("script" : Str) = some .local) (hd : (defScope st).names.lookup ("draw" : Str) = some .local)
    (body : defBody st = .Assign [.Name "draw" p1] (.Call (.Name "_law_begun" p2) [.Name "script" p3] [] p4) p5 :: rest)
    (h : ∀ (A : Around) (outer : List PySem.Env) (s : Shared) (H : Hp) (E : XK), Room k (cxF P w K mg base ("script" :: "draw" :: N') "law" st p A outer s H E).A → BX (cxF P w K mg base ("script" :: "draw" :: N') "law" st p A outer s H E) E rest m)
    (hsw : ∀ (A : Around) (outer : List PySem.Env) (s : Shared) (H : Hp) (E : XK) (X : Cx), X = cxF P w K mg base ("script" :: "draw" :: N') "law" st p A outer s H E → swapsWith (.Call (.Name "_law_begun" p2) [.Name "script" p3] [] p4) (some (.Name "draw" p1)) p5.line X.env = pure false)
    (pu : ∀ ns : List Int, ns.length ≤ 16777216 → m (some (.scr ns) :: some .drw :: List.replicate N'.length none) { nx := fun _ => False, rt := fun d => d = .bl true }) :
    FnOk P w K mg base (L2.CX P w) (k + 1) (He.fAd K p) fd ["script"] (spLaw K) := by
  obtain ⟨fb, bb, kpb, okb⟩ := B
  obtain ⟨oc, od, dV, kV, doc, pm, an, cdv, ct, osl, rfl, lk, hcd, hD, hK⟩ := F.ex
  obtain ⟨c, rfl⟩ := He.codeIn_ref hcd
  have ec : He.codeOf K p = c := He.codeOf_eq lk rfl
  refine fn_of lk hcd S ?_ ?_
  · rintro vs H Q E ⟨a, ns, rfl, _⟩
    rfl
  rintro A outer s H vs Q E hr ⟨a, ns, rfl, hsq, hlen, htb, hq⟩
  have h := h A outer s H E
  have hsw := hsw A outer s H E _ rfl
  unfold cxF at h hsw
  rw [ec] at h hsw
  obtain ⟨t, q, ev⟩ := h hr
  rw [body]
  refine ⟨_, pss_cons (ps_set (i := 1) S.nd rfl (.inl hd) (pe_call okb (hr.mono hkb) hglb hgb kpb bb .nil cx_passes (pa_cons (pe_var (i := 0) rfl (.inl hs) (by decide) (by decide)) pa_nil)) hsw (.inr hd)) q, ?_⟩
  refine ⟨.ref a, rfl, a, ns, rfl, hsq, hlen, htb, ?_⟩
  intro d l c0 H' r nd nl nc dr
  have ok' : (⟨some (d, l, c0), ns.map absI, TabsOf.tb K, []⟩ : Wld).ok H' := ⟨(fun _ _ _ z => by cases z; exact dr), r.ok.tb, (fun _ z => nomatch z), (fun _ z => nomatch z), (fun _ z => nomatch z)⟩
  have hsq' : SqL K (Wld.cut ⟨some (d, l, c0), ns.map absI, TabsOf.tb K, []⟩ H') a (ns.map V.int) := by
    have h1 : SqL K ((W00 K).cut H) a (ns.map V.int) := sqL_cut (fun _ _ => w00_M a) hsq
    have out : ∀ {o : HO}, (W00 K).cut H a = some o → Wld.cut ⟨some (d, l, c0), ns.map absI, TabsOf.tb K, []⟩ H' a = some o := by
      intro o e
      have e' := r.ex _ _ e
      have ne : a ∉ (⟨some (d, l, c0), ns.map absI, TabsOf.tb K, []⟩ : Wld).M := by
        intro z
        have z : a ∈ [d, l, c0] := z
        simp only [List.mem_cons, List.not_mem_nil, or_false] at z
        rcases z with rfl | rfl | rfl
        · rw [nd] at e
          cases e
        · rw [nl] at e
          cases e
        · rw [nc] at e
          cases e
      unfold Wld.cut at e' ⊢
      rw [if_neg (w00_M a)] at e'
      rw [if_neg ne]
      exact e'
    rcases h1 with (h1 | ⟨o, h1⟩) | h1
    · exact .inl (.inl (out h1))
    · exact .inl (.inr ⟨o, out h1⟩)
    · exact .inr h1
  refine ev ⟨some (d, l, c0), ns.map absI, TabsOf.tb K, []⟩ _ H' _ _ _ ⟨?_, rfl, ?_⟩ ok' (pu ns hlen) ⟨fun _ _ _ _ _ z => z.elim, ?_, fun _ _ _ _ _ z => z.elim, fun _ _ _ _ _ z => z.elim, fun _ _ _ _ _ z => z.elim⟩
  · unfold L2.start
    simp
  · intro i dd e
    match i, e with
    | 0, e =>
      cases e
      exact ⟨.ref a, rfl, .scr hsq'⟩
    | 1, e =>
      cases e
      exact ⟨.ref d, rfl, .drw rfl⟩
    | i + 2, e =>
      rw [List.getElem?_cons_succ, List.getElem?_cons_succ, List.getElem?_replicate] at e
      split at e <;> cases e
  · intro v H2 dd r2 hv hp
    cases hp
    cases hv
    exact hq H2
end
end Fw
/-! # FwG: repr of data; a law whose body stands under no repr -/
namespace Fw
open PySem PySem.Spec PyProof.Rows L2
open Evl (Ex)

/-! ## a def called where no repr is under way -/
structure FnG (P : Program) (w : World) (K : PySem.W.Frag) (mg : Str → Option Value) (base : Heap) (CX : CXT) (k : Nat) (f : Addr) (fd : FuncData) (ps : List Str) (sp : Sp) : Prop where
  run : ∀ (A : Around) (oe : List PySem.Env) (sh : Shared) (H : Hp) (args : Args) (us : List Value) (vs : List V) (Q : VK) (E : XK), Room k A → A.guards = some [] → Env0 P w K mg base A oe sh H →
    BindsTo sh fd args (ps.zip us) → Vals vs us → sp vs H Q E → codeAny (model P w) A (.call (.ref f) args) (CR CX oe P w H sh Q E) sh
theorem fnG_of {CX : CXT} {P : Program} {w : World} {K : PySem.W.Frag} {mg : Str → Option Value} {base : Heap} {k : Nat} {f : Addr} {nm q : Str} {params : Arguments} {body : List Stmt} {sc : Scope} {dV kV doc pm cdv ct oc : Value} {an od : Option Addr}
    {osl : Array (Option Value)} {N ps : List Str} {sp : Sp} (lk : K.lookup f = some ⟨oc, od, .func (PySem.W.fnOf nm q params body sc dV kV doc pm an cdv ct), osl⟩) (hcd : PySem.W.codeIn K cdv q = true) (S : FnScope N ps sc)
    (len : ∀ vs H Q E, sp vs H Q E → vs.length = ps.length)
    (hb : ∀ (A : Around) (oe : List PySem.Env) (sh : Shared) (H : Hp) (vs : List V) (Q : VK) (E : XK), Room k (A.deeper (envOfC q sc sh.heap.objs.size f cdv)) → (A.deeper (envOfC q sc sh.heap.objs.size f cdv)).guards = some [] → sp vs H Q E →
      ∃ t, PSs (cxOf CX P w K mg base N q sc f cdv A oe sh H E) body t ∧ t { nx := fun _ H' => Q .non H', rt := Q } (start N vs) H) :
    FnG P w K mg base CX (k + 1) f (PySem.W.fnOf nm q params body sc dV kV doc pm an cdv ct) ps sp := by
  constructor
  intro A oe sh H args us vs Q E hr hgd e0 hbt rv hsp
  have hl := len _ _ _ _ hsp
  have hk := e0.mod.kin.keeps (h' := sh.heap) fun b o z => (e0.bs b o z).1
  have hnl := e0.mod.nolimit.keeps (h' := sh.heap) fun b o z => (e0.bs b o z).1
  refine codeAny_call_function hr.depth (hk _ _ lk) rfl S.co S.gen rfl (PySem.W.codeRec_of hk hcd) (hbt _ _ _ _ ?_)
  refine wpAny_newFunctionEnv_cells S.kind ?_ fun env he s1 x => ?_
  · rintro ⟨n, v⟩ hy
    rcases S.par n (List.of_mem_zip hy).1 with z | z
    · exact .inl z
    · exact .inr ⟨z, PySem.W.cellsFrom_some _ _ _ (.inl z)⟩
  subst he
  obtain ⟨t, ht, hq⟩ := hb A oe sh H vs Q E (hr.deeper _) hgd hsp
  refine ⟨hnl.keeps x.toInCall.keep, codeAny_func ?_⟩
  refine wpAny_mono (ht.run [] s1 (start N vs) H _ (inv_start S hr.hd e0 hl rv x) hq) ?_ fun _ _ z => z
  rintro fl s' hs
  match fl, hs with
  | .ret u, ⟨v, _, H', J, rv, z⟩ => exact ⟨v, H', J.os, J.bare, J.base, J.hok, rv, z⟩
  | .next, ⟨_, H', J, z⟩ => exact ⟨.non, H', J.os, J.bare, J.base, J.hok, rfl, z⟩
  | .brk, ⟨_, _, _, z⟩ => exact z.elim
  | .cont, ⟨_, _, _, z⟩ => exact z.elim

/-! ## the law's call, from there -/
section
variable {P : Program} {w : World} {K : PySem.W.Frag} {mg mb : Str → Option Value} {CX : CXT} {k : Nat} {fa a : Addr} {tbs : List (Addr × Addr)} {fd : FuncData} {x : Str} {sp : Sp} {sh : Shared} {vs : List Value} {ns : List Int}
/-- what may be tracked at the law's entry: the script, the tables of code objects -/
structure Entry (K : PySem.W.Frag) (sh : Shared) (a : Addr) (vs : List Value) (ns : List Int) (tbs : List (Addr × Addr)) (H : Hp) : Prop where
  tb : ∀ p ∈ tbs, H p.2 = some (.tbl #[])
  all : ∀ b, H b = none ∨ b ∈ tbs.map (·.2) ∨ (b = a ∧ H b = some (.frz ⟨.type "list", none, .seq vs.toArray, #[]⟩ (.lst (ns.map V.int))) ∧ K.lookup a = none)
  sq : SqL K H a (ns.map V.int)
theorem entry_some (ha : sh.heap.get? a = some ⟨.type "list", none, .seq vs.toArray, #[]⟩) (hi : IntsAre vs ns) (hl : ns.length ≤ sizeLine) (KX : K.In sh.heap)
    (hT : ∀ p ∈ tbs, sh.heap.get? p.2 = some ⟨.none, none, .fields #[], #[]⟩) : ∃ H : Hp, Entry K sh a vs ns tbs H ∧ HOk P w H sh.heap := by
  have rv := vals_ints hi
  have lv : vs.length = ns.length := hi.length
  have at_ : ∀ b ∈ tbs.map (·.2), sh.heap.get? b = some ⟨.none, none, .fields #[], #[]⟩ := by
    intro b hb
    obtain ⟨p, hp, rfl⟩ := List.mem_map.mp hb
    exact hT p hp
  have out : a ∉ tbs.map (·.2) := by
    intro z
    have := at_ a z
    rw [ha] at this
    cases this
  cases hk : K.lookup a with
  | some o =>
    have e : o = ⟨.type "list", none, .seq vs.toArray, #[]⟩ := Option.some.inj ((KX a o hk).symm.trans ha)
    subst e
    refine ⟨fun b => if b ∈ tbs.map (·.2) then some (.tbl #[]) else none, ⟨fun p hp => if_pos (List.mem_map_of_mem hp), fun b => ?_, .inr ⟨_, vs.toArray, _, hk, rfl, rfl, rfl, by rw [List.size_toArray, lv]; exact hl, rv⟩⟩, fun b u z => ?_⟩
    · by_cases m : b ∈ tbs.map (·.2)
      · exact .inr (.inl m)
      · exact .inl (if_neg m)
    · by_cases m : b ∈ tbs.map (·.2)
      · cases (if_pos m).symm.trans z
        exact at_ b m
      · cases (if_neg m).symm.trans z
  | none =>
    refine ⟨fun b => if b ∈ tbs.map (·.2) then some (.tbl #[]) else if b = a then some (.frz ⟨.type "list", none, .seq vs.toArray, #[]⟩ (.lst (ns.map V.int))) else none,
      ⟨fun p hp => if_pos (List.mem_map_of_mem hp), fun b => ?_, .inl (.inr ⟨_, (if_neg out).trans (if_pos rfl)⟩)⟩, fun b u z => ?_⟩
    · by_cases m : b ∈ tbs.map (·.2)
      · exact .inr (.inl m)
      · by_cases e : b = a
        · exact .inr (.inr ⟨e, (if_neg m).trans (if_pos e), hk⟩)
        · exact .inl ((if_neg m).trans (if_neg e))
    · by_cases m : b ∈ tbs.map (·.2)
      · cases (if_pos m).symm.trans z
        exact at_ b m
      · by_cases e : b = a
        · cases ((if_neg m).trans (if_pos e)).symm.trans z
          subst e
          exact ⟨ha, by rw [List.length_map]; exact hl, vs, _, rv, ha⟩
        · cases ((if_neg m).trans (if_neg e)).symm.trans z
theorem law_callG (KX : K.In sh.heap) (hns : sh.heap.Ns mainGlobals mg) (hb : sh.heap.Ns builtinsNs mb) (hbb : ∀ x : Str, x ≠ "__name__" → mb x = bootBuiltins x) (hlim : sh.heap.NoLimit) (hg : sh.gens = #[])
    (hT : ∀ p ∈ tbs, sh.heap.get? p.2 = some ⟨.none, none, .fields #[], #[]⟩) (nT : ∀ p ∈ tbs, K.lookup p.2 = none) (C : ∀ p ∈ tbs, PySem.W.CodeHd sh.heap p.1 p.2)
    (hbm : ∃ (bm : Addr) (ob : Obj), mg "__builtins__" = some (.ref bm) ∧ bm ≠ builtinsNs ∧ sh.heap.get? bm = some ob ∧ ob.cls = .type "module" ∧ ob.dict = some builtinsNs ∧ ob.data = .plain)
    (ha : sh.heap.get? a = some ⟨.type "list", none, .seq vs.toArray, #[]⟩) (hi : IntsAre vs ns) (hl : ns.length ≤ sizeLine) (hr : Room k callerA)
    (F : ∀ base : Heap, K.In base → base.Ns mainGlobals mg → (∀ p ∈ tbs, LamX.TabB base mg p.1 p.2) → FnG P w K mg base CX k fa fd [x] sp) (hbind : ∀ (s : Shared) (u : Value), BindsTo s fd ⟨[u], []⟩ [(x, u)])
    (hsp : ∀ H : Hp, (∀ p ∈ tbs, H p.2 = some (.tbl #[])) → SqL K H a (ns.map V.int) → sp [.ref a] H (fun v _ => v = .bl true) fun _ _ _ => False)
    (hCX : ∀ H e s', CX [] H sh (fun _ _ _ => False) e s' → False) :
    codeAny (model P w) callerA (.call (.ref fa) ⟨[.ref a], []⟩) (fun r s' => r = .ok (.ret (.bool true)) ∧ OldK sh.heap s'.heap ∧ s'.os = sh.os ∧ AllBare s'.gens) sh := by
  obtain ⟨H, N, hok⟩ := entry_some (P := P) (w := w) ha hi hl KX hT
  -- what is tracked: its object
  have told : ∀ {b : Addr} {o : Obj}, sh.heap.get? b = some o → H b = none ∨ o = ⟨.none, none, .fields #[], #[]⟩ ∨ o = ⟨.type "list", none, .seq vs.toArray, #[]⟩ := by
    intro b o e
    rcases N.all b with z | z | ⟨rfl, _, _⟩
    · exact .inl z
    · obtain ⟨p, hp, rfl⟩ := List.mem_map.mp z
      rw [hT p hp] at e
      exact .inr (.inl (Option.some.inj e).symm)
    · rw [ha] at e
      exact .inr (.inr (Option.some.inj e).symm)
  have keep : ∀ {b : Addr} {o : Obj}, sh.heap.get? b = some o → o ≠ ⟨.none, none, .fields #[], #[]⟩ → o ≠ ⟨.type "list", none, .seq vs.toArray, #[]⟩ → (hidT sh.heap H).get? b = some o :=
    fun {b o} e n1 n2 => hidT_get e ((told e).resolve_right fun z => z.elim n1 n2)
  have keepD : ∀ {b : Addr} {m : Str → Option Value}, sh.heap.Ns b m → (hidT sh.heap H).Ns b m := by
    rintro b m ⟨o, es, ep, e, d, r⟩
    refine ⟨o, es, ep, keep e ?_ ?_, d, r⟩ <;> (rintro rfl; cases d)
  have keepK : K.In (hidT sh.heap H) := by
    intro b o e
    refine hidT_get (KX b o e) ?_
    rcases N.all b with z | z | ⟨rfl, _, z⟩
    · exact z
    · obtain ⟨p, hp, rfl⟩ := List.mem_map.mp z
      rw [nT p hp] at e
      cases e
    · rw [z] at e
      cases e
  have hM : L2.Mod K mg (hidT sh.heap H) := ⟨keepK, keepD hns, ⟨mb, keepD hb, hbb⟩, hlim.elim fun mc z => ⟨mc, keepD z.1, z.2⟩⟩
  have TB : ∀ p ∈ tbs, LamX.TabB (hidT sh.heap H) mg p.1 p.2 := by
    intro p hp
    refine ⟨?_, ?_, ?_⟩
    · obtain ⟨o, us, file, tf, flags, tg, inF, text, tt, e1, r1, r2, r3, more⟩ := C p hp
      refine ⟨o, us, file, tf, flags, tg, inF, text, tt, keep e1 ?_ ?_, r1, r2, r3, more⟩
      · rintro rfl
        cases r2
        simp at r3
      · rintro rfl
        cases r2
    · obtain ⟨bm, ob, b1, b2, b3, b4, b5, b6⟩ := hbm
      refine ⟨bm, ob, b1, b2, ?_, ?_, keep b3 ?_ ?_, b4, b5, b6⟩
      · rintro rfl
        obtain ⟨o, es, ep, e, d, _⟩ := hns
        rw [b3] at e
        cases e
        rw [b6] at d
        cases d
      · rintro rfl
        rw [hT p hp] at b3
        cases b3
        cases b6
      · rintro rfl
        cases b6
      · rintro rfl
        cases b6
    · intro z
      obtain ⟨o, es, ep, e, d, _⟩ := hns
      rw [z, hT p hp] at e
      cases e
      cases d
  have e0 : Env0 P w K mg (hidT sh.heap H) callerA [] sh H := ⟨rfl, hM, fun _ _ e => of_hidT e, Nat.le_of_eq (hidT_size _ _), trivial, (fun b z => nomatch z), hok, .of_eq hg⟩
  have run := (F _ keepK (keepD hns) TB).run callerA [] sh H ⟨[.ref a], []⟩ [.ref a] [.ref a] _ _ hr rfl e0 (hbind sh (.ref a)) (.cons rfl .nil) (hsp H N.tb N.sq)
  refine codeAny_mono run ?_
  rintro r s' h
  match r, h with
  | .error e, h => exact (hCX H e s' h).elim
  | .ok .next, h => exact h.elim
  | .ok .brk, h => exact h.elim
  | .ok .cont, h => exact h.elim
  | .ok (.ret u), ⟨v, H', os, bare, un, hok', r', q⟩ =>
    have q : v = .bl true := q
    subst q
    have r' : u = Value.bool true := r'
    subst r'
    have same : ∀ b o, b ∉ tbs.map (·.2) → sh.heap.get? b = some o → s'.heap.get? b = some o := by
      intro b o nb e
      rcases N.all b with z | z | ⟨rfl, z, _⟩
      · exact un.keep b o e z (fun y => nomatch y) (fun y => nomatch y)
      · exact absurd z nb
      · have y := hok' _ _ (un.frzs _ _ _ z)
        rw [ha] at e
        cases e
        exact y.1
    have grown : ∀ p ∈ tbs, ∃ more : Array Value, s'.heap.get? p.2 = some ⟨.none, none, .fields more, #[]⟩ := fun p hp =>
      let ⟨more, z⟩ := un.tbls p.2 #[] (N.tb p hp)
      ⟨_, hok' p.2 _ z⟩
    refine ⟨rfl, ⟨fun b o e => ?_, fun b o e => ?_⟩, os, bare⟩
    · by_cases m : b ∈ tbs.map (·.2)
      · obtain ⟨p, hp, rfl⟩ := List.mem_map.mp m
        obtain ⟨more, hm⟩ := grown p hp
        cases (hT p hp).symm.trans e
        exact .inr (.inl ⟨((C p hp).tab (hT p hp)).isCodeTable, rfl, #[], more, rfl, by rw [Array.empty_append]; exact hm⟩)
      · exact .inl (same b o m e)
    · by_cases m : b ∈ tbs.map (·.2)
      · obtain ⟨p, hp, rfl⟩ := List.mem_map.mp m
        exact (grown p hp).elim fun _ hm => ⟨_, hm⟩
      · exact ⟨o, same b o m e⟩
end
/-- what is known of the law's promise at the head's heap h -/
def LawAtG (l : PySem.W.OpenLaw) (w : World) (K : PySem.W.Frag) (CX : CXT) (k n : Nat) (x : Str) (mg : Str → Option Value) (fa : Addr) (h : Heap) : Prop :=
  ∃ (fd : FuncData) (tbs : List (Addr × Addr)) (sp : Sp), (∀ p ∈ tbs, h.get? p.2 = some ⟨.none, none, .fields #[], #[]⟩ ∧ K.lookup p.2 = none ∧ PySem.W.CodeHd h p.1 p.2) ∧ (∀ (s : Shared) (u : Value), BindsTo s fd ⟨[u], []⟩ [(x, u)]) ∧
    (∀ (H : Hp) (a : Addr) (ns : List Int), ns.length ≤ n → (∀ p ∈ tbs, H p.2 = some (.tbl #[])) → SqL K H a (ns.map V.int) → sp [.ref a] H (fun v _ => v = .bl true) fun _ _ _ => False) ∧
    ∀ base : Heap, K.In base → base.Ns mainGlobals mg → (∀ p ∈ tbs, LamX.TabB base mg p.1 p.2) → FnG l.prog w K mg base CX k fa fd [x] sp
theorem walk_ofG {l : PySem.W.OpenLaw} {n k : Nat} {q : Program} {loose : List Str} {XP : (Str → Option Value) → Heap → Prop} {YP : World → Heap → Prop} {d : DefRec} {CX : World → CXT} {x : Str}
    (hn : l.most = some n) (hn2 : n ≤ sizeLine) (hdf : d.params.defaults = []) (hr : Room k callerA)
    (F : ∀ (w : World) (mg : Str → Option Value) (fa : Addr) (h : Heap), YP w h → h.Ns mainGlobals mg → mg d.name = some (.ref fa) → ∃ K : PySem.W.Frag, K.In h ∧ LawAtG l w K (CX w) k n x mg fa h)
    (hCX : ∀ (w : World) (H : Hp) (s : Shared) (e : Value) (s' : Shared), CX w [] H s (fun _ _ _ => False) e s' → False) :
    PySem.W.WalkO q loose XP YP l.row.toRowW d [] (fun f vs => PySem.call f vs) := by
  refine Att.attach_callB hn hdf ?_
  intro w s₀ sh mg mb fa o pm cd doc a vs ns G Y ho hd hcd hmg hobj hints hlen hbits hg
  obtain ⟨K, KX, fd, tbs, sp, tb, hb, hsp, hF⟩ := F w mg fa _ Y G.T.g hmg
  exact law_callG KX G.T.g G.T.b G.T.builtins G.T.nolimit hg (fun p hp => (tb p hp).1) (fun p hp => (tb p hp).2.1) (fun p hp => (tb p hp).2.2) G.T.bmain hobj hints (Nat.le_trans hlen hn2) hr hF hb
    (fun H hH hS => hsp H a ns hlen hH hS) fun H e s' => hCX w H sh e s'
end Fw
/-! # FwRepr: repr(x), texts compared -/
namespace Fw
open PySem PySem.Spec PyProof.Rows L2
open Evl (Ex)
variable [TabsOf]
/-- the text of data -/
def txt (d : D) : Str := (toP d).shown
structure ReprOk (d : D) : Prop where
  pd : pd d = true
  dp : (toP d).depth ≤ 64
  sh : (toP d).showable = true
  sz : (txt d).length ≤ 16777216
theorem toks_eq (s : Shared) : { s with toks := s.toks } = s := rfl
section
variable {X : Cx}
theorem call_reprD (hg : X.A.guards = some []) (hu : X.A.units + 100 < cLine) : CallR X (.builtin "repr") (fun xs H Q => ∃ (v : V) (d : D) (W : Wld), xs = [v] ∧ Da W X.K (W.cut H) v d ∧ ReprOk d ∧ Q (.str (txt d)) H) := by
  intro pins s σ H xs us Q I r h
  obtain ⟨v, d, W, rfl, hv, ok, q⟩ := h
  cases r with
  | cons r0 r =>
  cases r
  have hp := da_dp ok.pd hv.here
  obtain ⟨as, hr⟩ := Dp.reads I (toP d) v _ hp r0
  have hsz : (toP d).shown.length ≤ sizeLine := by
    rw [sizeLine_eq]
    exact ok.sz
  have q : Q (.str (toP d).shown) H := q
  have hs := ok.sh
  have hd := ok.dp
  have hdi : (toP d).hasDict = false := PyData.hasDict_of_canLay _ (canLay_pd d ok.pd)
  clear ok hp
  generalize toP d = p at hr hsz q hs hd hdi
  have fin : ∀ (tk : Nat) (u : Tok), EP X pins σ Q (.str p.shown u) { s with toks := tk } := fun tk u => ⟨.str p.shown, H, I.tok tk, ⟨_, rfl⟩, q⟩
  cases hr with
  | none => exact PySem.P.repr_of_none (fin _ _)
  | bool b => exact PySem.P.repr_of_bool (by cases b <;> exact fin _ _)
  | int i t => exact PySem.P.repr_of_int (by simpa [PyData.showable] using hs) (fin _ _)
  | str x t => exact PySem.P.repr_of_str (fin _ _) hsz
  | list e c dt ra => exact repr_of_reads' (.list e c dt ra) hs (PyData.noDict_hsm hdi) hg (by omega) (fun _ _ e => e) (fun h' u tk k => ⟨.str _, H, I.kept k, ⟨_, rfl⟩, q⟩) hsz
  | tuple e c dt ra => exact repr_of_reads' (.tuple e c dt ra) hs (PyData.noDict_hsm hdi) hg (by omega) (fun _ _ e => e) (fun h' u tk k => ⟨.str _, H, I.kept k, ⟨_, rfl⟩, q⟩) hsz
  | dict e c dt rk rv => simp [PyData.hasDict] at hdi
variable {E : XK} {e a b : Expr} {m : AM} {ma mb : EM} {k : Nat} {p pos : Pos}
def fRepr (ds : List D) (z : D) : Prop := ∃ x, ds = [x] ∧ ReprOk x ∧ z = .str (txt x)
theorem px_repr (hgd : X.A.guards = some []) (hr : Room k X.A) (hg : Gl X "repr") (hm : X.mg "repr" = none) (ha : AX X E [e] m) (he : starEach [e] X.env = (false, eval e X.env) :: starEach [] X.env := by rfl) (hpl : (backTo pos (starEach [] X.env)).any (·.1) = false := by rfl) :
    PX X E (.Call (.Name "repr" p) [e] [] pos) (mCB fRepr m) := px_callB (call_reprD hgd (by have := hr.un; omega)) (fun W => by
  rintro H xs ds z Q ok hx ⟨x, rfl, ho, rfl⟩ q
  cases hx with
  | cons h r =>
  cases r
  exact ⟨_, x, W, rfl, h, ho, q _ H (.refl ok) (.str _)⟩) hg hm (by decide +kernel) ha (by decide) (by decide) he hpl
theorem px_dic0 : PX X E (.Dict [] [] pos) (mC (.dic [] [])) := ⟨_, pe_dnewK, fun W σ H Q δ post ex hs ok hm hq lx => fun p hp =>
  hq _ _ _ (R_new ok hp) (.dic (cut_new ok hp fun _ z => nomatch z) rfl .nil) hm⟩
/-! ## texts compared -/
def fEqS (a b z : D) : Prop := ∃ x y, a = .str x ∧ b = .str y ∧ z = .bl (decide (x = y))
def fNeS (a b z : D) : Prop := ∃ x y, a = .str x ∧ b = .str y ∧ z = .bl (!decide (x = y))
theorem dec_strV {x y : Str} : decide (V.str x = V.str y) = decide (x = y) := by
  rw [Bool.eq_iff_iff]
  simp
theorem opD_eqS {W : Wld} {K : PySem.W.Frag} : OpD W K L2.rEq fEqS := by
  rintro H x y a b z Q ok hx hy ⟨i, j, rfl, rfl, rfl⟩ q
  cases hx
  cases hy
  exact ⟨rfl, by rw [dec_strV]; exact q _ H (.refl ok) (.bl _)⟩
theorem opD_neS {W : Wld} {K : PySem.W.Frag} : OpD W K L2.rNe fNeS := by
  rintro H x y a b z Q ok hx hy ⟨i, j, rfl, rfl, rfl⟩ q
  cases hx
  cases hy
  exact ⟨rfl, by rw [dec_strV]; exact q _ H (.refl ok) (.bl _)⟩
theorem px_eqS (ha : PX X E a ma) (hb : PX X E b mb) (hm : behindInMarks .Eq b = false := by first | rfl | exact nomark _) : PX X E (.Compare a [.Eq] [b] pos) (mOp fEqS ma mb) := px_cmp op_eq (fun _ => opD_eqS) ha hb hm
theorem px_neS (ha : PX X E a ma) (hb : PX X E b mb) (hm : behindInMarks .NotEq b = false := by first | rfl | exact nomark _) : PX X E (.Compare a [.NotEq] [b] pos) (mOp fNeS ma mb) := px_cmp op_ne (fun _ => opD_neS) ha hb hm
theorem tx_eqS (ha : PX X E a ma) (hb : PX X E b mb) (hm : behindInMarks .Eq b = false := by first | rfl | exact nomark _) : TX X E (.Compare a [.Eq] [b] pos) (mTest (mOp fEqS ma mb)) := tx_cmp op_eq (fun _ => opD_eqS) ha hb hm
theorem tx_neS (ha : PX X E a ma) (hb : PX X E b mb) (hm : behindInMarks .NotEq b = false := by first | rfl | exact nomark _) : TX X E (.Compare a [.NotEq] [b] pos) (mTest (mOp fNeS ma mb)) := tx_cmp op_ne (fun _ => opD_neS) ha hb hm
theorem fRepr_one {x z : D} : fRepr [x] z ↔ ReprOk x ∧ z = .str (txt x) := ⟨fun ⟨_, h1, h2, h3⟩ => by cases h1; exact ⟨h2, h3⟩, fun h => ⟨_, rfl, h.1, h.2⟩⟩
theorem fEqS_str {x y : Str} {z : D} : fEqS (.str x) (.str y) z ↔ z = .bl (decide (x = y)) := ⟨fun ⟨_, _, h1, h2, h3⟩ => by cases h1; cases h2; exact h3, fun h => ⟨_, _, rfl, rfl, h⟩⟩
theorem fNeS_str {x y : Str} {z : D} : fNeS (.str x) (.str y) z ↔ z = .bl (!decide (x = y)) := ⟨fun ⟨_, _, h1, h2, h3⟩ => by cases h1; cases h2; exact h3, fun h => ⟨_, _, rfl, rfl, h⟩⟩
end
theorem begun_world {K : PySem.W.Frag} {H H' : Hp} {a d l c0 : Addr} {ns : List Int} (r : (W00 K).R H H') (nd : (W00 K).cut H d = none) (nl : (W00 K).cut H l = none) (nc : (W00 K).cut H c0 = none) (dr : DrawOk H' d l c0 (ns.map absI)) (hsq : SqL K H a (ns.map V.int)) :
    (⟨some (d, l, c0), ns.map absI, TabsOf.tb K, []⟩ : Wld).ok H' ∧ SqL K (Wld.cut ⟨some (d, l, c0), ns.map absI, TabsOf.tb K, []⟩ H') a (ns.map V.int) := by
  refine ⟨⟨(fun _ _ _ z => by cases z; exact dr), r.ok.tb, (fun _ z => nomatch z), (fun _ z => nomatch z), (fun _ z => nomatch z)⟩, ?_⟩
  have h1 : SqL K ((W00 K).cut H) a (ns.map V.int) := sqL_cut (fun _ _ => w00_M a) hsq
  have out : ∀ {o : HO}, (W00 K).cut H a = some o → Wld.cut ⟨some (d, l, c0), ns.map absI, TabsOf.tb K, []⟩ H' a = some o := by
    intro o e
    have e' := r.ex _ _ e
    have ne : a ∉ (⟨some (d, l, c0), ns.map absI, TabsOf.tb K, []⟩ : Wld).M := by
      intro z
      have z : a ∈ [d, l, c0] := z
      simp only [List.mem_cons, List.not_mem_nil, or_false] at z
      rcases z with rfl | rfl | rfl
      · rw [nd] at e
        cases e
      · rw [nl] at e
        cases e
      · rw [nc] at e
        cases e
    unfold Wld.cut at e' ⊢
    rw [if_neg (w00_M a)] at e'
    rw [if_neg ne]
    exact e'
  rcases h1 with (h1 | ⟨o, h1⟩) | h1
  · exact .inl (.inl (out h1))
  · exact .inl (.inr ⟨o, out h1⟩)
  · exact .inr h1
/-! ## ints are told -/
theorem toPs_ints : ∀ ns : List Int, toPs (ns.map D.int) = ns.map PyData.int
  | [] => rfl
  | n :: ns => by
    rw [List.map_cons, List.map_cons, ← toPs_ints ns]
    rfl
theorem log_lt {n : Nat} (h : n < 10 ^ 12) : n.log2 < 40 := by
  by_cases h0 : n = 0
  · subst h0
    decide
  · exact (Nat.log2_lt h0).mpr (by omega)
theorem weight_int {i : Int} (h : i.natAbs < 10 ^ 12) : PyData.weight (.int i) ≤ 40 := by
  have := log_lt h
  simp only [PyData.weight]
  split <;> omega
theorem weight_ints : ∀ ns : List Int, (∀ n ∈ ns, n.natAbs < 10 ^ 12) → PyData.weightAll (ns.map .int) ≤ 41 * ns.length
  | [], _ => by simp [PyData.weightAll]
  | n :: ns, h => by
    have h1 := weight_int (h n List.mem_cons_self)
    have h2 := weight_ints ns fun m hm => h m (List.mem_cons_of_mem _ hm)
    simp only [List.map_cons, PyData.weightAll, List.length_cons]
    omega
theorem canLay_ints : ∀ ns : List Int, PyData.canLayAll0 (ns.map .int) = true
  | [] => rfl
  | n :: ns => by
    simp only [List.map_cons, PyData.canLayAll0, canLay_ints ns]
    rfl
theorem shown_le_size {p : PyData} (hl : p.leavesShort 13 = true) (hw : p.weight ≤ 2 ^ 20) : p.shown.length ≤ 16777216 := by
  have := PyData.shown_fits (by decide) (by decide) hl hw
  rwa [sizeLine_eq] at this
theorem reprOk_int {i : Int} (h : i.natAbs < 10 ^ 12) : ReprOk (.int i) := by
  refine ⟨rfl, Nat.zero_le _, ?_, shown_le_size ?_ ?_⟩
  · have := log_lt h
    simp only [toP, PyData.showable, decide_eq_true_eq]
    omega
  · simp only [toP, PyData.leavesShort, decide_eq_true_eq]
    exact PyData.shown_int_le h
  · have := weight_int h
    have e : (2 : Nat) ^ 20 = 1048576 := by decide
    simp only [toP]
    omega
theorem reprOk_ints {ns : List Int} (h : ∀ n ∈ ns, n.natAbs < 10 ^ 12) (hl : ns.length ≤ 1000) : ReprOk (.tup (ns.map D.int)) := by
  obtain ⟨h1, h2⟩ := ints_pd ns
  have e : toP (.tup (ns.map D.int)) = .tuple (ns.map PyData.int) := by
    rw [← toPs_ints]
    rfl
  refine ⟨h1, ?_, ?_, ?_⟩
  · show PyData.depthAll (toPs (ns.map D.int)) + 1 ≤ 64
    rw [h2]
    decide
  · rw [e]
    simp only [PyData.showable]
    refine PyData.showableAll_ints ns fun n hn => ?_
    have := log_lt (h n hn)
    omega
  · unfold txt
    rw [e]
    refine shown_le_size ?_ ?_
    · simp only [PyData.leavesShort]
      exact PyData.leavesShortAll_of_canLay0 13 _ (canLay_ints ns) (PyData.intsShortAll_ints ns h)
    · have := weight_ints ns h
      have e : (2 : Nat) ^ 20 = 1048576 := by decide
      simp only [PyData.weight]
      omega
/-! ## the law's body, where no repr is under way -/
section
variable {P : Program} {w : World} {K : PySem.W.Frag} {mg : Str → Option Value} {base : Heap} {st : Stmt} {rest : List Stmt} {m : SM} {k kb : Nat} {N' : List Str} {p1 p2 p3 p4 p5 : Pos}
theorem law_okG {fd : FuncData} (p pb : He.Defn) (F : FunD K "law" "law" (defArgs st) (defBody st) (defScope st) [] [] (He.fAd K p) fd) (S : FnScope ("script" :: "draw" :: N') ["script"] (defScope st))
    (B : ∃ fd, Binds K fd ["script"] [] ∧ PySem.W.keepIn K (.ref (He.fAd K pb)) = true ∧ FnOk P w K mg base (L2.CX P w) kb (He.fAd K pb) fd ["script"] (spBegun K)) (hkb : kb ≤ k)
    (hgb : mg "_law_begun" = some (.ref (He.fAd K pb))) (hglb : (defScope st).names.lookup ("_law_begun" : Str) = some .globalImplicit) (hs : Vis (defScope st) ("script" : Str)) (hd : Loc (defScope st) ("draw" : Str))
    (hf : ∀ (A : Around) (outer : List PySem.Env) (s : Shared) (H : Hp) (E : XK), (cxF P w K mg base ("script" :: "draw" :: N') "law" st p A outer s H E).fn "draw" = true ∨ (defScope st).names.lookup ("draw" : Str) = some .local)
    (body : defBody st = .Assign [.Name "draw" p1] (.Call (.Name "_law_begun" p2) [.Name "script" p3] [] p4) p5 :: rest)
    (h : ∀ (A : Around) (outer : List PySem.Env) (s : Shared) (H : Hp) (E : XK), (cxF P w K mg base ("script" :: "draw" :: N') "law" st p A outer s H E).A.guards = some [] → Room k (cxF P w K mg base ("script" :: "draw" :: N') "law" st p A outer s H E).A → BX (cxF P w K mg base ("script" :: "draw" :: N') "law" st p A outer s H E) E rest m)
    (hsw : ∀ (A : Around) (outer : List PySem.Env) (s : Shared) (H : Hp) (E : XK) (X : Cx), X = cxF P w K mg base ("script" :: "draw" :: N') "law" st p A outer s H E → swapsWith (.Call (.Name "_law_begun" p2) [.Name "script" p3] [] p4) (some (.Name "draw" p1)) p5.line X.env = pure false)
    (pu : ∀ ns : List Int, ns.length ≤ 16777216 → m (some (.scr ns) :: some .drw :: List.replicate N'.length none) { nx := fun _ => False, rt := fun d => d = .bl true }) :
    FnG P w K mg base (L2.CX P w) (k + 1) (He.fAd K p) fd ["script"] (spLaw K) := by
  obtain ⟨fb, bb, kpb, okb⟩ := B
  obtain ⟨oc, od, dV, kV, doc, pm, an, cdv, ct, osl, rfl, lk, hcd, hD, hK⟩ := F.ex
  obtain ⟨c, rfl⟩ := He.codeIn_ref hcd
  have ec : He.codeOf K p = c := He.codeOf_eq lk rfl
  refine fnG_of lk hcd S ?_ ?_
  · rintro vs H Q E ⟨a, ns, rfl, _⟩
    rfl
  rintro A outer s H vs Q E hr hgd ⟨a, ns, rfl, hsq, hlen, htb, hq⟩
  have h := h A outer s H E
  have hsw := hsw A outer s H E _ rfl
  have hf := hf A outer s H E
  unfold cxF at h hsw hf
  rw [ec] at h hsw hf
  obtain ⟨t, q, ev⟩ := h hgd hr
  rw [body]
  refine ⟨_, pss_cons (ps_set (i := 1) S.nd rfl hd (pe_call okb (hr.mono hkb) hglb hgb kpb bb .nil cx_passes (pa_cons (pe_var (i := 0) rfl hs (by decide) (by decide)) pa_nil)) hsw hf) q, ?_⟩
  refine ⟨.ref a, rfl, a, ns, rfl, hsq, hlen, htb, ?_⟩
  intro d l c0 H' r nd nl nc dr
  obtain ⟨ok', hsq'⟩ := begun_world r nd nl nc dr hsq
  refine ev ⟨some (d, l, c0), ns.map absI, TabsOf.tb K, []⟩ _ H' _ _ _ ⟨?_, rfl, ?_⟩ ok' (pu ns hlen) ⟨fun _ _ _ _ _ z => z.elim, ?_, fun _ _ _ _ _ z => z.elim, fun _ _ _ _ _ z => z.elim, fun _ _ _ _ _ z => z.elim⟩
  · unfold L2.start
    simp
  · intro i dd e
    match i, e with
    | 0, e =>
      cases e
      exact ⟨.ref a, rfl, .scr hsq'⟩
    | 1, e =>
      cases e
      exact ⟨.ref d, rfl, .drw rfl⟩
    | i + 2, e =>
      rw [List.getElem?_cons_succ, List.getElem?_cons_succ, List.getElem?_replicate] at e
      split at e <;> cases e
  · intro v H2 dd r2 hv hp
    cases hp
    cases hv
    exact hq H2
end
end Fw
/-! # FwTac: what is unfolded -/
namespace Fw
open PySem PySem.Spec PyProof.Rows L2
abbrev mShr (a b : EM) : EM := mOp (fIc (fun _ j => 0 ≤ j) fun i j => i / 2 ^ j.toNat) a b
abbrev mBand (a b : EM) : EM := mOp (fI Builtin.bitAnd) a b
abbrev mBxor (a b : EM) : EM := mOp (fI Builtin.bitXor) a b
end Fw
local macro_rules | `(tactic| walk_at "fwx") => `(tactic| simp (config := { failIfUnchanged := false }) only [Fw.funM, Fw.sSeq, Fw.sSet, Fw.sTo, Fw.sDrop, Fw.sRet, Fw.sRetN, Fw.sNx, Fw.sBk, Fw.sCt, Fw.sIf, Fw.sFor, Fw.sAug, Fw.sPar, Fw.sPar3, Fw.sRaise, Fw.sDrPut, Fw.mVar, Fw.mC, Fw.mOp, Fw.mSub, Fw.mMul, Fw.mFdiv, Fw.mMod, Fw.mPow, Fw.mNeg, Fw.mTest, Fw.mNot, Fw.mAnd, Fw.mOr, Fw.mAndV, Fw.mOrV, Fw.mNotV, Fw.mIf, Fw.mChain,   Fw.mTup, Fw.mLst, Fw.mNil, Fw.mCons, Fw.mCall, Fw.mCallK, Fw.mCB, Fw.mDrI, Fw.mDrPop, Fw.mDic, Fw.mGet, Fw.gNm, Fw.gTp, Fw.gCn, Fw.gNl, Fw.iSq, Fw.iDrC, Fw.iRange, Fw.iRange2, Fw.iScr, Fw.tTT, Fw.mIsi, Fw.mIsi2, List.map_cons, List.map_nil, List.length_cons, List.length_nil, List.replicate, List.cons_append, List.nil_append,   List.getElem?_cons_zero, List.getElem?_cons_succ, List.getElem?_nil, List.set_cons_zero, List.set_cons_succ, Option.some.injEq, exists_eq_left', exists_eq_left, Nat.reduceAdd, Nat.reduceSub, true_and, and_true, Fw.fAdd_int, Fw.fAdd_lst, Fw.fAdd_tup, Fw.fI_int, Fw.fIc_int, Fw.fIB_int, Fw.fInt_int, Fw.fAbs_int, Fw.fMin_int, Fw.fIsB_bl, Fw.fNotB_bl, Fw.fLen_lst, Fw.fLen_tup, Fw.fEq_int, Fw.items_lst, Fw.items_tup, List.cons.injEq, Fw.D.int.injEq, Fw.D.bl.injEq, Fw.D.str.injEq, Fw.D.lst.injEq, Fw.D.tup.injEq, and_assoc, exists_and_left, exists_eq_right, exists_eq_right', eq_self_iff_true, Nat.reduceLeDiff, Fw.mShr, Fw.mBand, Fw.mBxor, Fw.fRepr_one, Fw.fEqS_str, Fw.fNeS_str])
namespace Fw
open PySem PySem.Spec PyProof.Rows L2
end Fw

/-! # FwOwn: lists that a local name holds alone: they grow and shrink, told as values -/
namespace Fw
open PySem PySem.Spec PyProof.Rows L2
open Evl (Ex)
variable [TabsOf]
/-! ## the world in which they are apart -/
def Wld.gr (W : Wld) (S : List Nat) (ad : Nat → Addr) (it : Nat → List V) : Wld := { W with own := S.map (fun i => (ad i, HO.lst (it i))) ++ W.own }
/-- the heap without them -/
def cutS (W : Wld) (S : List Nat) (ad : Nat → Addr) (H : Hp) : Hp := fun b => if b ∈ S.map ad then none else W.cut H b
def pinS (S : List Nat) (ad : Nat → Addr) (δ : Env) : Env := S.foldr (fun i δ => δ.set i (some (.pin (ad i)))) δ
def unpS (S : List Nat) (δ δ' : Env) : Env := S.foldr (fun i δ2 => δ2.set i (δ[i]?.getD none)) δ'
section
variable {W : Wld} {K : PySem.W.Frag} {S : List Nat} {ad : Nat → Addr} {it : Nat → List V} {H H' H0 : Hp} {b : Addr} {σ σ' : L2.St} {δ δ' : Env}
theorem gr_M : b ∈ (W.gr S ad it).M ↔ b ∈ S.map ad ∨ b ∈ W.M := by
  unfold Wld.gr Wld.M
  simp only [List.map_append, List.map_map, List.mem_append]
  constructor
  · rintro ((h | h) | h)
    · exact .inl h
    · exact .inr (.inl h)
    · exact .inr (.inr h)
  · rintro (h | h | h)
    · exact .inl (.inl h)
    · exact .inl (.inr h)
    · exact .inr h
theorem gr_cut : (W.gr S ad it).cut H = cutS W S ad H := by
  funext b
  unfold cutS
  by_cases h : b ∈ S.map ad
  · rw [if_pos h]
    unfold Wld.cut
    rw [if_pos (gr_M.mpr (.inl h))]
  · rw [if_neg h]
    unfold Wld.cut
    by_cases hm : b ∈ W.M
    · rw [if_pos hm, if_pos (gr_M.mpr (.inr hm))]
    · rw [if_neg hm, if_neg fun z => (gr_M.mp z).elim h hm]
theorem gr_sm : W.Sm (W.gr S ad it) := ⟨rfl, rfl, rfl⟩
theorem sm_gr : (W.gr S ad it).Sm W := ⟨rfl, rfl, rfl⟩
theorem cutS_sub : Ex (cutS W S ad H) (W.cut H) := by
  intro a o h
  unfold cutS at h
  split at h
  · cases h
  · exact h
theorem gr_of (ok : (W.gr S ad it).ok H) : W.ok H ∧ ∀ i ∈ S, H (ad i) = some (.lst (it i)) :=
  ⟨⟨ok.dr, ok.tb, fun q hq => ok.own q (List.mem_append_right _ hq), fun q hq => ok.sep q (List.mem_append_right _ hq), fun q hq => ok.ownO q (List.mem_append_right _ hq)⟩,
    fun i hi => ok.own (ad i, .lst (it i)) (List.mem_append_left _ (List.mem_map_of_mem hi))⟩
theorem ok_gr (ok : W.ok H) (out : ∀ i ∈ S, ad i ∉ W.M) (h : ∀ i ∈ S, H (ad i) = some (.lst (it i))) : (W.gr S ad it).ok H := by
  refine ⟨ok.dr, ok.tb, fun q hq => ?_, fun q hq => ?_, fun q hq => ?_⟩
  · rcases List.mem_append.mp hq with hq | hq
    · obtain ⟨i, hi, rfl⟩ := List.mem_map.mp hq
      exact h i hi
    · exact ok.own q hq
  · rcases List.mem_append.mp hq with hq | hq
    · obtain ⟨i, hi, rfl⟩ := List.mem_map.mp hq
      exact fun z => out i hi (List.mem_append_right _ z)
    · exact ok.sep q hq
  · rcases List.mem_append.mp hq with hq | hq
    · obtain ⟨i, hi, rfl⟩ := List.mem_map.mp hq
      exact own_lst
    · exact ok.ownO q hq
theorem pinS_len : (pinS S ad δ).length = δ.length := by
  unfold pinS
  induction S with
  | nil => rfl
  | cons i S ih => rw [List.foldr_cons, List.length_set, ih]
theorem pinS_out {k : Nat} (h : k ∉ S) : (pinS S ad δ)[k]? = δ[k]? := by
  unfold pinS
  induction S with
  | nil => rfl
  | cons i S ih => rw [List.foldr_cons, List.getElem?_set_ne fun z => h (by rw [z]; exact List.mem_cons_self), ih fun z => h (List.mem_cons_of_mem _ z)]
theorem pinS_in {k : Nat} (h : k ∈ S) (hl : k < δ.length) : (pinS S ad δ)[k]? = some (some (.pin (ad k))) := by
  unfold pinS
  induction S with
  | nil => cases h
  | cons i S ih =>
    rw [List.foldr_cons]
    by_cases e : i = k
    · subst e
      have hl' : i < (pinS S ad δ).length := by rw [pinS_len]; exact hl
      exact List.getElem?_set_self hl'
    · rw [List.getElem?_set_ne e]
      exact ih ((List.mem_cons.mp h).resolve_left fun z => e z.symm)
theorem unpS_len : (unpS S δ δ').length = δ'.length := by
  unfold unpS
  induction S with
  | nil => rfl
  | cons i S ih => rw [List.foldr_cons, List.length_set, ih]
theorem unpS_out {k : Nat} (h : k ∉ S) : (unpS S δ δ')[k]? = δ'[k]? := by
  unfold unpS
  induction S with
  | nil => rfl
  | cons i S ih => rw [List.foldr_cons, List.getElem?_set_ne fun z => h (by rw [z]; exact List.mem_cons_self), ih fun z => h (List.mem_cons_of_mem _ z)]
theorem unpS_in {k : Nat} (h : k ∈ S) (hl : k < δ'.length) (hd : k < δ.length) : (unpS S δ δ')[k]? = δ[k]? := by
  unfold unpS
  induction S with
  | nil => cases h
  | cons i S ih =>
    rw [List.foldr_cons]
    by_cases e : i = k
    · subst e
      have hl' : i < (unpS S δ δ').length := by rw [unpS_len]; exact hl
      refine (List.getElem?_set_self hl').trans ?_
      rw [List.getElem?_eq_getElem hd]
      rfl
    · rw [List.getElem?_set_ne e]
      exact ih ((List.mem_cons.mp h).resolve_left fun z => e z.symm)
/-! ## the state -/
structure OwnSt (W : Wld) (K : PySem.W.Frag) (H0 : Hp) (S : List Nat) (σ : L2.St) (H : Hp) (δ : Env) (ad : Nat → Addr) (it : Nat → List V) : Prop where
  nd : S.Nodup
  inj : ∀ i ∈ S, ∀ j ∈ S, ad i = ad j → i = j
  out : ∀ i ∈ S, ad i ∉ W.M
  ok : (W.gr S ad it).ok H
  ex0 : Ex (W.cut H0) (cutS W S ad H)
  st : SL (W.gr S ad it) K σ H (pinS S ad δ)
  da : ∀ i ∈ S, ∃ ds, δ[i]? = some (some (.lst ds)) ∧ Das W K (cutS W S ad H) (it i) ds
theorem OwnSt.R0 (s : OwnSt W K H0 S σ H δ ad it) : W.R H0 H := ⟨(gr_of s.ok).1, s.ex0.trans cutS_sub⟩
theorem OwnSt.lt (s : OwnSt W K H0 S σ H δ ad it) {i : Nat} (h : i ∈ S) : i < δ.length := by
  obtain ⟨ds, e, _⟩ := s.da i h
  exact (List.getElem?_eq_some_iff.mp e).1
theorem OwnSt.at_ (s : OwnSt W K H0 S σ H δ ad it) {i : Nat} (h : i ∈ S) : σ[i]? = some (some (.ref (ad i))) := by
  obtain ⟨v, h1, h2⟩ := s.st.at_ i _ (pinS_in h (s.lt h))
  cases h2
  exact h1
/-- seen as plain data -/
theorem OwnSt.thaw (s : OwnSt W K H0 S σ H δ ad it) : SL W K σ H δ := by
  refine ⟨?_, s.st.tb, fun k d e => ?_⟩
  · rw [s.st.len, pinS_len]
  · by_cases h : k ∈ S
    · obtain ⟨ds, e2, hd⟩ := s.da k h
      rw [e] at e2
      cases e2
      refine ⟨_, s.at_ h, .lst ?_ (hd.up cutS_sub)⟩
      unfold Wld.cut
      rw [if_neg (s.out k h), (gr_of s.ok).2 k h]
    · obtain ⟨v, h1, h2⟩ := s.st.at_ k d (by rw [pinS_out h]; exact e)
      rw [gr_cut] at h2
      exact ⟨v, h1, (h2.sm sm_gr).up cutS_sub⟩
theorem cutS_ex {S : List Nat} {ad : Nat → Addr} (e : Ex (W.cut H) (W.cut H')) : Ex (cutS W S ad H) (cutS W S ad H') := by
  intro a o h
  unfold cutS at h ⊢
  split at h
  · cases h
  · rename_i n
    rw [if_neg n]
    exact e a o h
/-- what was read stays -/
theorem OwnSt.stay (s : OwnSt W K H0 S σ H δ ad it) (r : W.R H H') : OwnSt W K H0 S σ H' δ ad it ∧ Ex (cutS W S ad H) (cutS W S ad H') := by
  have ex := cutS_ex (S := S) (ad := ad) r.ex
  refine ⟨⟨s.nd, s.inj, s.out, ok_gr r.ok s.out fun i hi => ?_, s.ex0.trans ex, ?_, fun i hi => ?_⟩, ex⟩
  · have h1 : W.cut H (ad i) = some (.lst (it i)) := by
      unfold Wld.cut
      rw [if_neg (s.out i hi), (gr_of s.ok).2 i hi]
    exact cut_sub _ _ (r.ex _ _ h1)
  · exact s.st.sm ⟨rfl, rfl, rfl⟩ (by rw [gr_cut, gr_cut]; exact ex)
  · obtain ⟨ds, e, hd⟩ := s.da i hi
    exact ⟨ds, e, hd.up ex⟩
/-- what was done beside them -/
theorem OwnSt.beside {δp : Env} (s : OwnSt W K H0 S σ H δ ad it) (r : (W.gr S ad it).R H H') (h : SL (W.gr S ad it) K σ' H' δp) (pins : ∀ i ∈ S, δp[i]? = some (some (.pin (ad i)))) :
    OwnSt W K H0 S σ' H' (unpS S δ δp) ad it ∧ Ex (cutS W S ad H) (cutS W S ad H') := by
  have ex : Ex (cutS W S ad H) (cutS W S ad H') := by
    have := r.ex
    rwa [gr_cut, gr_cut] at this
  have lt : ∀ {i : Nat}, i ∈ S → i < δp.length := fun {i} hi => (List.getElem?_eq_some_iff.mp (pins i hi)).1
  refine ⟨⟨s.nd, s.inj, s.out, r.ok, s.ex0.trans ex, ⟨?_, h.tb, fun k d e => ?_⟩, fun i hi => ?_⟩, ex⟩
  · rw [h.len, pinS_len, unpS_len]
  · by_cases hk : k ∈ S
    · rw [pinS_in hk (by rw [unpS_len]; exact lt hk)] at e
      cases e
      exact h.at_ k _ (pins k hk)
    · rw [pinS_out hk, unpS_out hk] at e
      exact h.at_ k d e
  · obtain ⟨ds, e, hd⟩ := s.da i hi
    exact ⟨ds, by rw [unpS_in hi (lt hi) (s.lt hi)]; exact e, hd.up ex⟩
theorem xlink_gr {E : XK} {ex : EX → Prop} (s : OwnSt W K H0 S σ H δ ad it) (l : XLink W K H0 E ex) : XLink (W.gr S ad it) K H E ex := by
  rintro x C d H' ⟨r, hC, xs, hd, hdd⟩ hx
  have e := r.ex
  rw [gr_cut, gr_cut] at e
  rw [gr_cut] at hd
  refine l x C d H' ⟨⟨(gr_of r.ok).1, s.ex0.trans (e.trans cutS_sub)⟩, hC, xs, (hd.sm sm_gr).up cutS_sub, ?_⟩ hx
  rcases hdd with h | ⟨dd, h1, h2⟩
  · exact .inl h
  · rw [gr_cut] at h2
    exact .inr ⟨dd, h1, cutS_sub _ _ h2⟩
end
/-! ## statements over it: the names that hold lists alone, ahead and behind, and at a loop's breaks -/
structure SLinkO (W : Wld) (K : PySem.W.Frag) (E : XK) (H0 : Hp) (S S' Sb : List Nat) (H : Hp) (ad : Nat → Addr) (Z : Ends) (F : SE) : Prop where
  nx : ∀ σ' H' δ' ad' it', OwnSt W K H0 S' σ' H' δ' ad' it' → Ex (cutS W S ad H) (cutS W S' ad' H') → F.nx δ' → Z.nx σ' H'
  rt : ∀ v H' d, W.R H0 H' → Da W K (W.cut H') v d → F.rt d → Z.rt v H'
  bk : ∀ σ' H' δ' ad' it', OwnSt W K H0 Sb σ' H' δ' ad' it' → Ex (cutS W S ad H) (cutS W Sb ad' H') → F.bk δ' → Z.bk σ' H'
  ct : ∀ σ' H' δ' ad' it', OwnSt W K H0 Sb σ' H' δ' ad' it' → Ex (cutS W S ad H) (cutS W Sb ad' H') → F.ct δ' → Z.ct σ' H'
  ex : XLink W K H0 E F.ex
def EvSo (W : Wld) (K : PySem.W.Frag) (E : XK) (H0 : Hp) (S S' Sb : List Nat) (t : TS) (m : SM) : Prop := ∀ σ H Z δ F ad it, OwnSt W K H0 S σ H δ ad it → m δ F → SLinkO W K E H0 S S' Sb H ad Z F → t Z σ H
def SXo (X : Cx) (E : XK) (S S' Sb : List Nat) (s : Stmt) (m : SM) : Prop := ∃ t, PS X s t ∧ ∀ W H0, EvSo W X.K E H0 S S' Sb t m
def BXo (X : Cx) (E : XK) (S S' Sb : List Nat) (ss : List Stmt) (m : SM) : Prop := ∃ t, PSs X ss t ∧ ∀ W H0, EvSo W X.K E H0 S S' Sb t m
/-- done beside them; inlp: it stands in a loop with just these -/
def mPin (S : List Nat) (inlp : Bool) (m : SM) : SM := fun δ F => ∀ p : Nat → Addr, m (pinS S p δ)
  { nx := fun δ' => (∀ i ∈ S, δ'[i]? = some (some (.pin (p i)))) ∧ F.nx (unpS S δ δ'), rt := F.rt, bk := fun δ' => inlp = true ∧ (∀ i ∈ S, δ'[i]? = some (some (.pin (p i)))) ∧ F.bk (unpS S δ δ'),
    ct := fun δ' => inlp = true ∧ (∀ i ∈ S, δ'[i]? = some (some (.pin (p i)))) ∧ F.ct (unpS S δ δ'), ex := F.ex }
def iPin (S : List Nat) (m : IM) : IM := fun δ post ex => ∀ p : Nat → Addr, m (pinS S p δ) post ex
def gPin (S : List Nat) (g : GM) : GM := fun d δ k => ∀ p : Nat → Addr, g d (pinS S p δ) fun δ' => (∀ i ∈ S, δ'[i]? = some (some (.pin (p i)))) ∧ k (unpS S δ δ')
section
variable {X : Cx} {E : XK} {S S' S2 Sb : List Nat} {st : Stmt} {ss a b : List Stmt} {m ma mb : SM} {c : Expr} {tc : TM} {pos : Pos}
theorem so_lift (h : SX X E st m) : SXo X E S S S st (mPin S true m) := by
  obtain ⟨t, p, ev⟩ := h
  refine ⟨t, p, fun W H0 σ H Z δ F ad it s hm l => ?_⟩
  refine ev (W.gr S ad it) σ H Z _ _ s.st s.ok (hm ad) ⟨?_, ?_, ?_, ?_, xlink_gr s l.ex⟩
  · rintro σ' H' δ' r hs ⟨hp, hk⟩
    obtain ⟨s', ex⟩ := s.beside r hs hp
    exact l.nx _ _ _ _ _ s' ex hk
  · intro v H' d r hv hk
    have e := r.ex
    rw [gr_cut, gr_cut] at e
    rw [gr_cut] at hv
    exact l.rt v H' d ⟨(gr_of r.ok).1, s.ex0.trans (e.trans cutS_sub)⟩ ((hv.sm sm_gr).up cutS_sub) hk
  · rintro σ' H' δ' r hs ⟨_, hp, hk⟩
    obtain ⟨s', ex⟩ := s.beside r hs hp
    exact l.bk _ _ _ _ _ s' ex hk
  · rintro σ' H' δ' r hs ⟨_, hp, hk⟩
    obtain ⟨s', ex⟩ := s.beside r hs hp
    exact l.ct _ _ _ _ _ s' ex hk
theorem so_liftN (h : SX X E st m) : SXo X E S S Sb st (mPin S false m) := by
  obtain ⟨t, p, ev⟩ := h
  refine ⟨t, p, fun W H0 σ H Z δ F ad it s hm l => ?_⟩
  refine ev (W.gr S ad it) σ H Z _ _ s.st s.ok (hm ad) ⟨?_, ?_, ?_, ?_, xlink_gr s l.ex⟩
  · rintro σ' H' δ' r hs ⟨hp, hk⟩
    obtain ⟨s', ex⟩ := s.beside r hs hp
    exact l.nx _ _ _ _ _ s' ex hk
  · intro v H' d r hv hk
    have e := r.ex
    rw [gr_cut, gr_cut] at e
    rw [gr_cut] at hv
    exact l.rt v H' d ⟨(gr_of r.ok).1, s.ex0.trans (e.trans cutS_sub)⟩ ((hv.sm sm_gr).up cutS_sub) hk
  · rintro σ' H' δ' r hs ⟨z, _⟩
    cases z
  · rintro σ' H' δ' r hs ⟨z, _⟩
    cases z
theorem bo_nil : BXo X E S S Sb [] sNx := ⟨_, pss_nil, fun W H0 σ H Z δ F ad it s hm l => l.nx _ _ _ _ _ s (Ex.refl _) hm⟩
theorem bo_one (h : SXo X E S S' Sb st m) : BXo X E S S' Sb [st] m := let ⟨_, p, e⟩ := h; ⟨_, pss_one p, e⟩
theorem bo_cons (h : SXo X E S S2 Sb st ma) (k : BXo X E S2 S' Sb ss mb) : BXo X E S S' Sb (st :: ss) (sSeq ma mb) := by
  obtain ⟨t, p, e⟩ := h
  obtain ⟨u, q, f⟩ := k
  refine ⟨_, pss_cons p q, fun W H0 σ H Z δ F ad it s hm l => ?_⟩
  refine e W H0 σ H { Z with nx := u Z } δ { F with nx := fun δ' => mb δ' F } ad it s hm ⟨fun σ' H' δ' ad' it' s' x hk => ?_, l.rt, l.bk, l.ct, l.ex⟩
  exact f W H0 σ' H' Z δ' F ad' it' s' hk ⟨fun σ2 H2 δ2 ad2 it2 s2 x2 => l.nx σ2 H2 δ2 ad2 it2 s2 (x.trans x2), l.rt, fun σ2 H2 δ2 ad2 it2 s2 x2 => l.bk σ2 H2 δ2 ad2 it2 s2 (x.trans x2),
    fun σ2 H2 δ2 ad2 it2 s2 x2 => l.ct σ2 H2 δ2 ad2 it2 s2 (x.trans x2), l.ex⟩
theorem so_if (hc : TX X E c tc) (ha : BXo X E S S' Sb a ma) (hb : BXo X E S S' Sb b mb) : SXo X E S S' Sb (.If c a b pos) (sIf tc ma mb) := by
  obtain ⟨t, p, e⟩ := hc
  obtain ⟨u, q, f⟩ := ha
  obtain ⟨w, r, g⟩ := hb
  refine ⟨_, ps_if p q r, fun W H0 σ H Z δ F ad it s hm l => ?_⟩
  refine e W σ H _ δ _ F.ex s.thaw (gr_of s.ok).1 hm ?_ (l.ex.R s.R0)
  intro y H1 r1 hy
  obtain ⟨s1, x⟩ := s.stay r1
  have l1 : SLinkO W X.K E H0 S S' Sb H1 ad Z F := ⟨fun σ2 H2 δ2 ad2 it2 s2 x2 => l.nx σ2 H2 δ2 ad2 it2 s2 (x.trans x2), l.rt, fun σ2 H2 δ2 ad2 it2 s2 x2 => l.bk σ2 H2 δ2 ad2 it2 s2 (x.trans x2),
    fun σ2 H2 δ2 ad2 it2 s2 x2 => l.ct σ2 H2 δ2 ad2 it2 s2 (x.trans x2), l.ex⟩
  cases y with
  | true =>
    rw [if_pos rfl] at hy ⊢
    exact f W H0 σ H1 Z δ F ad it s1 hy l1
  | false =>
    rw [if_neg Bool.false_ne_true] at hy ⊢
    exact g W H0 σ H1 Z δ F ad it s1 hy l1
variable {e : Expr} {me : EM}
theorem so_ret (he : PX X E e me) : SXo X E S S' Sb (.Return (some e) pos) (sRet me) := by
  obtain ⟨t, p, ev⟩ := he
  refine ⟨_, ps_ret p, fun W H0 σ H Z δ F ad it s hm l => ?_⟩
  exact ev W σ H _ δ _ F.ex s.thaw (gr_of s.ok).1 hm (fun v H1 d r1 hv hp => l.rt v H1 d (s.R0.trans r1) hv hp) (l.ex.R s.R0)
theorem so_break : SXo X E S S S (.Break pos) sBk := ⟨_, ps_break, fun W H0 σ H Z δ F ad it s hm l => l.bk _ _ _ _ _ s (Ex.refl _) hm⟩
/-- name = e, e told of them, its value of no parts -/
def isFlatD : D → Bool
  | .non => true | .bl _ => true | .int _ => true | .str _ => true
  | _ => false
theorem flatDa {W W' : Wld} {K : PySem.W.Frag} {H H' : Hp} {v : V} {d : D} (f : isFlatD d = true) (h : Da W K H v d) : Da W' K H' v d := by
  cases h <;> first
    | (cases f; done)
    | constructor
def sSetF (i : Nat) (m : EM) : SM := fun δ F => m δ (fun d => isFlatD d = true ∧ F.nx (δ.set i (some d))) F.ex
theorem OwnSt.set {W : Wld} {K : PySem.W.Frag} {H0 H : Hp} {σ : L2.St} {δ : Env} {ad : Nat → Addr} {it : Nat → List V} {i : Nat} {v : V} {d : D} (s : OwnSt W K H0 S σ H δ ad it) (hi : i ∉ S) (hv : Da W K (cutS W S ad H) v d) :
    OwnSt W K H0 S (σ.set i (some v)) H (δ.set i (some d)) ad it := by
  have ne : ∀ {k : Nat}, k ∈ S → i ≠ k := fun {k} hk z => hi (by rw [z]; exact hk)
  refine ⟨s.nd, s.inj, s.out, s.ok, s.ex0, ⟨?_, s.st.tb, fun k x e => ?_⟩, fun k hk => ?_⟩
  · rw [List.length_set, s.st.len, pinS_len, pinS_len, List.length_set]
  · by_cases hk : k ∈ S
    · rw [List.getElem?_set_ne (ne hk)]
      rw [pinS_in hk (by rw [List.length_set]; exact s.lt hk)] at e
      cases e
      exact s.st.at_ k _ (pinS_in hk (s.lt hk))
    · rw [pinS_out hk] at e
      by_cases hik : i = k
      · subst hik
        have hl : i < δ.length := by
          have := (List.getElem?_eq_some_iff.mp e).1
          rwa [List.length_set] at this
        rw [List.getElem?_set_self hl] at e
        cases e
        refine ⟨v, ?_, ?_⟩
        · rw [List.getElem?_set_self (by rw [s.st.len, pinS_len]; exact hl)]
        · rw [gr_cut]
          exact hv.sm gr_sm
      · rw [List.getElem?_set_ne hik] at e ⊢
        exact s.st.at_ k x (by rw [pinS_out hk]; exact e)
  · obtain ⟨ds, e, hd⟩ := s.da k hk
    exact ⟨ds, by rw [List.getElem?_set_ne (ne hk)]; exact e, hd⟩
end
end Fw
/-! # FwOwn2: loops over it; lists made, grown, popped; the body as a whole -/
namespace Fw
open PySem PySem.Spec PyProof.Rows L2
open Evl (Ex)
variable [TabsOf]
section
variable {X : Cx} {E : XK} {S S' S2 Sb : List Nat} {st : Stmt} {ss a b : List Stmt} {m ma mb : SM} {c : Expr} {tc : TM} {pos : Pos}
theorem slo_ex {W : Wld} {K : PySem.W.Frag} {H0 H H1 : Hp} {ad ad1 : Nat → Addr} {Z : Ends} {F : SE} (x : Ex (cutS W S ad H) (cutS W S2 ad1 H1)) (l : SLinkO W K E H0 S S' Sb H ad Z F) : SLinkO W K E H0 S2 S' Sb H1 ad1 Z F :=
  ⟨fun σ2 H2 δ2 ad2 it2 s2 x2 => l.nx σ2 H2 δ2 ad2 it2 s2 (x.trans x2), l.rt, fun σ2 H2 δ2 ad2 it2 s2 x2 => l.bk σ2 H2 δ2 ad2 it2 s2 (x.trans x2), fun σ2 H2 δ2 ad2 it2 s2 x2 => l.ct σ2 H2 δ2 ad2 it2 s2 (x.trans x2), l.ex⟩
theorem so_setF {e : Expr} {me : EM} {x : Str} {pos' : Pos} (i : Nat) (hN : X.N.Nodup) (he : PX X E e me) (hi : X.N[i]? = some x := by rfl) (hx : Loc X.env.scope x := by first | exact Or.inl rfl | exact Or.inr rfl)
    (hs : swapsWith e (some (.Name x pos')) pos.line X.env = pure false := by rfl) (hf : X.fn x = true ∨ X.env.scope.names.lookup x = some .local := by first | exact .inl rfl | exact .inr rfl | assumption)
    (hS : i ∉ S := by decide) : SXo X E S S Sb (.Assign [.Name x pos'] e pos) (sSetF i me) := by
  obtain ⟨t, p, ev⟩ := he
  refine ⟨_, ps_set hN hi hx p hs hf, fun W H0 σ H Z δ F ad it s hm l => ?_⟩
  refine ev W σ H _ δ _ F.ex s.thaw (gr_of s.ok).1 hm ?_ (l.ex.R s.R0)
  rintro v H1 d r1 hv ⟨fl, hk⟩
  obtain ⟨s1, x⟩ := s.stay r1
  exact l.nx _ _ _ _ _ (s1.set hS (flatDa fl hv)) x hk
/-! ## loops -/
theorem so_for {tg it : Expr} {im : IM} {g : GM} (hp : PassesOwn (model X.prog X.w) X.A X.env X.xe) (hc : X.calm = true) (hi : IX X E tg it im) (hg : GX X tg g) (hb : BXo X E S S S a ma)
    (hs : ∀ x, foldedSetIterable it X.env x = pure x := by intro _; rfl) : SXo X E S S Sb (.For tg it a [] pos) (sFor (iPin S im) (gPin S g) ma) := by
  obtain ⟨t, p, e⟩ := hi
  obtain ⟨u, q, f⟩ := hg
  obtain ⟨w, r, b⟩ := hb
  refine ⟨_, ps_for hp hc p q r hs, fun W H0 σ H Z δ F ad it s hm l => ?_⟩
  refine e (W.gr S ad it) σ H _ _ _ F.ex s.st s.ok (hm ad) ?_ (xlink_gr s l.ex)
  intro J H1 ds r1 src hgo
  have x1 : Ex (cutS W S ad H) (cutS W S ad H1) := by
    have := r1.ex
    rwa [gr_cut, gr_cut] at this
  have s1 : OwnSt W X.K H0 S σ H1 δ ad it := ⟨s.nd, s.inj, s.out, r1.ok, s.ex0.trans x1, s.st.R r1, fun i hi => let ⟨ds, e, hd⟩ := s.da i hi; ⟨ds, e, hd.up x1⟩⟩
  refine ⟨fun i n σ' H' => n = ds.length - i ∧ i ≤ ds.length ∧ ∃ δ' ad' it', OwnSt W X.K H0 S σ' H' δ' ad' it' ∧ Ex (cutS W S ad H1) (cutS W S ad' H') ∧ forGo (gPin S g) ma F (ds.drop i) δ',
    ⟨ds.length, by simp, Nat.zero_le _, δ, ad, it, s1, Ex.refl _, hgo⟩, ?_⟩
  rintro i n σ' H' ⟨rfl, hle, δ', ad', it', s', x', hgo'⟩
  have sr := src (W.gr S ad' it') H' ⟨rfl, rfl, rfl⟩ s'.ok (by rw [gr_cut, gr_cut]; exact x')
  by_cases hlt : i < ds.length
  · right
    obtain ⟨d, hd⟩ : ∃ d, ds[i]? = some d := ⟨_, List.getElem?_eq_getElem hlt⟩
    obtain ⟨go, yl⟩ := sr.1 i d hd
    refine ⟨go, fun σ2 H2 => ∃ δ2 ad2 it2, OwnSt W X.K H0 S σ2 H2 δ2 ad2 it2 ∧ Ex (cutS W S ad H1) (cutS W S ad2 H2) ∧ forGo (gPin S g) ma F (ds.drop (i + 1)) δ2, fun σ2 H2 h => ⟨ds.length - (i + 1), by omega, rfl, by omega, h⟩, fun x H2 hy => ?_⟩
    obtain ⟨r2, hda⟩ := yl x H2 hy
    have ed : ds.drop i = d :: ds.drop (i + 1) := by
      rw [List.getElem?_eq_getElem hlt] at hd
      cases hd
      exact List.drop_eq_getElem_cons hlt
    rw [ed] at hgo'
    have x2 : Ex (cutS W S ad' H') (cutS W S ad' H2) := by
      have := r2.ex
      rwa [gr_cut, gr_cut] at this
    have s2 : OwnSt W X.K H0 S σ' H2 δ' ad' it' := ⟨s'.nd, s'.inj, s'.out, r2.ok, s'.ex0.trans x2, s'.st.R r2, fun i hi => let ⟨ds, e, hd⟩ := s'.da i hi; ⟨ds, e, hd.up x2⟩⟩
    refine f (W.gr S ad' it') x d σ' H2 _ _ _ s2.st s2.ok hda (hgo' ad') fun σ3 δ3 hs3 ⟨pins, hk⟩ => ?_
    obtain ⟨s3, x3⟩ := s2.beside (Wld.R.refl s2.ok) hs3 pins
    have x123 := (x'.trans x2).trans x3
    refine b W H0 σ3 H2 _ _ _ ad' it' s3 hk ⟨fun σ4 H4 δ4 ad4 it4 s4 x4 hk4 => ⟨δ4, ad4, it4, s4, x123.trans x4, hk4⟩, l.rt, fun σ4 H4 δ4 ad4 it4 s4 x4 hk4 => l.nx σ4 H4 δ4 ad4 it4 s4 (x1.trans (x123.trans x4)) hk4,
      fun σ4 H4 δ4 ad4 it4 s4 x4 hk4 => ⟨δ4, ad4, it4, s4, x123.trans x4, hk4⟩, l.ex⟩
  · left
    refine ⟨sr.2 i (by omega), ?_⟩
    rw [List.drop_eq_nil_of_le (by omega)] at hgo'
    exact l.nx σ' H' δ' ad' it' s' (x1.trans x') hgo'
theorem so_while (hp : PassesOwn (model X.prog X.w) X.A X.env X.xe) (hc : TX X E c tc) (hb : BXo X E S S S a ma) : SXo X E S S Sb (.While c a [] pos) (sWhile tc ma) := by
  obtain ⟨t, p, e⟩ := hc
  obtain ⟨w, r, b⟩ := hb
  refine ⟨_, ps_while hp p r, fun W H0 σ H Z δ F ad it s hm l => ?_⟩
  obtain ⟨n, hn⟩ := hm
  refine ⟨fun n σ' H' => ∃ δ' ad' it', OwnSt W X.K H0 S σ' H' δ' ad' it' ∧ Ex (cutS W S ad H) (cutS W S ad' H') ∧ whGo tc ma F n δ', ⟨n, δ, ad, it, s, Ex.refl _, hn⟩, ?_⟩
  rintro n σ' H' ⟨δ', ad', it', s', x', hgo⟩
  cases n with
  | zero => exact hgo.elim
  | succ n =>
    refine e W σ' H' _ δ' _ F.ex s'.thaw (gr_of s'.ok).1 hgo ?_ (l.ex.R s'.R0)
    intro y H1 r1 hy
    obtain ⟨s1, x1⟩ := s'.stay r1
    cases y with
    | true =>
      rw [if_pos rfl] at hy ⊢
      refine ⟨fun σ3 H3 => ∃ δ3 ad3 it3, OwnSt W X.K H0 S σ3 H3 δ3 ad3 it3 ∧ Ex (cutS W S ad H) (cutS W S ad3 H3) ∧ whGo tc ma F n δ3, fun σ3 H3 h => ⟨n, Nat.lt_succ_self n, h⟩, ?_⟩
      refine b W H0 σ' H1 _ δ' _ ad' it' s1 hy ⟨fun σ4 H4 δ4 ad4 it4 s4 x4 hk4 => ⟨δ4, ad4, it4, s4, (x'.trans x1).trans x4, hk4⟩, l.rt, fun σ4 H4 δ4 ad4 it4 s4 x4 hk4 => l.nx σ4 H4 δ4 ad4 it4 s4 ((x'.trans x1).trans x4) hk4,
        fun σ4 H4 δ4 ad4 it4 s4 x4 hk4 => ⟨δ4, ad4, it4, s4, (x'.trans x1).trans x4, hk4⟩, l.ex⟩
    | false =>
      rw [if_neg Bool.false_ne_true] at hy ⊢
      exact l.nx σ' H1 δ' ad' it' s1 (x'.trans x1) hy
/-! ## a new list -/
/-- an expression that gives a new list -/
def NW (X : Cx) (E : XK) (e : Expr) (m : EM) : Prop := ∃ t, PE X e t ∧ ∀ W (σ : L2.St) H (Q : VK) δ (post : D → Prop) ex, SL W X.K σ H δ → W.ok H → m δ post ex →
  (∀ p H1 xs ds, W.R H H1 → H1 p = none → Das W X.K (W.cut H1) xs ds → post (.lst ds) → Q (.ref p) (upd H1 p (.lst xs))) → XLink W X.K H E ex → t σ H Q
theorem nw_lst {es : List Expr} {am : AM} (h : AX X E es am) : NW X E (.List es pos) (mLst am) := by
  obtain ⟨u, q, f⟩ := h
  refine ⟨_, pe_lst q, fun W σ H Q δ post ex hs ok hm hq lx => ?_⟩
  refine f W σ H _ δ _ ex hs ok hm ?_ lx
  rintro vs H1 ds r1 hv ⟨hl, hp⟩
  exact ⟨sizeLe (by rw [hv.length]; exact hl), fun p hpn => hq p H1 vs ds r1 hpn hv hp⟩
theorem nw_list {e : Expr} {am : AM} {p : Pos} (hg : Gl X "list") (hm : X.mg "list" = none) (ha : AX X E [e] am) (he : starEach [e] X.env = (false, eval e X.env) :: starEach [] X.env := by rfl) (hpl : (backTo pos (starEach [] X.env)).any (·.1) = false := by rfl) :
    NW X E (.Call (.Name "list" p) [e] [] pos) (mCB fList am) := by
  obtain ⟨t, q, ev⟩ := ha
  refine ⟨_, pe_callTy call_list_of hg hm (by decide +kernel) q (by decide) (by decide) he hpl, fun W σ H Q δ post ex hs ok hm hq lx => ?_⟩
  refine ev W σ H _ δ _ ex hs ok hm ?_ lx
  rintro vs H1 ds r1 hv ⟨z, ⟨x, ys, rfl, hi, rfl⟩, hp⟩
  cases hv with
  | cons h r =>
  cases r
  cases h <;> first
    | (cases hi; done)
    | skip
  case lst h r =>
    cases hi
    exact ⟨_, _, rfl, .inl (Evl.sq_of (cut_sub _ _ h)), fun l hl => hq l H1 _ _ r1 hl r hp⟩
  case tup h r =>
    cases hi
    exact ⟨_, _, rfl, .inr (Evl.ex_t cut_sub h), fun l hl => hq l H1 _ _ r1 hl r hp⟩
variable {W : Wld} {K : PySem.W.Frag} {H H' H0 : Hp} {σ : L2.St} {δ : Env} {ad : Nat → Addr} {it : Nat → List V} {i : Nat}
def updF {α : Type} (f : Nat → α) (i : Nat) (x : α) : Nat → α := fun j => if j = i then x else f j
theorem updF_same {α : Type} {f : Nat → α} {x : α} : updF f i x i = x := if_pos rfl
theorem updF_ne {α : Type} {f : Nat → α} {x : α} {j : Nat} (h : j ≠ i) : updF f i x j = f j := if_neg h
theorem map_updF {p : Addr} (hi : i ∉ S) : S.map (updF ad i p) = S.map ad := List.map_congr_left fun j hj => updF_ne fun z => hi (by rw [← z]; exact hj)
/-- the name holds it alone -/
theorem OwnSt.take {p : Addr} {xs : List V} {ds : List D} (s : OwnSt W K H0 S σ H δ ad it) (hi : i ∉ S) (hp : H p = none) (hl : i < δ.length) (hd : Das W K (cutS W S ad H) xs ds) :
    OwnSt W K H0 (i :: S) (σ.set i (some (.ref p))) (upd H p (.lst xs)) (δ.set i (some (.lst ds))) (updF ad i p) (updF it i xs) ∧ Ex (cutS W S ad H) (cutS W (i :: S) (updF ad i p) (upd H p (.lst xs))) := by
  have wok := (gr_of s.ok).1
  have pM : p ∉ W.M := fun z => by
    obtain ⟨o, ho⟩ := mem_there wok z
    rw [hp] at ho
    cases ho
  have pS : p ∉ S.map ad := fun z => by
    obtain ⟨j, hj, e⟩ := List.mem_map.mp z
    have := (gr_of s.ok).2 j hj
    rw [e, hp] at this
    cases this
  have r : W.R H (upd H p (.lst xs)) := R_new wok hp
  have ex : Ex (cutS W S ad H) (cutS W (i :: S) (updF ad i p) (upd H p (.lst xs))) := by
    intro a o h
    unfold cutS at h ⊢
    split at h
    · cases h
    · rename_i n
      have ne : a ≠ p := fun z => by
        have := cut_sub _ _ h
        rw [z, hp] at this
        cases this
      rw [List.map_cons, updF_same, map_updF hi, if_neg fun z => (List.mem_cons.mp z).elim ne n]
      exact r.ex _ _ h
  have ne : ∀ {k : Nat}, k ∈ S → k ≠ i := fun {k} hk z => hi (by rw [← z]; exact hk)
  refine ⟨⟨List.nodup_cons.mpr ⟨hi, s.nd⟩, ?_, ?_, ok_gr r.ok ?_ ?_, s.ex0.trans ex, ⟨?_, s.st.tb, ?_⟩, ?_⟩, ex⟩
  · intro j hj k hk e
    rcases List.mem_cons.mp hj with e1 | hj <;> rcases List.mem_cons.mp hk with e2 | hk
    · rw [e1, e2]
    · rw [e1, updF_same, updF_ne (ne hk)] at e
      exact absurd (List.mem_map.mpr ⟨k, hk, e.symm⟩) pS
    · rw [e2, updF_same, updF_ne (ne hj)] at e
      exact absurd (List.mem_map.mpr ⟨j, hj, e⟩) pS
    · rw [updF_ne (ne hj), updF_ne (ne hk)] at e
      exact s.inj j hj k hk e
  · intro j hj
    rcases List.mem_cons.mp hj with e1 | hj
    · rw [e1, updF_same]
      exact pM
    · rw [updF_ne (ne hj)]
      exact s.out j hj
  · intro j hj
    rcases List.mem_cons.mp hj with e1 | hj
    · rw [e1, updF_same]
      exact pM
    · rw [updF_ne (ne hj)]
      exact s.out j hj
  · intro j hj
    rcases List.mem_cons.mp hj with e1 | hj
    · rw [e1, updF_same, updF_same, upd_same]
    · rw [updF_ne (ne hj), updF_ne (ne hj), upd_ne fun z => pS (List.mem_map.mpr ⟨j, hj, z⟩)]
      exact (gr_of s.ok).2 j hj
  · rw [List.length_set, s.st.len, pinS_len, pinS_len, List.length_set]
  · intro k x e
    by_cases hk : k ∈ i :: S
    · have hkl : k < δ.length := by
        rcases List.mem_cons.mp hk with e1 | hk
        · rw [e1]
          exact hl
        · exact s.lt hk
      rw [pinS_in hk (by rw [List.length_set]; exact hkl)] at e
      cases e
      rcases List.mem_cons.mp hk with e1 | hk
      · refine ⟨.ref p, ?_, ?_⟩
        · rw [e1, List.getElem?_set_self (by rw [s.st.len, pinS_len]; exact hl)]
        · rw [e1, updF_same]
          exact .pin
      · refine ⟨.ref (ad k), ?_, ?_⟩
        · rw [List.getElem?_set_ne (Ne.symm (ne hk))]
          exact s.at_ hk
        · rw [updF_ne (ne hk)]
          exact .pin
    · have hk1 : k ≠ i := fun z => hk (by rw [z]; exact List.mem_cons_self)
      have hk2 : k ∉ S := fun z => hk (List.mem_cons_of_mem _ z)
      rw [pinS_out hk, List.getElem?_set_ne (Ne.symm hk1)] at e
      obtain ⟨v, h1, h2⟩ := s.st.at_ k x (by rw [pinS_out hk2]; exact e)
      refine ⟨v, by rw [List.getElem?_set_ne (Ne.symm hk1)]; exact h1, ?_⟩
      rw [gr_cut] at h2 ⊢
      have h3 : Da W K (cutS W S ad H) v x := Da.sm sm_gr h2
      exact (Da.sm gr_sm h3).up ex
  · intro j hj
    rcases List.mem_cons.mp hj with e1 | hj
    · exact ⟨ds, by rw [e1, List.getElem?_set_self hl], by rw [e1, updF_same]; exact hd.up ex⟩
    · obtain ⟨es, e, h⟩ := s.da j hj
      exact ⟨es, by rw [List.getElem?_set_ne (Ne.symm (ne hj))]; exact e, by rw [updF_ne (ne hj)]; exact h.up ex⟩
theorem OwnSt.pinned (s : OwnSt W K H0 S σ H δ ad it) (r : (W.gr S ad it).R H H') : OwnSt W K H0 S σ H' δ ad it ∧ Ex (cutS W S ad H) (cutS W S ad H') := by
  have x : Ex (cutS W S ad H) (cutS W S ad H') := by
    have := r.ex
    rwa [gr_cut, gr_cut] at this
  exact ⟨⟨s.nd, s.inj, s.out, r.ok, s.ex0.trans x, s.st.R r, fun i hi => let ⟨ds, e, hd⟩ := s.da i hi; ⟨ds, e, hd.up x⟩⟩, x⟩
/-- name = a new list -/
def sNewO (S : List Nat) (i : Nat) (m : EM) : SM := fun δ F => i < δ.length ∧ ∀ p : Nat → Addr, m (pinS S p δ) (fun d => F.nx (δ.set i (some d))) F.ex
theorem so_new {e : Expr} {me : EM} {x : Str} {pos' : Pos} (i : Nat) (hN : X.N.Nodup) (he : NW X E e me) (hi : X.N[i]? = some x := by rfl) (hx : Loc X.env.scope x := by first | exact Or.inl rfl | exact Or.inr rfl)
    (hs : swapsWith e (some (.Name x pos')) pos.line X.env = pure false := by rfl) (hf : X.fn x = true ∨ X.env.scope.names.lookup x = some .local := by first | exact .inl rfl | exact .inr rfl | assumption)
    (hS : i ∉ S := by decide) : SXo X E S (i :: S) Sb (.Assign [.Name x pos'] e pos) (sNewO S i me) := by
  obtain ⟨t, p, ev⟩ := he
  refine ⟨_, ps_set hN hi hx p hs hf, fun W H0 σ H Z δ F ad it s hm l => ?_⟩
  obtain ⟨hl, hm⟩ := hm
  refine ev (W.gr S ad it) σ H _ _ _ F.ex s.st s.ok (hm ad) ?_ (xlink_gr s l.ex)
  intro p H1 xs ds r1 hp hd hk
  obtain ⟨s1, x1⟩ := s.pinned r1
  rw [gr_cut] at hd
  obtain ⟨s2, x2⟩ := s1.take hS hp hl (hd.sm sm_gr)
  exact l.nx _ _ _ _ _ s2 (x1.trans x2) hk
/-! ## two names at once -/
def sParN1 (S : List Nat) (i j : Nat) (a b : EM) : SM := fun δ F => i < δ.length ∧ ∀ p : Nat → Addr, a (pinS S p δ) (fun d => b (pinS S p δ) (fun e => F.nx ((δ.set i (some d)).set j (some e))) F.ex) F.ex
theorem so_parN1 (i j : Nat) {e1 e2 : Expr} {m1 m2 : EM} {x y : Str} {px py pt pt2 : Pos} {kt k2} (hN : X.N.Nodup) (h1 : NW X E e1 m1) (h2 : PX X E e2 m2) (hc : X.calm = true := by rfl) (hi : X.N[i]? = some x := by rfl) (hj : X.N[j]? = some y := by rfl) (hij : i ≠ j := by decide)
    (hx : X.env.scope.names.lookup x = some .local := by kernel_rfl) (hy : X.env.scope.names.lookup y = some .local := by kernel_rfl)
    (hw : swappedStores [.Tuple [.Name x px, .Name y py] kt pt] (.Tuple [e1, e2] k2 pt2) X.env = pure (some [x, y]) := by rfl)
    (hs : swapsWithSole [.Tuple [.Name x px, .Name y py] kt pt] (.Tuple [e1, e2] k2 pt2) pos.line X.env = pure false := by rfl)
    (st1 : starEach [e1, e2] X.env = (false, eval e1 X.env) :: starEach [e2] X.env := by rfl) (st2 : starEach [e2] X.env = (false, eval e2 X.env) :: starEach [] X.env := by rfl)
    (hS : i ∉ S := by decide) (hS2 : j ∉ i :: S := by decide) : SXo X E S (i :: S) Sb (.Assign [.Tuple [.Name x px, .Name y py] kt pt] (.Tuple [e1, e2] k2 pt2) pos) (sParN1 S i j m1 m2) := by
  obtain ⟨t1, p1, ev1⟩ := h1
  obtain ⟨t2, p2, ev2⟩ := h2
  refine ⟨_, ps_par hc hN hi hj hij hx hy (pa_cons p1 (pa_cons p2 pa_nil st2) st1) hw hs, fun W H0 σ H Z δ F ad it s hm l => ?_⟩
  obtain ⟨hl, hm⟩ := hm
  refine ev1 (W.gr S ad it) σ H _ _ _ F.ex s.st s.ok (hm ad) ?_ (xlink_gr s l.ex)
  intro p H1 xs ds r1 hp hd hk
  obtain ⟨s1, x1⟩ := s.pinned r1
  rw [gr_cut] at hd
  obtain ⟨s2, x2⟩ := s1.take hS hp hl (hd.sm sm_gr)
  have sl : SL (W.gr (i :: S) (updF ad i p) (updF it i xs)) X.K σ (upd H1 p (.lst xs)) (pinS S ad δ) := SL.sm (W := W.gr S ad it) (W' := W.gr (i :: S) (updF ad i p) (updF it i xs)) ⟨rfl, rfl, rfl⟩ (by rw [gr_cut, gr_cut]; exact x2) s1.st
  refine ev2 _ σ _ _ _ _ F.ex sl s2.ok hk ?_ (xlink_gr s2 l.ex)
  intro v H2 d r2 hv hk2
  obtain ⟨s3, x3⟩ := s2.pinned r2
  rw [gr_cut] at hv
  exact ⟨_, _, rfl, l.nx _ _ _ _ _ (s3.set hS2 (hv.sm sm_gr)) ((x1.trans x2).trans x3) hk2⟩
def sPar1N (S : List Nat) (i j : Nat) (a b : EM) : SM := fun δ F => j < δ.length ∧ ∀ p : Nat → Addr, a (pinS S p δ) (fun d => b (pinS S p δ) (fun e => F.nx ((δ.set i (some d)).set j (some e))) F.ex) F.ex
theorem so_par1N (i j : Nat) {e1 e2 : Expr} {m1 m2 : EM} {x y : Str} {px py pt pt2 : Pos} {kt k2} (hN : X.N.Nodup) (h1 : PX X E e1 m1) (h2 : NW X E e2 m2) (hc : X.calm = true := by rfl) (hi : X.N[i]? = some x := by rfl) (hj : X.N[j]? = some y := by rfl) (hij : i ≠ j := by decide)
    (hx : X.env.scope.names.lookup x = some .local := by kernel_rfl) (hy : X.env.scope.names.lookup y = some .local := by kernel_rfl)
    (hw : swappedStores [.Tuple [.Name x px, .Name y py] kt pt] (.Tuple [e1, e2] k2 pt2) X.env = pure (some [x, y]) := by rfl)
    (hs : swapsWithSole [.Tuple [.Name x px, .Name y py] kt pt] (.Tuple [e1, e2] k2 pt2) pos.line X.env = pure false := by rfl)
    (st1 : starEach [e1, e2] X.env = (false, eval e1 X.env) :: starEach [e2] X.env := by rfl) (st2 : starEach [e2] X.env = (false, eval e2 X.env) :: starEach [] X.env := by rfl)
    (hS : j ∉ S := by decide) (hS2 : i ∉ S := by decide) : SXo X E S (j :: S) Sb (.Assign [.Tuple [.Name x px, .Name y py] kt pt] (.Tuple [e1, e2] k2 pt2) pos) (sPar1N S i j m1 m2) := by
  obtain ⟨t1, p1, ev1⟩ := h1
  obtain ⟨t2, p2, ev2⟩ := h2
  refine ⟨_, ps_par hc hN hi hj hij hx hy (pa_cons p1 (pa_cons p2 pa_nil st2) st1) hw hs, fun W H0 σ H Z δ F ad it s hm l => ?_⟩
  obtain ⟨hl, hm⟩ := hm
  refine ev1 (W.gr S ad it) σ H _ _ _ F.ex s.st s.ok (hm ad) ?_ (xlink_gr s l.ex)
  intro v H1 d r1 hv hk
  obtain ⟨s1, x1⟩ := s.pinned r1
  rw [gr_cut] at hv
  refine ev2 (W.gr S ad it) σ H1 _ _ _ F.ex s1.st s1.ok hk ?_ (xlink_gr s1 l.ex)
  intro p H2 xs ds r2 hp hd hk2
  obtain ⟨s2, x2⟩ := s1.pinned r2
  rw [gr_cut] at hd
  have s3 := s2.set (v := v) (d := d) hS2 ((hv.sm sm_gr).up x2)
  obtain ⟨s4, x4⟩ := s3.take hS hp (by rw [List.length_set]; exact hl) (hd.sm sm_gr)
  exact ⟨_, _, rfl, l.nx _ _ _ _ _ s4 ((x1.trans x2).trans x4) hk2⟩
def sParNN (S : List Nat) (i j : Nat) (a b : EM) : SM := fun δ F => i < δ.length ∧ j < δ.length ∧ ∀ p : Nat → Addr, a (pinS S p δ) (fun d => b (pinS S p δ) (fun e => F.nx ((δ.set i (some d)).set j (some e))) F.ex) F.ex
theorem so_parNN (i j : Nat) {e1 e2 : Expr} {m1 m2 : EM} {x y : Str} {px py pt pt2 : Pos} {kt k2} (hN : X.N.Nodup) (h1 : NW X E e1 m1) (h2 : NW X E e2 m2) (hc : X.calm = true := by rfl) (hi : X.N[i]? = some x := by rfl) (hj : X.N[j]? = some y := by rfl) (hij : i ≠ j := by decide)
    (hx : X.env.scope.names.lookup x = some .local := by kernel_rfl) (hy : X.env.scope.names.lookup y = some .local := by kernel_rfl)
    (hw : swappedStores [.Tuple [.Name x px, .Name y py] kt pt] (.Tuple [e1, e2] k2 pt2) X.env = pure (some [x, y]) := by rfl)
    (hs : swapsWithSole [.Tuple [.Name x px, .Name y py] kt pt] (.Tuple [e1, e2] k2 pt2) pos.line X.env = pure false := by rfl)
    (st1 : starEach [e1, e2] X.env = (false, eval e1 X.env) :: starEach [e2] X.env := by rfl) (st2 : starEach [e2] X.env = (false, eval e2 X.env) :: starEach [] X.env := by rfl)
    (hS : i ∉ S := by decide) (hS2 : j ∉ i :: S := by decide) : SXo X E S (j :: i :: S) Sb (.Assign [.Tuple [.Name x px, .Name y py] kt pt] (.Tuple [e1, e2] k2 pt2) pos) (sParNN S i j m1 m2) := by
  obtain ⟨t1, p1, ev1⟩ := h1
  obtain ⟨t2, p2, ev2⟩ := h2
  refine ⟨_, ps_par hc hN hi hj hij hx hy (pa_cons p1 (pa_cons p2 pa_nil st2) st1) hw hs, fun W H0 σ H Z δ F ad it s hm l => ?_⟩
  obtain ⟨hl, hl2, hm⟩ := hm
  refine ev1 (W.gr S ad it) σ H _ _ _ F.ex s.st s.ok (hm ad) ?_ (xlink_gr s l.ex)
  intro p H1 xs ds r1 hp hd hk
  obtain ⟨s1, x1⟩ := s.pinned r1
  rw [gr_cut] at hd
  obtain ⟨s2, x2⟩ := s1.take hS hp hl (hd.sm sm_gr)
  have sl : SL (W.gr (i :: S) (updF ad i p) (updF it i xs)) X.K σ (upd H1 p (.lst xs)) (pinS S ad δ) := SL.sm (W := W.gr S ad it) (W' := W.gr (i :: S) (updF ad i p) (updF it i xs)) ⟨rfl, rfl, rfl⟩ (by rw [gr_cut, gr_cut]; exact x2) s1.st
  refine ev2 _ σ _ _ _ _ F.ex sl s2.ok hk ?_ (xlink_gr s2 l.ex)
  intro p2 H2 xs2 ds2 r2 hp2 hd2 hk2
  obtain ⟨s3, x3⟩ := s2.pinned r2
  rw [gr_cut] at hd2
  obtain ⟨s4, x4⟩ := s3.take hS2 hp2 (by rw [List.length_set]; exact hl2) (hd2.sm sm_gr)
  exact ⟨_, _, rfl, l.nx _ _ _ _ _ s4 (((x1.trans x2).trans x3).trans x4) hk2⟩
/-! ## they grow, they shrink -/
theorem OwnSt.grow {xs : List V} {ds : List D} (s : OwnSt W K H0 S σ H δ ad it) (hi : i ∈ S) (hd : Das W K (cutS W S ad H) xs ds) :
    OwnSt W K H0 S σ (upd H (ad i) (.lst xs)) (δ.set i (some (.lst ds))) ad (updF it i xs) ∧ Ex (cutS W S ad H) (cutS W S ad (upd H (ad i) (.lst xs))) := by
  have same : cutS W S ad (upd H (ad i) (.lst xs)) = cutS W S ad H := by
    funext b
    unfold cutS
    by_cases hb : b ∈ S.map ad
    · rw [if_pos hb, if_pos hb]
    · rw [if_neg hb, if_neg hb]
      have ne : b ≠ ad i := fun z => hb (by rw [z]; exact List.mem_map_of_mem hi)
      unfold Wld.cut
      rw [upd_ne ne]
  have old : H (ad i) = some (.lst (it i)) := (gr_of s.ok).2 i hi
  have wok : W.ok (upd H (ad i) (.lst xs)) := by
    have h1 : (W.grow (ad i) (.lst (it i))).ok H := grow_ok (gr_of s.ok).1 (s.out i hi) own_lst old
    exact (grow_of (grow_put (acc' := .lst xs) (s.out i hi) own_lst h1)).1
  refine ⟨⟨s.nd, s.inj, s.out, ok_gr wok s.out fun j hj => ?_, by rw [same]; exact s.ex0, ⟨?_, s.st.tb, fun k x e => ?_⟩, fun j hj => ?_⟩, by rw [same]; exact Ex.refl _⟩
  · by_cases hji : j = i
    · rw [hji, updF_same, upd_same]
    · rw [updF_ne hji, upd_ne fun z => hji (s.inj j hj i hi z)]
      exact (gr_of s.ok).2 j hj
  · rw [s.st.len, pinS_len, pinS_len, List.length_set]
  · have e' : (pinS S ad δ)[k]? = some (some x) := by
      by_cases hk : k ∈ S
      · rw [pinS_in hk (by rw [List.length_set]; exact s.lt hk)] at e
        rw [pinS_in hk (s.lt hk)]
        exact e
      · rw [pinS_out hk, List.getElem?_set_ne fun z => hk (by rw [← z]; exact hi)] at e
        rw [pinS_out hk]
        exact e
    obtain ⟨v, h1, h2⟩ := s.st.at_ k x e'
    refine ⟨v, h1, ?_⟩
    rw [gr_cut] at h2 ⊢
    rw [same]
    have h3 : Da W K (cutS W S ad H) v x := Da.sm sm_gr h2
    exact Da.sm gr_sm h3
  · by_cases hji : j = i
    · rw [hji, updF_same]
      exact ⟨ds, by rw [List.getElem?_set_self (s.lt hi)], by rw [same]; exact hd⟩
    · obtain ⟨es, e, h⟩ := s.da j hj
      rw [updF_ne hji]
      exact ⟨es, by rw [List.getElem?_set_ne (Ne.symm hji)]; exact e, by rw [same]; exact h⟩
/-- name.append(e), e beside them -/
def sAppO (S : List Nat) (i : Nat) (m : EM) : SM := fun δ F => ∀ p : Nat → Addr, m (pinS S p δ) (fun d => ∃ ds, δ[i]? = some (some (.lst ds)) ∧ ds.length < 16777216 ∧ F.nx (δ.set i (some (.lst (ds ++ [d]))))) F.ex
theorem tyv_lst {K : PySem.W.Frag} {H : Hp} {a : Addr} {xs : List V} (h : H a = some (.lst xs)) : tyV K "list" (.ref a) H := .inl ⟨rfl, _, Evl.sq_of h⟩
theorem das_snoc {W : Wld} {K : PySem.W.Frag} {H : Hp} {xs : List V} {ds : List D} {v : V} {d : D} (h : Das W K H xs ds) (k : Da W K H v d) : Das W K H (xs ++ [v]) (ds ++ [d]) := h.app (.cons k .nil)
theorem so_app {e : Expr} {me : EM} {x : Str} {pn apos cpos : Pos} (i : Nat) (he : PX X E e me) (hi : i ∈ S := by decide) (hN : X.N[i]? = some x := by rfl)
    (hv : Vis X.env.scope x := by first | exact Or.inl rfl | exact Or.inr (Or.inl rfl) | exact Or.inr (Or.inr rfl))
    (hd : (x == ("__debug__" : Str)) = false := by decide) (hcd : (x == ("__classdict__" : Str)) = false := by decide)
    (hbase : attributeBase (.Name x pn) "append" X.env (eval (.Name x pn) X.env) = eval (.Name x pn) X.env := by rfl)
    (hfew : ((backTo cpos (starEach [e] X.env)).all (fun x => !x.1) && (backToKw cpos (keywordEach [] X.env)).all (fun x => x.1.isSome)
      && decide (([e] : List Expr).length + ([] : List Keyword).length + (if ([] : List Keyword).isEmpty then 0 else 1) < 30)) = true := by rfl)
    (hline : (apos.endLine == cpos.line) = true := by rfl) (st1 : starEach [e] X.env = (false, eval e X.env) :: starEach [] X.env := by rfl) (hpl : (backTo cpos (starEach [] X.env)).any (·.1) = false := by rfl)
    (hs : swapsWith (.Call (.Attribute (.Name x pn) "append" apos) [e] [] cpos) none pos.line X.env = pure false := by rfl) :
    SXo X E S S Sb (.Expr (.Call (.Attribute (.Name x pn) "append" apos) [e] [] cpos) pos) (sAppO S i me) := by
  obtain ⟨t, q, ev⟩ := he
  refine ⟨_, ps_expr (pe_bm PySem.F.plainAttrs_list PySem.F.slot_list_append PySem.F.type_list_append mt_append (pe_var hN hv hd hcd) (pa_cons q pa_nil st1) hbase hfew hline st1 hpl) hs, fun W H0 σ H Z δ F ad it s hm l => ?_⟩
  refine ⟨.ref (ad i), s.at_ hi, tyv_lst ((gr_of s.ok).2 i hi), ?_⟩
  refine ev (W.gr S ad it) σ H _ _ _ F.ex s.st s.ok (hm ad) ?_ (xlink_gr s l.ex)
  rintro v H1 d r1 hv ⟨ds, e1, hlen, hk⟩
  obtain ⟨s1, x1⟩ := s.pinned r1
  rw [gr_cut] at hv
  obtain ⟨es, e2, hd⟩ := s1.da i hi
  rw [e1] at e2
  cases e2
  obtain ⟨s2, x2⟩ := s1.grow (xs := it i ++ [v]) (ds := ds ++ [d]) hi (das_snoc hd (hv.sm sm_gr))
  refine ⟨ad i, it i, v, rfl, rfl, (gr_of s1.ok).2 i hi, by rw [hd.length, sizeLine_eq]; exact hlen, ?_⟩
  exact l.nx _ _ _ _ _ s2 (x1.trans x2) hk
/-! ## the whole body -/
theorem bx_own (h : BXo X E [] S' Sb ss m) : BX X E ss m := by
  obtain ⟨t, p, ev⟩ := h
  refine ⟨t, p, fun W σ H Z δ F hsl ok hm l => ?_⟩
  have c0 : cutS W [] (fun _ => 0) H = W.cut H := by
    funext b
    unfold cutS
    rw [List.map_nil, if_neg fun z => nomatch z]
  refine ev W H σ H Z δ F (fun _ => 0) (fun _ => []) ⟨List.nodup_nil, (fun _ z => nomatch z), (fun _ z => nomatch z), ok, by rw [c0]; exact Ex.refl _, hsl, (fun _ z => nomatch z)⟩ hm
    ⟨fun σ' H' δ' ad' it' s x hk => l.nx _ _ _ s.R0 s.thaw hk, l.rt, fun σ' H' δ' ad' it' s x hk => l.bk _ _ _ s.R0 s.thaw hk, fun σ' H' δ' ad' it' s x hk => l.ct _ _ _ s.R0 s.thaw hk, l.ex⟩
end
end Fw
/-! # FwMk: own errors made as values -/
namespace Fw
open PySem PySem.W PySem.Calls PyProof.Rows PySem.HandSPX
open Builtin
section
variable {M : Model} {A : Around} {E : Value → Shared → Prop} {h : Heap} {g : Array GenState} {d : Drawn} {t : Nat} {os : OsState}
variable {nm q : Str} {C N : Addr} {bs bm bmB : List Value} {hdct : Bool} {sn : List Str} {sub : List Value} {ab : Bool} {col : Option Bool} {dd : Option Addr} {k0 k1 k2 k3 k5 : Option Value} {B newId initId : String}
/-- its __new__, called by keywords: asked -/
theorem mk_askK (F : ExcBaseFacts B newId initId bmB) (hT : ∀ X : String, bm.contains (.type X) = bmB.contains (.type X)) {kw : List (Str × Value)} {Q : Unit → Shared → Prop}
    (hC : h.get? C = some (excClassObj nm q C N bs bm hdct sn sub ab col dd k0 k1 k2 k3 k5 newId)) (hq : Q () ⟨h, g, d, t, os⟩) : wpAny M A (checkBuiltinCall newId ⟨[.ref C], kw⟩) Q E ⟨h, g, d, t, os⟩ := by
  have c1 : (Value.ref C :: bm).contains (.type B) = true := by rw [List.contains_cons, hT, F.hasB, Bool.or_true]
  have c2 := F.noStar
  simp only [checkBuiltinCall, F.newKind, F.newSplit, F.newRow]
  repeat (first | refine wpAny_loadPart_at hC ?_ | (refine wpAny_isSubtype_exc hC ?_; rw [c1]) | refine wpAny_staticBase_exc hC ?_ | refine wpAny_madeBy_exc hC ?_ | simp only [bne_self_eq_false, Bool.false_eq_true, if_false] | wp_step)
  exact hq
end
section
variable {prog : Program} {w : World} {A : Around} {E : Value → Shared → Prop} {R : Result → Shared → Prop} {h : Heap} {g : Array GenState} {d : Drawn} {t : Nat} {os : OsState}
variable {nm q : Str} {C N : Addr} {bs bm bmB : List Value} {hdct : Bool} {sn : List Str} {sub : List Value} {ab : Bool} {col : Option Bool} {dd : Option Addr} {k0 k1 k2 k3 k5 : Option Value} {B newId initId : String}
theorem mk_newK (F : ExcBaseFacts B newId initId bmB) (hT : ∀ X : String, bm.contains (.type X) = bmB.contains (.type X)) {kw : List (Str × Value)}
    (hC : h.get? C = some (excClassObj nm q C N bs bm hdct sn sub ab col dd k0 k1 k2 k3 k5 newId))
    (hq : R (.ok (.ret (.ref (h.objs.size + 1)))) ⟨(h.push (W.kdv_tup [])).push (excO C h.objs.size), g, d, t, os⟩) :
    codeAny (model prog w) A (.builtin newId ⟨[.ref C], kw⟩) R ⟨h, g, d, t, os⟩ := by
  have he := F.ends
  have c1 : (Value.ref C :: bm).contains (.type B) = true := by rw [List.contains_cons, hT, F.hasB, Bool.or_true]
  have c2 : (Value.ref C :: bm).contains (.type "AttributeError") = false := by rw [List.contains_cons, hT, F.noAttr]; rfl
  have c3 : (Value.ref C :: bm).contains (.type "NameError") = false := by rw [List.contains_cons, hT, F.noName]; rfl
  refine codeAny_builtinAt F.entry ?_
  unfold Builtin.«BaseException.__new__»
  refine PySem.wpAt_bind ?_
  show PySem.wpAt _ _ _ (stack >>= _) _ _ _
  refine PySem.wpAt_bind (PySem.wpAt_stack fun p below => PySem.wpAt_of_wpAny ?_)
  wp_walk
  refine PySem.wpAt_of_wpAny ?_
  rw [F.owner]
  repeat (first | with_reducible refine wpAny_madeHere_exc F.canon hC ?_ | with_reducible refine wpAny_loadPart_at hC ?_ | (with_reducible refine wpAny_isSubtype_exc hC ?_; first | rw [c1] | rw [c2] | rw [c3]) | wp_step)
  show R _ _
  rw [Heap.size_push]
  exact hq
theorem mk_checkK {M : Model} {kw : List (Str × Value)} {Q : Unit → Shared → Prop} (hC : h.get? C = some (excClassObj nm q C N bs bm hdct sn sub ab col dd k0 k1 k2 k3 k5 newId))
    (hq : Q () ⟨h, g, d, t, os⟩) : wpAny M A (checkBuiltinCall "type.__call__" ⟨[.ref C], kw⟩) Q E ⟨h, g, d, t, os⟩ := by
  have f3 := tc_sub
  have hT : (⟨h, g, d, t, os⟩ : Shared).TypeIs (.ref C) "type" := ⟨_, hC, rfl⟩
  simp only [checkBuiltinCall, tc_kind, tc_split]
  repeat (any_goals (first | assumption | with_reducible refine wpAny_loadPart_at hC ?_ | with_reducible refine wpAny_onRaise ?_ | with_reducible refine wpAny_map ?_ | wp_step))
theorem mk_typeK (F : ExcBaseFacts B newId initId bmB) (hT : ∀ X : String, bm.contains (.type X) = bmB.contains (.type X)) {kw : List (Str × Value)} {fI : Addr} {Q : Fin → Shared → Prop}
    (hC : h.get? C = some (excClassObj nm q C N bs bm hdct sn sub ab col dd k0 k1 k2 k3 k5 newId))
    (hi : W.Looks (model prog w) h (typeLookup (.ref C) "__init__") (some (.ref fI))) (hb : ∀ self, W.Looks (model prog w) h (bindSpecial (.ref fI) self) (.ref fI, [self]))
    (hq : codeAny (model prog w) A (.call (.ref fI) ⟨[.ref (h.objs.size + 1)], kw⟩)
      (fun r s' => match r with | .ok (.ret v) => v = .none ∧ Q (.done (.ret (.ref (h.objs.size + 1)))) s' | .ok _ => False | .error e => E e s')
      ⟨(h.push (W.kdv_tup [])).push (excO C h.objs.size), g, d, t, os⟩) :
    wpAny (model prog w) A (Builtin.«type.__call__» ⟨[.ref C], kw⟩) Q E ⟨h, g, d, t, os⟩ := by
  repeat (first | with_reducible refine wpAny_loadPart_at hC ?_ | with_reducible refine wpAny_madeBy_exc hC ?_ | wp_step)
  refine codeAny_call_builtin_code (Code.quiet_builtin _ F.quiet) (mk_askK F hT hC ?_)
  refine mk_newK F hT hC ?_
  show wpAny _ _ _ _ _ _
  have k : ∀ b o, h.get? b = some o → ((h.push (W.kdv_tup [])).push (excO C h.objs.size)).get? b = some o := fun b o e => Heap.get?_push_of_some _ (Heap.get?_push_of_some _ e)
  have hC1 := k _ _ hC
  have hg : ((h.push (W.kdv_tup [])).push (excO C h.objs.size)).get? (h.objs.size + 1) = some (excO C h.objs.size) := by heap_get
  have cc : (Value.ref C :: bm).contains (.ref C) = true := by simp
  have i1 := hi.keeps k
  have b1 := (hb (.ref (h.objs.size + 1))).keeps k
  unfold isInstance
  repeat (first | with_reducible refine wpAny_loadPart_at hg ?_ | (with_reducible refine wpAny_isSubtype_exc hC1 ?_; rw [cc]) | wp_step)
  show wpAny _ _ (typeLookup (.ref C) _) _ _ _
  refine i1.at ?_
  refine wpAny_holding (wpAny_bind (b1.at ?_))
  refine wpAny_bind (wpAny_call (codeAny_mono hq fun r s' z => ?_))
  rcases r with e | (v | _ | _ | _) <;> first | exact z | exact z.elim | skip
  obtain ⟨rfl, z⟩ := z
  first
    | exact wpAny_pure (wpAny_pure z)
    | (wp_walk; exact z)
theorem mk_callK (F : ExcBaseFacts B newId initId bmB) (hT : ∀ X : String, bm.contains (.type X) = bmB.contains (.type X)) {kw : List (Str × Value)} {fI : Addr}
    (hC : h.get? C = some (excClassObj nm q C N bs bm hdct sn sub ab col dd k0 k1 k2 k3 k5 newId))
    (hi : W.Looks (model prog w) h (typeLookup (.ref C) "__init__") (some (.ref fI))) (hb : ∀ self, W.Looks (model prog w) h (bindSpecial (.ref fI) self) (.ref fI, [self]))
    (hq : codeAny (model prog w) (A.under (.builtin "type.__call__" ⟨[.ref C], kw⟩)) (.call (.ref fI) ⟨[.ref (h.objs.size + 1)], kw⟩) (W.InitBack (h.objs.size + 1) R)
      ⟨(h.push (W.kdv_tup [])).push (excO C h.objs.size), g, d, t, os⟩) :
    codeAny (model prog w) A (.call (.ref C) ⟨[], kw⟩) R ⟨h, g, d, t, os⟩ := by
  have f1 := tc_lookup
  have f2 := tc_bind (.ref C)
  have hTy : (⟨h, g, d, t, os⟩ : Shared).TypeIs (.ref C) "type" := ⟨_, hC, rfl⟩
  refine codeAny_of_tree ?_
  show wpAny _ _ (callAny (.ref C) _) _ _ _
  repeat (any_goals (first | assumption | with_reducible refine wpAny_loadPart_at hC ?_ | wp_step))
  refine ⟨rfl, ?_⟩
  refine codeAny_call_builtin_at (Code.quiet_builtin _ (by decide +kernel)) entry_typeCall (mk_checkK hC (mk_typeK F hT hC hi hb ?_))
  refine codeAny_mono hq fun r s' z => ?_
  rcases r with e | (v | _ | _ | _) <;> exact z
end
end Fw
/-! # FwMk2: C(..) as a value, C an own error -/
namespace Fw
open PySem PySem.Spec PyProof.Rows L2
open Evl (Ex)
section
variable {X : Cx} {e : Expr} {es : List Expr} {ta tk : TA} {x : Str} {C fI : Addr} {fd : FuncData} {ps : List Str} {p pos : Pos} {kws : List Keyword} {ks : List Str}
/-- what makes an error gives it as a value -/
theorem pe_of_pmk {t : L2.St → Hp → XK → Prop} (h : PMk X e t) : PE X e (fun σ H Q => t σ H fun cls d H1 => ∀ a, H1 a = none → Q (.ref a) (upd H1 a (ExV cls d a))) := by
  refine ⟨fun pins s σ H Q I hq => ?_⟩
  refine wpAny_mono (h pins s σ H _ I hq) (fun u s' hu => ?_) fun _ _ z => z
  obtain ⟨a, oe, vs, sI, H', cls, d, rfl, J, k, hne, ha, hz, hd, h1, na, os, ag, r, q⟩ := hu
  refine ⟨.ref a, _, J.call' (ch := []) os (Un.laidN (o := ExV cls d a) k hne na) (J.hok.laidN k na (exV_ok ha hz hd)) ag (fun b z => nomatch z), rfl, q a na⟩
/-- C(k = e, ..), C's own __init__ keeping sp -/
theorem pmk_oexK {CX : CXT} {k : Nat} {sp : Sp} {perm : {α : Type} → List α → List α} (pr : ∀ {zs : List V} {ws : List Value}, Vals zs ws → Vals (perm zs) (perm ws)) (T : OexC X.K C) (iC : PySem.W.findIn X.K (.ref C) "__init__" = some (some (.ref fI))) (tI : PySem.W.typeIn X.K (.ref fI) = some (.type "function"))
    (F1 : FnOk X.prog X.w X.K X.mg X.base CX k fI fd ps sp) (hr : Room (k + 1) X.A) (hb : ∀ (s : Shared) (a : Value) (ws : List Value), ws.length = ks.length → BindsTo s fd ⟨[a], ks.zip ws⟩ (ps.zip (a :: perm ws)))
    (hx : Passes CX X (fun _ _ _ => False)) (hg : Gl X x) (hm : X.mg x = some (.ref C)) (hkw : PK X kws tk)
    (hall : (backToKw pos (keywordEach kws X.env)).all (·.1.isSome) = true := by rfl) (hks : (backToKw pos (keywordEach kws X.env)).filterMap (·.1) = ks := by rfl)
    (hdb : (x == ("__debug__" : Str)) = false := by decide)
    (hpl : ((backTo pos (starEach [] X.env)).any (·.1) || (backToKw pos (keywordEach kws X.env)).any (·.1.isNone)) = false := by rfl) :
    PMk X (.Call (.Name x p) [] kws pos) (fun σ H Q => tk σ H fun zs H1 => zs.length = ks.length ∧ ∀ a, H1 a = none → sp (.ref a :: perm zs) (upd H1 a (exo a C none))
      (fun v H2 => v = .non ∧ ∃ (d : Addr) (fs : List (Str × V)), H2 a = some (exo a C (some d)) ∧ H2 d = some (exd d fs) ∧ H1 d = none ∧ Q (.ref C) (some d) (upd (del H2 a) d (.xd fs))) (fun _ _ _ => False)) := by
  intro pins s σ H Q I h
  obtain ⟨nm, q, N, bs, bm, sn, sub, ab, col, dd, k0, k1, k2, k3, k5, hC, hbm⟩ := T.cls
  refine wpAny_Call_Name_kw (ld_glob I hg hm ?_ hdb)
  refine PySem.W.callWith_KW0 (h₀ := X.base) I.ok.mod.kin T.kC hall ?_ hpl
  refine thn (hkw.run pos pins s σ H _ I h) ?_
  rintro ws s1 ⟨zs, H1, I1, rz, hl0, q1⟩
  refine ⟨I1.kIn, ?_⟩
  rw [hks]
  show wpAny _ _ (call (.ref C) [] (ks.zip ws)) _ _ _
  obtain ⟨hp, g, dr, tk, os⟩ := s1
  have hsz : hp.objs.size ≤ hp.objs.size + 1 := Nat.le_succ _
  have hn : H1 (hp.objs.size + 1) = none := I1.hok.fresh hsz
  have hq := q1 (hp.objs.size + 1) hn
  have kk : ∀ b o, hp.get? b = some o → ((hp.push (PySem.W.kdv_tup [])).push (PySem.HandSPX.excO C hp.objs.size)).get? b = some o := fun b o e => Heap.get?_push_of_some _ (Heap.get?_push_of_some _ e)
  have hget : ((hp.push (PySem.W.kdv_tup [])).push (PySem.HandSPX.excO C hp.objs.size)).get? (hp.objs.size + 1) = some (PySem.HandSPX.excO C hp.objs.size) := by heap_get
  have I2 := I1.laid (t' := tk) (a := hp.objs.size + 1) (o := exo (hp.objs.size + 1) C none) (h' := (hp.push (PySem.W.kdv_tup [])).push (PySem.HandSPX.excO C hp.objs.size)) kk hsz (exo_ok hget)
  have r2 : Vals (V.ref (hp.objs.size + 1) :: perm zs) (Value.ref (hp.objs.size + 1) :: perm ws) := .cons rfl (pr rz)
  have hw : ws.length = ks.length := rz.length.symm.trans hl0
  have run := F1.run _ X.stack _ _ ⟨[Value.ref (hp.objs.size + 1)], ks.zip ws⟩ (Value.ref (hp.objs.size + 1) :: perm ws) _ _ (fun _ _ _ => False) (hr.make C [] (ks.zip ws)) (I2.env0.make C [] (ks.zip ws)) (hb _ (Value.ref (hp.objs.size + 1)) ws hw) r2 hq
  refine wpAny_call (mk_callK F.excBase_ValueError (fun Y => PySem.HandSPX.refsVE_contains Y bm hbm) (I1.kIn _ _ hC) (PySem.W.looks_findIn I1.kIn iC) (fun self => PySem.W.bind_fn I1.kIn self tI) (codeAny_mono run ?_))
  rintro r s' hq'
  match r, hq' with
  | .error er, hq' => exact hx pins σ _ _ er s' I2 hq'
  | .ok (.ret u), hq' =>
    obtain ⟨v, H2, os2, bare2, un2, hok2, rv, ev, d, fs, ea, ed, hd1, q2⟩ := hq'
    subst ev
    obtain ⟨h2, g2, d2, t2, os'⟩ := s'
    exact ⟨rv, mk_end (raises_own T.exC T.tyC) I1 hsz kk un2 hok2 os2 bare2 ea ed hd1 q2⟩
  | .ok .next, hq' => exact hq'.elim
  | .ok .brk, hq' => exact hq'.elim
  | .ok .cont, hq' => exact hq'.elim
theorem heap_rzF {H1 : Hp} {a dx C : Addr} {fs : List (Str × V)} {o : HO} (ha : H1 a = none) (hne : dx ≠ a) :
    upd (del (upd (upd (upd H1 a o) dx (exd dx fs)) a (exo a C (some dx))) a) dx (.xd fs) = upd H1 dx (.xd fs) := by
  funext b
  by_cases h1 : b = dx
  · subst h1
    rw [upd_same, upd_same]
  · rw [upd_ne h1, upd_ne h1]
    by_cases h2 : b = a
    · subst h2
      rw [del_same, ha]
    · rw [del_ne h2, upd_ne h2, upd_ne h1, upd_ne h2]
/-- the attributes, by the parameters' places -/
def atV (at_ : List (Str × Nat)) (xs : List V) : List (Str × V) := at_.map fun q => (q.1, xs.getD q.2 .non)
def atD (at_ : List (Str × Nat)) (ds : List D) : List (Str × D) := at_.map fun q => (q.1, ds.getD q.2 .non)
/-- what __init__ does: it sets these -/
def spXv (C : Addr) (n : Nat) (at_ : List (Str × Nat)) : Sp := fun vs H Q _ => ∃ a xs, vs = .ref a :: xs ∧ xs.length = n ∧ H a = some (exo a C none) ∧
  ∀ dx, H dx = none → dx ≠ a → Q .non (upd (upd H dx (exd dx (atV at_ xs))) a (exo a C (some dx)))
end
variable [TabsOf]
/-- an own error's class that is called -/
structure ErrV (P : Program) (w : World) (K : PySem.W.Frag) (mg : Str → Option Value) (base : Heap) (n : Str) (q : Str) (st : Stmt) (ps : List Str) (at_ : List (Str × Nat)) : Prop where
  gl : mg n = some (.ref (He.ga K n))
  xc : XC K (He.ga K n)
  ini : ∃ fI fd, PySem.W.findIn K (.ref (He.ga K n)) "__init__" = some (some (.ref fI)) ∧ PySem.W.typeIn K (.ref fI) = some (.type "function") ∧ FunD K "__init__" q (defArgs st) (defBody st) (defScope st) [] [] fI fd ∧
    FnOk P w K mg base L2.CX0 1 fI fd ("self" :: ps) (spXv (He.ga K n) ps.length at_)
def mMk (nm : Str) (n : Nat) (at_ : List (Str × Nat)) (m : AM) : EM := fun δ post ex => m δ (fun ds => ds.length = n ∧ post (.err nm (atD at_ ds))) ex
def mMkK (nm : Str) (nk n : Nat) (perm : {α : Type} → List α → List α) (at_ : List (Str × Nat)) (m : AM) : EM := fun δ post ex => m δ (fun ds => ds.length = nk ∧ (perm ds).length = n ∧ post (.err nm (atD at_ (perm ds)))) ex
section
variable {X : Cx} {E : XK} {n q : Str} {st : Stmt} {ps : List Str} {at_ : List (Str × Nat)} {e : Expr} {es : List Expr} {m : AM} {p pos : Pos}
theorem at_das {W : Wld} {K : PySem.W.Frag} {H : Hp} {xs : List V} {ds : List D} (h : Das W K H xs ds) : ∀ (at_ : List (Str × Nat)), (∀ q ∈ at_, q.2 < ds.length) → Das W K H ((atV at_ xs).map (·.2)) ((atD at_ ds).map (·.2))
  | [], _ => .nil
  | q :: at_, hq => by
    obtain ⟨v, h1, h2⟩ := h.getD (i := q.2) (d := ds[q.2]'(hq q List.mem_cons_self)) (List.getElem?_eq_getElem _)
    have e1 : xs.getD q.2 .non = v := by rw [List.getD_eq_getElem?_getD, h1]; rfl
    have e2 : ds.getD q.2 .non = ds[q.2]'(hq q List.mem_cons_self) := by rw [List.getD_eq_getElem?_getD, List.getElem?_eq_getElem (hq q List.mem_cons_self)]; rfl
    refine .cons ?_ (at_das h at_ fun r hr => hq r (List.mem_cons_of_mem _ hr))
    show Da W K H (xs.getD q.2 .non) (ds.getD q.2 .non)
    rw [e1, e2]
    exact h2
theorem at_fst {xs : List V} {ds : List D} (at_ : List (Str × Nat)) : (atV at_ xs).map (·.1) = (atD at_ ds).map (·.1) := by
  unfold atV atD
  rw [List.map_map, List.map_map]
  rfl
theorem zip_fs (fs : List (Str × V)) : (fs.map (·.1)).zip (fs.map (·.2)) = fs := by
  induction fs with
  | nil => rfl
  | cons q fs ih =>
    rw [List.map_cons, List.map_cons, List.zip_cons_cons, ih]
/-- the error is there, as data -/
theorem err_new {W : Wld} {K : PySem.W.Frag} {H : Hp} {xs : List V} {ds : List D} {dx a : Addr} (ok : W.ok H) (hv : Das W K (W.cut H) xs ds) (hat : ∀ q ∈ at_, q.2 < ds.length) (hd : H dx = none) (ha : upd H dx (.xd (atV at_ xs)) a = none) :
    W.R H (upd (upd H dx (.xd (atV at_ xs))) a (ExV (.ref (He.ga K n)) (some dx) a)) ∧ Da W K (W.cut (upd (upd H dx (.xd (atV at_ xs))) a (ExV (.ref (He.ga K n)) (some dx) a))) (.ref a) (.err n (atD at_ ds)) := by
  have r1 : W.R H (upd H dx (.xd (atV at_ xs))) := R_new ok hd
  have r2 : W.R (upd H dx (.xd (atV at_ xs))) (upd (upd H dx (.xd (atV at_ xs))) a (ExV (.ref (He.ga K n)) (some dx) a)) := R_new r1.ok ha
  refine ⟨r1.trans r2, .err (dd := some dx) (xs := (atV at_ xs).map (·.2)) ⟨cut_new r1.ok ha (fun _ z => nomatch z), .inr ⟨dx, rfl, ?_⟩⟩ (at_das (hv.R (r1.trans r2)) at_ hat)⟩
  rw [← at_fst (xs := xs), zip_fs]
  exact r2.ex _ _ (cut_new ok hd fun _ z => nomatch z)
theorem px_mk {k : Nat} (D : ErrV X.prog X.w X.K X.mg X.base n q st ps at_) (hr : Room k X.A) (hg : Gl X n) (ha : AX X E (e :: es) m) (nn : Nat) (hk : 2 ≤ k := by decide) (hn : ps.length = nn := by rfl) (hat : ∀ q ∈ at_, q.2 < nn := by decide) (hlen : nn ≤ 1000 := by decide)
    (hb : ∀ (kV doc pm : Value) (an : Option Addr) (cdv ct : Value) (us : List Value), us.length = ps.length + 1 → bindArgs (PySem.W.fnOf "__init__" q (defArgs st) (defBody st) (defScope st) .none kV doc pm an cdv ct) ⟨us, []⟩ = pure (((("self" : Str) :: ps)).zip us))
    (hdb : (n == ("__debug__" : Str)) = false := by decide) (he : starEach (e :: es) X.env = (false, eval e X.env) :: starEach es X.env := by rfl) (hpl : (backTo pos (starEach es X.env)).any (·.1) = false := by rfl) :
    PX X E (.Call (.Name n p) (e :: es) [] pos) (mMk n nn at_ m) := by
  subst hn
  obtain ⟨fI, fd, iC, tI, FD, F1⟩ := D.ini
  obtain ⟨t, pt, ev⟩ := ha
  refine ⟨_, pe_of_pmk (pmk_oex (dvs := []) D.xc.ox iC tI F1 (hr.mono hk) (binds_fd FD hb) .nil pass0 hg D.gl pt hdb he hpl), fun W σ H Q δ post ex hs ok hm hq lx => ?_⟩
  refine ev W σ H _ δ _ ex hs ok hm ?_ lx
  rintro vs H1 ds r1 hv ⟨hl, hp⟩
  refine ⟨by rw [hv.length, hl]; exact hlen, fun a ha0 => ?_⟩
  rw [List.append_nil]
  refine ⟨a, vs, rfl, hv.length.trans hl, upd_same, fun dx hd hne => ⟨rfl, dx, atV at_ vs, upd_same, ?_, ?_, ?_⟩⟩
  · rw [upd_ne hne, upd_same]
  · rw [upd_ne hne] at hd
    exact hd
  · rw [upd_ne hne] at hd
    rw [heap_rzF ha0 hne]
    intro b hb0
    obtain ⟨r2, hda⟩ := err_new (n := n) r1.ok hv (by rw [hl]; exact hat) hd hb0
    exact hq _ _ _ (r1.trans r2) hda hp
theorem px_mkK {k : Nat} {ks : List Str} {kws : List Keyword} {mk : AM} (perm : {α : Type} → List α → List α) (po : PermOk perm) (D : ErrV X.prog X.w X.K X.mg X.base n q st ps at_) (hr : Room k X.A) (hg : Gl X n) (hkw : KX X E kws mk) (nk nn : Nat) (hnk : ks.length = nk := by rfl) (hk : 2 ≤ k := by decide) (hn : ps.length = nn := by rfl)
    (hat : ∀ q ∈ at_, q.2 < nn := by decide)
    (hb : ∀ (kV doc pm : Value) (an : Option Addr) (cdv ct : Value) (a : Value) (ws : List Value), ws.length = ks.length → bindArgs (PySem.W.fnOf "__init__" q (defArgs st) (defBody st) (defScope st) .none kV doc pm an cdv ct) ⟨[a], ks.zip ws⟩ = pure (((("self" : Str) :: ps)).zip (a :: perm ws)))
    (hall : (backToKw pos (keywordEach kws X.env)).all (·.1.isSome) = true := by rfl) (hks : (backToKw pos (keywordEach kws X.env)).filterMap (·.1) = ks := by rfl)
    (hdb : (n == ("__debug__" : Str)) = false := by decide)
    (hpl : ((backTo pos (starEach [] X.env)).any (·.1) || (backToKw pos (keywordEach kws X.env)).any (·.1.isNone)) = false := by rfl) :
    PX X E (.Call (.Name n p) [] kws pos) (mMkK n nk nn perm at_ mk) := by
  subst hn hnk
  obtain ⟨fI, fd, iC, tI, FD, F1⟩ := D.ini
  obtain ⟨t, pt, ev⟩ := hkw
  have hb2 : ∀ (s : Shared) (a : Value) (ws : List Value), ws.length = ks.length → BindsTo s fd ⟨[a], ks.zip ws⟩ ((("self" : Str) :: ps).zip (a :: perm ws)) := by
    intro s a ws hw
    obtain ⟨oc, od, dV, kV, doc, pm, an, cdv, ct, osl, rfl, lk, hcd, hD, hK⟩ := FD.ex
    rcases hD with ⟨_, rfl⟩ | ⟨z, _⟩
    · exact BindsTo.of_eq (hb kV doc pm an cdv ct a ws hw)
    · exact absurd rfl z
  refine ⟨_, pe_of_pmk (pmk_oexK (perm := perm) (ks := ks) po.vals D.xc.ox iC tI F1 (hr.mono hk) hb2 pass0 hg D.gl pt hall hks hdb hpl), fun W σ H Q δ post ex hs ok hm hq lx => ?_⟩
  refine ev W σ H _ δ _ ex hs ok hm ?_ lx
  rintro vs H1 ds r1 hv ⟨hl, hl2, hp⟩
  have hv2 := po.das hv
  refine ⟨hv.length.trans hl, fun a ha0 => ?_⟩
  refine ⟨a, perm vs, rfl, hv2.length.trans hl2, upd_same, fun dx hd hne => ⟨rfl, dx, atV at_ (perm vs), upd_same, ?_, ?_, ?_⟩⟩
  · rw [upd_ne hne, upd_same]
  · rw [upd_ne hne] at hd
    exact hd
  · rw [upd_ne hne] at hd
    rw [heap_rzF ha0 hne]
    intro b hb0
    obtain ⟨r2, hda⟩ := err_new (n := n) r1.ok hv2 (by rw [hl2]; exact hat) hd hb0
    exact hq _ _ _ (r1.trans r2) hda hp
end
end Fw
/-! # FwMk3: the classes' __init__s; errors without one; isinstance(e, ValueError); enumerate -/
namespace Fw
open PySem PySem.Spec PyProof.Rows L2
open Evl (Ex)
variable [TabsOf]
section
variable {P : Program} {w : World} {K : PySem.W.Frag} {mg : Str → Option Value} {base : Heap} {n f f2 prm prm2 q msg : Str} {st : Stmt} {j : Nat} {p1 p2 p3 p4 p5 p6 p7 p8 p9 p10 p11 p12 p13 p14 : Pos}
theorem errV1_of (p : He.Defn) (hg : mg n = some (.ref (He.ga K n))) (xc : XC K (He.ga K n)) (xi : xiB K (He.ga K n) (He.fAd K p) = true) (no : PySem.W.findIn K (.ref (He.ga K n)) f = some none)
    (F : ∃ fd, FunD K "__init__" q (defArgs st) (defBody st) (defScope st) [] [] (He.fAd K p) fd) (S : FnScope ["self", prm] ["self", prm] (defScope st))
    (hw : mg "WrongError" = some (.ref (He.ga K "WrongError"))) (B : XB K (He.ga K "WrongError")) (hgl : (defScope st).names.lookup ("WrongError" : Str) = some .globalImplicit)
    (hs : (defScope st).names.lookup ("self" : Str) = some .local) (hp : (defScope st).names.lookup prm = some .local) (hd : (prm == ("__debug__" : Str)) = false) (hcd : (prm == ("__classdict__" : Str)) = false)
    (body : defBody st = [.Expr (.Call (.Attribute (.Name "WrongError" p1) "__init__" p2) [.Name "self" p3, .Constant (.str msg) j p4] [] p5) p6, .Assign [.Attribute (.Name "self" p7) f p8] (.Name prm p9) p10])
    (hc : ∀ (cdv : Value) (A : Around) (outer : List PySem.Env) (s : Shared) (H : Hp) (E : XK) (X : Cx), X = cxOf L2.CX0 P w K mg base ["self", prm] q (defScope st) (He.fAd K p) cdv A outer s H E → ∃ pl : Sem Bool,
      eval (.Call (.Attribute (.Name "WrongError" p1) "__init__" p2) [.Name "self" p3, .Constant (.str msg) j p4] [] p5) X.env = (do
      let ov ← eval (.Name "WrongError" p1) X.env
      standAt p2.atName
      let (f, first) ← holding [ov] (getMethod ov "__init__" pl)
      callWith p5 f first (backTo p5 (starEach [.Name "self" p3, .Constant (.str msg) j p4] X.env)) (backToKw p5 (keywordEach [] X.env)))) :
    ErrV P w K mg base n q st [prm] [(f, 0)] := by
  obtain ⟨fd, F⟩ := F
  obtain ⟨h1, h2⟩ := xi_ok xi
  refine ⟨hg, xc, _, _, h1, h2, F, ?_⟩
  obtain ⟨oc, od, dV, kV, doc, pm, an, cdv, ct, osl, rfl, lk, hcdI, hD, hK⟩ := F.ex
  refine fn_of lk hcdI S ?_ ?_
  · rintro vs H Q E ⟨a, xs, rfl, hl, _⟩
    rw [List.length_cons, hl]
    rfl
  · rintro A outer s H vs Q E hr ⟨a, xs, rfl, hl, ha, k⟩
    obtain ⟨v, rfl⟩ : ∃ v, xs = [v] := match xs, hl with | [v], _ => ⟨v, rfl⟩
    rw [body]
    obtain ⟨pl, hc⟩ := hc cdv A outer s H E _ rfl
    refine ⟨_, pss_cons (ps_expr (pe_winit (hc := hc) hgl hw B (pa_cons (pe_var (i := 0) rfl (.inl hs) (by decide) (by decide)) (pa_cons pe_str pa_nil)))) (pss_one (ps_ost (pe_var (i := 0) rfl (.inl hs) (by decide) (by decide)) (pe_var (i := 1) rfl (.inl hp) hd hcd))), ?_⟩
    refine ⟨.ref a, rfl, ?_⟩
    refine ⟨a, He.ga K n, [.str msg], rfl, by show 1 ≤ 1000; decide, xc.ox, ha, ?_⟩
    exact ⟨v, rfl, .ref a, rfl, a, _, rfl, xc.ox, no, .inl ⟨ha, fun dx h1 h2 => k dx h1 h2⟩⟩
theorem errV2_of (p : He.Defn) (hg : mg n = some (.ref (He.ga K n))) (xc : XC K (He.ga K n)) (xi : xiB K (He.ga K n) (He.fAd K p) = true) (no : PySem.W.findIn K (.ref (He.ga K n)) f = some none) (no2 : PySem.W.findIn K (.ref (He.ga K n)) f2 = some none)
    (F : ∃ fd, FunD K "__init__" q (defArgs st) (defBody st) (defScope st) [] [] (He.fAd K p) fd) (S : FnScope ["self", prm, prm2] ["self", prm, prm2] (defScope st))
    (hw : mg "WrongError" = some (.ref (He.ga K "WrongError"))) (B : XB K (He.ga K "WrongError")) (hgl : (defScope st).names.lookup ("WrongError" : Str) = some .globalImplicit)
    (hs : (defScope st).names.lookup ("self" : Str) = some .local) (hp : (defScope st).names.lookup prm = some .local) (hd : (prm == ("__debug__" : Str)) = false) (hcd : (prm == ("__classdict__" : Str)) = false)
    (hp2 : (defScope st).names.lookup prm2 = some .local) (hd2 : (prm2 == ("__debug__" : Str)) = false) (hcd2 : (prm2 == ("__classdict__" : Str)) = false)
    (body : defBody st = [.Expr (.Call (.Attribute (.Name "WrongError" p1) "__init__" p2) [.Name "self" p3, .Constant (.str msg) j p4] [] p5) p6, .Assign [.Attribute (.Name "self" p7) f p8] (.Name prm p9) p10, .Assign [.Attribute (.Name "self" p11) f2 p12] (.Name prm2 p13) p14])
    (hc : ∀ (cdv : Value) (A : Around) (outer : List PySem.Env) (s : Shared) (H : Hp) (E : XK) (X : Cx), X = cxOf L2.CX0 P w K mg base ["self", prm, prm2] q (defScope st) (He.fAd K p) cdv A outer s H E → ∃ pl : Sem Bool,
      eval (.Call (.Attribute (.Name "WrongError" p1) "__init__" p2) [.Name "self" p3, .Constant (.str msg) j p4] [] p5) X.env = (do
      let ov ← eval (.Name "WrongError" p1) X.env
      standAt p2.atName
      let (f, first) ← holding [ov] (getMethod ov "__init__" pl)
      callWith p5 f first (backTo p5 (starEach [.Name "self" p3, .Constant (.str msg) j p4] X.env)) (backToKw p5 (keywordEach [] X.env)))) :
    ErrV P w K mg base n q st [prm, prm2] [(f2, 1), (f, 0)] := by
  obtain ⟨fd, F⟩ := F
  obtain ⟨h1, h2⟩ := xi_ok xi
  refine ⟨hg, xc, _, _, h1, h2, F, ?_⟩
  obtain ⟨oc, od, dV, kV, doc, pm, an, cdv, ct, osl, rfl, lk, hcdI, hD, hK⟩ := F.ex
  refine fn_of lk hcdI S ?_ ?_
  · rintro vs H Q E ⟨a, xs, rfl, hl, _⟩
    rw [List.length_cons, hl]
    rfl
  · rintro A outer s H vs Q E hr ⟨a, xs, rfl, hl, ha, k⟩
    obtain ⟨v, u, rfl⟩ : ∃ v u, xs = [v, u] := match xs, hl with | [v, u], _ => ⟨v, u, rfl⟩
    rw [body]
    obtain ⟨pl, hc⟩ := hc cdv A outer s H E _ rfl
    refine ⟨_, pss_cons (ps_expr (pe_winit (hc := hc) hgl hw B (pa_cons (pe_var (i := 0) rfl (.inl hs) (by decide) (by decide)) (pa_cons pe_str pa_nil)))) (pss_cons (ps_ost (pe_var (i := 0) rfl (.inl hs) (by decide) (by decide)) (pe_var (i := 1) rfl (.inl hp) hd hcd))
      (pss_one (ps_ost (pe_var (i := 0) rfl (.inl hs) (by decide) (by decide)) (pe_var (i := 2) rfl (.inl hp2) hd2 hcd2)))), ?_⟩
    refine ⟨.ref a, rfl, ?_⟩
    refine ⟨a, He.ga K n, [.str msg], rfl, by show 1 ≤ 1000; decide, xc.ox, ha, ?_⟩
    refine ⟨v, rfl, .ref a, rfl, a, _, rfl, xc.ox, no, .inl ⟨ha, fun dx h1 h2 => ?_⟩⟩
    refine ⟨u, rfl, .ref a, rfl, a, _, rfl, xc.ox, no2, .inr ⟨dx, [(f, v)], upd_same, ?_, by show 1 ≤ 900; decide, ?_⟩⟩
    · rw [upd_ne h2, upd_same]
    · have e : upd (upd (upd H dx (exd dx [(f, v)])) a (exo a (He.ga K n) (some dx))) dx (exd dx [(f2, u), (f, v)]) = upd (upd H dx (exd dx [(f2, u), (f, v)])) a (exo a (He.ga K n) (some dx)) := by
        funext b
        by_cases hb : b = dx
        · rw [hb, upd_same, upd_ne h2, upd_same]
        · rw [upd_ne hb]
          by_cases hb2 : b = a
          · rw [hb2, upd_same, upd_same]
          · rw [upd_ne hb2, upd_ne hb2, upd_ne hb, upd_ne hb]
      rw [e]
      exact k dx h1 h2
end
/-! ## C(e), C an own error without an __init__ -/
abbrev veMro : List Value := [.type "ValueError", .type "Exception", .type "BaseException", .type "object"]
section
variable {X : Cx} {E : XK} {n : Str} {e : Expr} {m : AM} {p pos : Pos}
theorem pe_mk0 {ta : TE} (q : PySem.W.excIn X.K (He.ga X.K n) veMro "ValueError.__new__" = true) (gC : X.mg n = some (.ref (He.ga X.K n))) (kC : PySem.W.keepIn X.K (.ref (He.ga X.K n)) = true) (hg : Gl X n)
    (he : PE X e ta) (hs : starEach [e] X.env = (false, eval e X.env) :: starEach [] X.env := by rfl) (hdb : (n == ("__debug__" : Str)) = false := by decide) :
    PE X (.Call (.Name n p) [e] [] pos) (fun σ H Q => ta σ H fun _ H1 => ∀ a, H1 a = none → Q (.ref a) (upd H1 a (ExV (.ref (He.ga X.K n)) none a))) := by
  refine ⟨fun pins s σ H Q I h => ?_⟩
  refine wpAny_Call_Name_kw (ld_glob I hg gC ?_ hdb)
  refine PySem.W.callWith_K (h₀ := X.base) I.ok.mod.kin kC ?_ hs (by rfl)
  rw [hs]
  show wpAny _ _ (spliced ((false, eval e X.env) :: backTo pos (starEach [] X.env))) _ _ s
  refine Calls.spliced_cons (thn (he.run pins s σ H _ I h) ?_)
  rintro u s1 ⟨v, H1, I1, r1, q1⟩
  refine Calls.spliced_nil ⟨I1.kIn, ?_⟩
  show wpAny _ _ (call (.ref (He.ga X.K n)) [u]) _ _ _
  obtain ⟨bm, N, nm, qn, bs, hdct, sn, sub, ab, col, dd, k0, k1, k2, k3, k5, mN, hC, hN, hni, T⟩ := exc_obj I1.kIn q
  refine wpAny_call_exc_subT F.excBase_ValueError T hC hN hni (fun h' a hm => ?_) (by show 1 ≤ sizeLine; decide)
  have hn : H1 a = none := I1.hok.gone hm.new
  obtain ⟨t, ht, _, _⟩ := hm.there
  exact ⟨.ref a, _, I1.laidN (o := ExV (.ref (He.ga X.K n)) none a) hm.keeps hm.new hn (exV_ok ht ⟨rfl, rfl⟩ rfl), rfl, q1 a hn⟩
def mMk0 (nm : Str) (m : EM) : EM := fun δ post ex => m δ (fun _ => post (.err nm [])) ex
theorem px_mk0 {me : EM} (q : PySem.W.excIn X.K (He.ga X.K n) veMro "ValueError.__new__" = true) (gC : X.mg n = some (.ref (He.ga X.K n))) (xc : XC X.K (He.ga X.K n)) (hg : Gl X n)
    (he : PX X E e me) (hs : starEach [e] X.env = (false, eval e X.env) :: starEach [] X.env := by rfl) (hdb : (n == ("__debug__" : Str)) = false := by decide) :
    PX X E (.Call (.Name n p) [e] [] pos) (mMk0 n me) := by
  obtain ⟨t, pt, ev⟩ := he
  refine ⟨_, pe_mk0 q gC xc.ox.kC hg pt hs hdb, fun W σ H Q δ post ex hs ok hm hq lx => ?_⟩
  refine ev W σ H _ δ _ ex hs ok hm ?_ lx
  intro v H1 d r1 hv hp a ha
  have r2 : W.R H1 (upd H1 a (ExV (.ref (He.ga X.K n)) none a)) := R_new r1.ok ha
  exact hq _ _ _ (r1.trans r2) (.err (dd := none) (xs := []) ⟨cut_new r1.ok ha (fun _ z => nomatch z), .inl ⟨rfl, rfl⟩⟩ .nil) hp
/-! ## isinstance(e, T), T a built-in class above them all -/
def mIsT (ns : List Str) (a : EM) : EM := fun δ post ex => a δ (fun d => ∃ n fs, d = .err n fs ∧ n ∈ ns ∧ post (.bl true)) ex
theorem px_isT {a : Expr} {ma : EM} {ns : List Str} {T y : String} {p2 : Pos} (hx : ∀ n ∈ ns, XC X.K (He.ga X.K n)) (hk : ∀ n ∈ ns, PySem.W.kitOne X.K (.ref (He.ga X.K n)) (.type T) = some true) (hg : Gl X "isinstance") (hm : X.mg "isinstance" = none)
    (hy : Gl X y) (my : X.mg y = none) (vy : bootBuiltins y = some (.type T)) (ha : PX X E a ma)
    (st : starEach [a, .Name y p2] X.env = (false, eval a X.env) :: starEach [.Name y p2] X.env := by rfl)
    (st2 : starEach [.Name y p2] X.env = (false, eval (.Name y p2) X.env) :: starEach [] X.env := by rfl)
    (hny : (y : Str) ≠ "__name__" := by decide) (hdy : ((y : Str) == ("__debug__" : Str)) = false := by decide)
    (hpl : (backTo pos (starEach [.Name y p2] X.env)).any (·.1) = false := by rfl) :
    PX X E (.Call (.Name "isinstance" p) [a, .Name y p2] [] pos) (mIsT ns ma) := by
  obtain ⟨t, q, ev⟩ := ha
  refine ⟨_, pe_callB call_isV hg hm (by decide +kernel) (pa_cons q (pa_cons (pe_bltn hy my vy (v := .ty T) rfl (hn := hny) (hd := hdy)) pa_nil st2) st) (by decide) (by decide) st hpl, fun W σ H Q δ post ex hs ok hm hq lx => ?_⟩
  refine ev W σ H _ δ _ ex hs ok hm ?_ lx
  rintro v H1 d r1 hv ⟨n, fs, rfl, hn, hp⟩
  cases hv with
  | err h r => exact ⟨_, _, _, _, .ty T, .type T, true, rfl, h.up cut_sub, (hx n hn).is, fun u hu => hu, hk n hn, hq _ H1 _ r1 (.bl _) hp⟩
/-! ## for k, x in enumerate(l) -/
def enumD : Nat → List D → List D
  | _, [] => []
  | k, d :: ds => .tup [.int (k : Nat), d] :: enumD (k + 1) ds
theorem enumD_len : ∀ (ds : List D) (k : Nat), (enumD k ds).length = ds.length
  | [], _ => rfl
  | d :: ds, k => by
    show (enumD (k + 1) ds).length + 1 = ds.length + 1
    rw [enumD_len ds (k + 1)]
theorem enumD_at : ∀ (ds : List D) (k i : Nat), (enumD k ds)[i]? = ds[i]?.map fun d => D.tup [.int ((k + i : Nat) : Int), d]
  | [], _, _ => rfl
  | d :: ds, k, 0 => rfl
  | d :: ds, k, i + 1 => by
    show (enumD (k + 1) ds)[i]? = ds[i]?.map _
    rw [enumD_at ds (k + 1) i]
    congr 1
    funext x
    rw [show k + 1 + i = k + (i + 1) by omega]
theorem src_enum {W : Wld} {K : PySem.W.Frag} {H0 : Hp} {a : Addr} {xs : List V} {ds : List D} (h : W.cut H0 a = some (.lst xs)) (r : Das W K (W.cut H0) xs ds) : Src W K (Ite K a) (enumD 0 ds) H0 := by
  intro W' H sm ok e
  have h1 : H a = some (.lst xs) := cut_sub _ _ (e _ _ h)
  have rr := (r.sm sm).up e
  refine ⟨fun i d hd => ?_, fun i hi => ⟨xs, Evl.sq_of h1, by rw [enumD_len] at hi; rw [r.length]; exact hi⟩⟩
  rw [enumD_at] at hd
  obtain ⟨d0, hd0, rfl⟩ := Option.map_eq_some_iff.mp hd
  obtain ⟨v, hv, hda⟩ := rr.getD hd0
  refine ⟨⟨xs, v, Evl.sq_of h1, hv⟩, fun x H' => ?_⟩
  rintro ⟨T, y, rfl, hT, rfl, hx⟩
  have hx := hx xs (Evl.sq_of h1)
  rw [hv] at hx
  cases hx
  refine ⟨R_new ok hT, ?_⟩
  rw [Nat.zero_add]
  exact da_newT ok hT (.cons (.int _) (.cons hda .nil))
def iEnumD (m : AM) : IM := fun δ post ex => m δ (fun ds => ∃ xs, ds = [.lst xs] ∧ post (enumD 0 xs)) ex
theorem ix_enum {elts : List Expr} {kk : Nat} {tpos : Pos} (hg : Gl X "enumerate") (hm : X.mg "enumerate" = none) (ha : AX X E [e] m) (hs : starEach [e] X.env = [(false, eval e X.env)] := by rfl) :
    IX X E (.Tuple elts kk tpos) (.Call (.Name "enumerate" p) [e] [] pos) (iEnumD m) := by
  obtain ⟨t, q, ev⟩ := ha
  refine ⟨_, pi_enum hg hm q hs, fun W σ H R δ post ex hs ok hm hq lx => ?_⟩
  refine ev W σ H _ δ _ ex hs ok hm ?_ lx
  rintro vs H1 ds r1 hv ⟨xs, rfl, hp⟩
  cases hv with
  | cons h r =>
  cases r
  cases h with
  | lst h1 h2 => exact ⟨_, _, rfl, Evl.sq_of (cut_sub _ _ h1), hq _ H1 _ r1 (src_enum h1 h2) hp⟩
end
end Fw
/-! # FwRepr2: repr of data that hold dicts -/
namespace Fw
open PySem PySem.Spec PyProof.Rows L2
open Evl (Ex)
variable [TabsOf]
def keyP : L2.Key → PyData
  | .inl i => .int i
  | .inr x => .str x
mutual
def toR : D → PyData
  | .non => .none | .bl b => .bool b | .int i => .int i | .str x => .str x
  | .lst ds => .list (toRs ds) | .tup ds => .tuple (toRs ds)
  | .dic ks ds => .dict ((ks.map keyP).zip (toRs ds))
  | .err _ _ => .none | .drw => .none | .scr _ => .none | .pin _ => .none
def toRs : List D → List PyData
  | [] => []
  | d :: ds => toR d :: toRs ds
end
mutual
def rp : D → Bool
  | .non => true | .bl _ => true | .int _ => true | .str _ => true
  | .lst ds => rps ds | .tup ds => rps ds
  | .dic ks ds => ks.length == ds.length && rps ds
  | .err _ _ => false | .drw => false | .scr _ => false | .pin _ => false
def rps : List D → Bool
  | [] => true
  | d :: ds => rp d && rps ds
end
theorem toRs_len : ∀ ds : List D, (toRs ds).length = ds.length
  | [] => rfl
  | d :: ds => by
    unfold toRs
    rw [List.length_cons, List.length_cons, toRs_len ds]
section
variable {X : Cx} {pins : List (Addr × Obj)} {σ : L2.St} {H : Hp} {s : Shared} {W : Wld}
theorem keys_read : ∀ {es : List DictEntry} {vs : List (L2.Key × Value)}, Pairs (mixKind X.prog X.w) es vs → ReadsAll s.heap (es.map (·.key)) (vs.map fun p => keyP p.1) []
  | _, _, .nil => .nil
  | e :: es, p :: vs, .cons h _ r => by
    rcases keyIs_shape h with ⟨i, t, e1, e2⟩ | ⟨x, t, e1, e2⟩
    · rw [List.map_cons, List.map_cons, e2, e1]
      exact .cons (as := []) (.int i t) (keys_read r)
    · rw [List.map_cons, List.map_cons, e2, e1]
      exact .cons (as := []) (.str x t) (keys_read r)
theorem vals_eq : ∀ {es : List DictEntry} {vs : List (L2.Key × Value)}, Pairs (mixKind X.prog X.w) es vs → es.map (·.val) = vs.map (·.2)
  | _, _, .nil => rfl
  | e :: es, p :: vs, .cons _ h r => by
    rw [List.map_cons, List.map_cons, h, vals_eq r]
theorem kv_keys : ∀ {kvs : List (L2.Key × V)} {vs : List (L2.Key × Value)}, KV kvs vs → vs.map (·.1) = kvs.map (·.1) ∧ Vals (kvs.map (·.2)) (vs.map (·.2))
  | _, _, .nil => ⟨rfl, .nil⟩
  | p :: kvs, q :: vs, .cons h r => by
    obtain ⟨h1, h2⟩ := kv_keys r
    exact ⟨by rw [List.map_cons, List.map_cons, h1, h.1], .cons h.2 h2⟩
/-- the table of modules stands where it stands -/
def smB (K : PySem.W.Frag) : Bool := match K.lookup sysModules with
  | some o => match o.cls with
    | .type c => c == "dict"
    | _ => false
  | none => false
theorem sm_no {K : PySem.W.Frag} {h : Heap} {a : Addr} {o : Obj} (k : smB K = true) (X : K.In h) (e : h.get? a = some o) (c : o.cls = .type "list") : sysModules ≠ a := by
  rintro rfl
  unfold smB at k
  split at k
  · rename_i o2 hk
    have e2 := X _ _ hk
    rw [e] at e2
    cases e2
    rw [c] at k
    exact absurd k (by decide)
  · cases k
mutual
theorem da_reads (I : Inv X pins σ H s) (sm : smB X.K = true) : ∀ {d : D} {v : V} {u : Value}, rp d = true → Da W X.K H v d → RelV v u → ∃ as, Reads s.heap u (toR d) as ∧ sysModules ∉ as
  | _, _, _, _, .non, r => by cases r; exact ⟨_, .none, fun z => nomatch z⟩
  | _, _, _, _, .bl b, r => by cases r; exact ⟨_, .bool b, fun z => nomatch z⟩
  | _, _, _, _, .int i, r => by obtain ⟨t, rfl⟩ := r; exact ⟨_, .int i t, fun z => nomatch z⟩
  | _, _, _, _, .str x, r => by obtain ⟨t, rfl⟩ := r; exact ⟨_, .str x t, fun z => nomatch z⟩
  | .lst ds, _, _, h, .lst e rr, r => by
    cases r
    obtain ⟨its, rv, ⟨o, n, ho, hc, _, hd⟩, _⟩ := I.list (Evl.sq_of e)
    obtain ⟨as, h1, h2⟩ := das_reads I sm (by unfold rp at h; exact h) rr rv
    refine ⟨_, .list ho hc hd h1, fun z => ?_⟩
    rcases List.mem_cons.mp z with z | z
    · exact sm_no sm I.kIn ho hc z
    · exact h2 z
  | .tup ds, _, _, h, .tup e rr, r => by
    cases r
    obtain ⟨its, rv, ⟨o, ho, hc, n, hd⟩, _⟩ := I.tuple e
    obtain ⟨as, h1, h2⟩ := das_reads I sm (by unfold rp at h; exact h) rr rv
    exact ⟨_, .tuple ho hc hd h1, h2⟩
  | .dic ks ds, _, _, h, .dic (kvs := kvs) e ek rr, r => by
    cases r
    unfold rp at h
    have h := Bool.and_eq_true_iff.mp h
    have hl : ks.length = ds.length := by simpa using h.1
    obtain ⟨_, hS, vs, kv, o, es, ep, ho, hx, hd, _, pr, _⟩ := I.hok _ _ e
    obtain ⟨kk, vv⟩ := kv_keys kv
    obtain ⟨bs, h1, h2⟩ := das_reads I sm h.2 rr vv
    have e1 : (((ks.map keyP).zip (toRs ds)).map (·.1)) = vs.map fun p => keyP p.1 := by
      rw [List.map_fst_zip (by rw [List.length_map, toRs_len]; omega), ← ek, ← kk, List.map_map]
      rfl
    have e2 : (((ks.map keyP).zip (toRs ds)).map (·.2)) = toRs ds := List.map_snd_zip (by rw [List.length_map, toRs_len]; omega)
    have r1 := keys_read (s := s) pr
    rw [← e1] at r1
    have r2 : ReadsAll s.heap (es.toList.map (·.val)) (((ks.map keyP).zip (toRs ds)).map (·.2)) bs := by
      rw [e2, vals_eq pr]
      exact h1
    refine ⟨_, .dict ho hx.1 hd r1 r2, fun z => ?_⟩
    rw [List.cons_append, List.nil_append] at z
    rcases List.mem_cons.mp z with z | z
    · rw [← z] at hS
      exact absurd hS (by decide)
    · exact h2 z
  | .err _ _, _, _, h, _, _ => by unfold rp at h; cases h
  | .drw, _, _, h, _, _ => by unfold rp at h; cases h
  | .scr _, _, _, h, _, _ => by unfold rp at h; cases h
  | .pin _, _, _, h, _, _ => by unfold rp at h; cases h
theorem das_reads (I : Inv X pins σ H s) (sm : smB X.K = true) : ∀ {ds : List D} {vs : List V} {us : List Value}, rps ds = true → Das W X.K H vs ds → Vals vs us → ∃ as, ReadsAll s.heap us (toRs ds) as ∧ sysModules ∉ as
  | [], _, _, _, .nil, .nil => ⟨_, .nil, fun z => nomatch z⟩
  | d :: ds, _, _, h, .cons e rr, .cons r rs => by
    unfold rps at h
    have h := Bool.and_eq_true_iff.mp h
    obtain ⟨as, h1, h2⟩ := da_reads I sm h.1 e r
    obtain ⟨bs, h3, h4⟩ := das_reads I sm h.2 rr rs
    exact ⟨_, .cons h1 h3, fun z => (List.mem_append.mp z).elim h2 h4⟩
end
def txtR (d : D) : Str := (toR d).shown
structure ReprOkR (d : D) : Prop where
  rp : rp d = true
  dp : (toR d).depth ≤ 64
  sh : (toR d).showable = true
  sz : (txtR d).length ≤ 16777216
theorem call_reprR (hg : X.A.guards = some []) (hu : X.A.units + 100 < cLine) (sm : smB X.K = true) : CallR X (.builtin "repr") (fun xs H Q => ∃ (v : V) (d : D) (W : Wld), xs = [v] ∧ Da W X.K (W.cut H) v d ∧ ReprOkR d ∧ Q (.str (txtR d)) H) := by
  intro pins s σ H xs us Q I r h
  obtain ⟨v, d, W, rfl, hv, ok, q⟩ := h
  cases r with
  | cons r0 r =>
  cases r
  obtain ⟨as, hr, hno⟩ := da_reads I sm ok.rp hv.here r0
  have hsz : (toR d).shown.length ≤ sizeLine := by
    rw [sizeLine_eq]
    exact ok.sz
  have q : Q (.str (toR d).shown) H := q
  have hs := ok.sh
  have hd := ok.dp
  clear ok
  generalize toR d = p at hr hsz q hs hd
  have fin : ∀ (tk : Nat) (u : Tok), EP X pins σ Q (.str p.shown u) { s with toks := tk } := fun tk u => ⟨.str p.shown, H, I.tok tk, ⟨_, rfl⟩, q⟩
  cases hr with
  | none => exact PySem.P.repr_of_none (fin _ _)
  | bool b => exact PySem.P.repr_of_bool (by cases b <;> exact fin _ _)
  | int i t => exact PySem.P.repr_of_int (by simpa [PyData.showable] using hs) (fin _ _)
  | str x t => exact PySem.P.repr_of_str (fin _ _) hsz
  | list e c dt ra => exact repr_of_reads' (.list e c dt ra) hs (fun _ => hno) hg (by omega) (fun _ _ e => e) (fun h' u tk k => ⟨.str _, H, I.kept k, ⟨_, rfl⟩, q⟩) hsz
  | tuple e c dt ra => exact repr_of_reads' (.tuple e c dt ra) hs (fun _ => hno) hg (by omega) (fun _ _ e => e) (fun h' u tk k => ⟨.str _, H, I.kept k, ⟨_, rfl⟩, q⟩) hsz
  | dict e c dt rk rv => exact repr_of_reads' (.dict e c dt rk rv) hs (fun _ => hno) hg (by omega) (fun _ _ e => e) (fun h' u tk k => ⟨.str _, H, I.kept k, ⟨_, rfl⟩, q⟩) hsz
variable {E : XK} {e : Expr} {m : AM} {k : Nat} {p pos : Pos}
def fReprR (ds : List D) (z : D) : Prop := ∃ x, ds = [x] ∧ ReprOkR x ∧ z = .str (txtR x)
theorem px_reprR (hgd : X.A.guards = some []) (sm : smB X.K = true) (hr : Room k X.A) (hg : Gl X "repr") (hm : X.mg "repr" = none) (ha : AX X E [e] m) (he : starEach [e] X.env = (false, eval e X.env) :: starEach [] X.env := by rfl) (hpl : (backTo pos (starEach [] X.env)).any (·.1) = false := by rfl) :
    PX X E (.Call (.Name "repr" p) [e] [] pos) (mCB fReprR m) := px_callB (call_reprR hgd (by have := hr.un; omega) sm) (fun W => by
  rintro H xs ds z Q ok hx ⟨x, rfl, ho, rfl⟩ q
  cases hx with
  | cons h r =>
  cases r
  exact ⟨_, x, W, rfl, h, ho, q _ H (.refl ok) (.str _)⟩) hg hm (by decide +kernel) ha (by decide) (by decide) he hpl
theorem fReprR_one {x z : D} : fReprR [x] z ↔ ReprOkR x ∧ z = .str (txtR x) := ⟨fun ⟨_, h1, h2, h3⟩ => by cases h1; exact ⟨h2, h3⟩, fun h => ⟨_, rfl, h.1, h.2⟩⟩
end
end Fw
/-! # FwTac2: what is unfolded, with lists held alone and errors made -/
namespace Fw
open PySem PySem.Spec PyProof.Rows L2
end Fw
local macro_rules | `(tactic| walk_at "fwy") => `(tactic| simp (config := { failIfUnchanged := false }) only [Fw.funM, Fw.sSeq, Fw.sSet, Fw.sTo, Fw.sDrop, Fw.sRet, Fw.sRetN, Fw.sNx, Fw.sBk, Fw.sCt, Fw.sIf, Fw.sFor, Fw.sAug, Fw.sPar, Fw.sPar3, Fw.sRaise, Fw.sDrPut, Fw.mVar, Fw.mC, Fw.mOp, Fw.mSub, Fw.mMul, Fw.mFdiv, Fw.mMod, Fw.mPow, Fw.mNeg, Fw.mTest, Fw.mNot, Fw.mAnd, Fw.mOr, Fw.mAndV, Fw.mOrV, Fw.mNotV, Fw.mIf, Fw.mChain,   Fw.mTup, Fw.mLst, Fw.mNil, Fw.mCons, Fw.mCall, Fw.mCallK, Fw.mCB, Fw.mDrI, Fw.mDrPop, Fw.mDic, Fw.mGet, Fw.gNm, Fw.gTp, Fw.gCn, Fw.gNl, Fw.iSq, Fw.iDrC, Fw.iRange, Fw.iRange2, Fw.iScr, Fw.tTT, Fw.mIsi, Fw.mIsi2, List.map_cons, List.map_nil, List.length_cons, List.length_nil, List.replicate, List.cons_append, List.nil_append,   List.getElem?_cons_zero, List.getElem?_cons_succ, List.getElem?_nil, List.set_cons_zero, List.set_cons_succ, Option.some.injEq, exists_eq_left', exists_eq_left, Nat.reduceAdd, Nat.reduceSub, true_and, and_true, Fw.fAdd_int, Fw.fAdd_lst, Fw.fAdd_tup, Fw.fI_int, Fw.fIc_int, Fw.fIB_int, Fw.fInt_int, Fw.fAbs_int, Fw.fMin_int, Fw.fIsB_bl, Fw.fNotB_bl, Fw.fLen_lst, Fw.fLen_tup, Fw.fEq_int, Fw.items_lst, Fw.items_tup, List.cons.injEq, Fw.D.int.injEq, Fw.D.bl.injEq, Fw.D.str.injEq, Fw.D.lst.injEq, Fw.D.tup.injEq, and_assoc, exists_and_left, exists_eq_right, exists_eq_right', eq_self_iff_true, Nat.reduceLeDiff, Fw.mShr, Fw.mBand, Fw.mBxor, Fw.fRepr_one, Fw.fEqS_str, Fw.fNeS_str, Fw.sNewO, Fw.sAppO, Fw.mPin, Fw.iPin, Fw.gPin, Fw.sSetF, Fw.sParN1, Fw.sPar1N, Fw.sParNN, Fw.pinS, Fw.unpS, List.foldr_cons, List.foldr_nil, Fw.mMk, Fw.mMkK, Fw.mMk0, Fw.mIsT, Fw.atD, Fw.fReprR_one, List.getD_cons_zero, List.getD_cons_succ, Fw.iEnumD])
namespace Fw
open PySem PySem.Spec PyProof.Rows L2
end Fw

/-! # FwLam: closures that are handed on -/
namespace Fw
open PySem PySem.Spec PyProof.Rows L2

/-- a frame that is not yet there adds nothing -/
theorem un_step {fs : List Addr} {L : Addr} {H H1 H2 : Hp} {h h1 h2 : Heap} (u : Un fs [] H H1 h h1) (v : Un (L :: fs) [] H1 H2 h1 h2) (hL : h.get? L = none) : Un fs [] H H2 h h2 where
  keep b o hb hn hf he := v.keep b o (u.keep b o hb hn hf he) (u.free b o hb hn he) (fun z => by
    rcases List.mem_cons.mp z with rfl | z
    · rw [hL] at hb; cases hb
    · exact hf z) he
  slot b o hb hn hf he := by
    obtain ⟨sl, h1⟩ := u.slot b o hb hn hf he
    obtain ⟨sl2, h2⟩ := v.slot b _ h1 (u.free b o hb hn he) (List.mem_cons_of_mem _ hf) he
    exact ⟨sl2, h2⟩
  free b o hb hn he := by
    obtain ⟨o1, h1⟩ := u.there b o hb he
    exact v.free b o1 h1 (u.free b o hb hn he) he
  there b o hb he := by
    obtain ⟨o1, h1⟩ := u.there b o hb he
    exact v.there b o1 h1 he
  tups b xs h := v.tups b xs (u.tups b xs h)
  frzs b o x h := v.frzs b o x (u.frzs b o x h)
  tbls b ps h := by
    obtain ⟨m, h1⟩ := u.tbls b ps h
    obtain ⟨m2, h2⟩ := v.tbls b _ h1
    exact ⟨m ++ m2, by rw [h2, Array.append_assoc]⟩

/-- a closure: what it does whenever it is called later, by whom it may be -/
structure Clo (P : Program) (w : World) (K : PySem.W.Frag) (mg : Str → Option Value) (base : Heap) (k : Nat) (fs : List Addr) (f c' : Addr) (q : Str) (H : Hp) (h : Heap) (tl : XK → Hp → VK → Prop) : Prop where
  fn : ∃ o fd, h.get? f = some o ∧ o.data = .func fd
  own : H f = none
  out : f ∉ fs
  run : ∀ (A : Around) (outer : List PySem.Env) (s : Shared) (H' : Hp) (Q : VK) (E : XK), Room k A → Env0 P w K mg base A outer s H' → Un fs [] H H' h s.heap → H' c' = some (LamX.CodeO c' q) → tl E H' Q →
    codeAny (model P w) A (.call (.ref f) ⟨[], []⟩) (CR (L2.CX P w) outer P w H' s Q E) s
theorem Clo.later {P : Program} {w : World} {K : PySem.W.Frag} {mg : Str → Option Value} {base : Heap} {k : Nat} {fs : List Addr} {f c' : Addr} {q : Str} {H H1 : Hp} {h h1 : Heap} {tl : XK → Hp → VK → Prop}
    (C : Clo P w K mg base k fs f c' q H h tl) (u : Un fs [] H H1 h h1) : Clo P w K mg base k fs f c' q H1 h1 tl := by
  obtain ⟨o, fd, h0, hd⟩ := C.fn
  exact ⟨⟨o, fd, u.keep f o h0 C.own C.out (fun z => nomatch z), hd⟩, u.free f o h0 C.own (fun z => nomatch z), C.out, fun A outer s H' Q E hr e0 v => C.run A outer s H' Q E hr e0 (u.trans v)⟩

theorem codeRec_of {P : Program} {w : World} {H : Hp} {h : Heap} {c' : Addr} {q : Str} (ok : HOk P w H h) (hc : H c' = some (LamX.CodeO c' q)) : Heap.CodeRec h (.ref c') q := by
  obtain ⟨⟨oc, vs, t, h1, h2, h3⟩, _⟩ := ok c' _ hc
  exact ⟨c', oc, vs, t, rfl, h1, h2, h3⟩

theorem clo_make {X : Cx} {pins : List (Addr × Obj)} {σ : L2.St} {H : Hp} {s : Shared} {scope : Scope} {f c' : Addr} {params : Arguments} {body : Expr} {pm ctv : Value} {k : Nat} {t : XK → TE}
    (I : Inv X pins σ H s) (L : LamX.LamS X.env.scope scope)
    (hf : s.heap.get? f = some (PySem.W.kla_obj "<lambda>" (X.env.qual ++ "<lambda>") params body scope (cloFrom X.env.cells scope.names []) pm c' ctv))
    (hn : H f = none) (ho : f ∉ frs X.stack)
    (hbind : bindArgs (PySem.W.kla_fn "<lambda>" (X.env.qual ++ "<lambda>") params body scope (cloFrom X.env.cells scope.names []) pm (.ref c') ctv) ⟨[], []⟩ = pure [])
    (hbody : ∀ (A : Around) (outer : List PySem.Env) (s : Shared) (H : Hp) (E : XK), Room k (A.deeper (LamX.lamEnv X scope s.heap.objs.size f c')) → PE (LamX.lamCx X A outer s H E scope f c') body (t E)) :
    Clo X.prog X.w X.K X.mg X.base (k + 1) (frs X.stack) f c' (X.env.qual ++ "<lambda>") H s.heap (fun E H' Q => t E σ H' Q) := by
  refine ⟨⟨_, _, hf, rfl⟩, hn, ho, fun A outer s1 H' Q E hr e0 u hc h => ?_⟩
  have hf1 := u.keep f _ hf hn ho (fun z => nomatch z)
  refine PySem.W.kla_callFunE (by have := hr.dp; omega) hf1 rfl L.co L.gen rfl (codeRec_of e0.hok hc) ?_
  show wpAny _ _ (bindArgs (PySem.W.kla_fn "<lambda>" (X.env.qual ++ "<lambda>") params body scope (cloFrom X.env.cells scope.names []) pm (.ref c') ctv) ⟨[], []⟩) _ _ _
  rw [hbind]
  refine wpAny_pure ?_
  refine wpAny_newFunctionEnv (fun x hx z => (L.own x hx).2 z) (fun x hx => nomatch hx) (fun h1 hns hsb => ?_) L.kind
  have kp : ∀ (b : Addr) (o : Obj), s1.heap.get? b = some o → h1.get? b = some o := by
    intro b o hb
    rw [hsb.2 b (fun z => ?_)]
    · exact Heap.get?_push_of_some _ hb
    · rw [z] at hb
      exact absurd hb (by simp [Heap.get?])
  refine ⟨?_, PySem.W.kla_codeExpr ?_⟩
  · exact (((e0.mod.nolimit).keeps fun b o hb => (e0.bs b o hb).1).keeps kp)
  · have I' := LamX.lam_start2 (E := E) (f := f) (c' := c') (tk := s1.toks + 0) I L e0 hr.hd u hns kp
    exact wpAny_mono ((hbody A outer s1 H' E (hr.deeper _)).run [] _ σ H' Q I' h)
      (fun u s2 ⟨v, H2, I2, r, q⟩ => ⟨v, H2, I2.os, I2.bare, I2.base, I2.hok, r, q⟩) (fun e s2 hx => hx)
theorem Clo.deeper {P : Program} {w : World} {K : PySem.W.Frag} {mg : Str → Option Value} {base : Heap} {k : Nat} {fs : List Addr} {f c' L : Addr} {q : Str} {H H1 : Hp} {h h1 : Heap} {tl : XK → Hp → VK → Prop}
    (C : Clo P w K mg base k fs f c' q H h tl) (u : Un fs [] H H1 h h1) (hL : h.get? L = none) : Clo P w K mg base k (L :: fs) f c' q H1 h1 tl := by
  obtain ⟨o, fd, h0, hd⟩ := C.fn
  refine ⟨⟨o, fd, u.keep f o h0 C.own C.out (fun z => nomatch z), hd⟩, u.free f o h0 C.own (fun z => nomatch z), fun z => ?_, fun A outer s H' Q E hr e0 v => C.run A outer s H' Q E hr e0 (un_step u v hL)⟩
  rcases List.mem_cons.mp z with rfl | z
  · rw [hL] at h0; cases h0
  · exact C.out z
/-- the call of a closure that a local name holds; s is the frame's beginning -/
theorem pe_clo {Y : Cx} {k i : Nat} {a : Str} {f c' : Addr} {q : Str} {tl : XK → Hp → VK → Prop} {E : XK} {W : WX} {p1 p2 : Pos}
    (C : Clo Y.prog Y.w Y.K Y.mg Y.base k (frs Y.outer) f c' q Y.H_0 Y.s_0.heap tl) (hex : Y.ex = []) (hr : Room k Y.A)
    (tk : Takes Y W) (hW : ∀ cls d σ' H', E cls d H' → W cls d σ' H') (hN : Y.N[i]? = some a) (hv : Vis Y.env.scope a)
    (hda : (a == ("__debug__" : Str)) = false := by decide) (hdc : (a == ("__classdict__" : Str)) = false := by decide) :
    PE Y (.Call (.Name a p1) [] [] p2) (fun σZ HZ Q => σZ[i]? = some (some (.ref f)) ∧ HZ c' = some (LamX.CodeO c' q) ∧ tl E HZ Q) := by
  constructor
  rintro pins s σ H Q I ⟨h0, hc, h⟩
  refine PyProof.Rows.Call_Name0 (thn ((pe_var (i := i) hN hv hda hdc).run pins s σ H (fun v H' => v = .ref f ∧ H' = H) I ⟨_, h0, rfl, rfl⟩) ?_)
  rintro u s1 ⟨v, H1, I1, r, rfl, rfl⟩
  cases r
  have ub : Un (frs Y.outer) [] Y.H_0 H1 Y.s_0.heap s1.heap := by
    have := I1.base
    rw [hex] at this
    exact this
  have C1 := C.later ub
  obtain ⟨o, fd, ho, hd⟩ := C1.fn
  have hat : PySem.W.FnAt f s1.heap := by
    obtain ⟨oc, od, dt, sl⟩ := o
    cases hd
    exact ⟨oc, od, fd, sl, ho⟩
  refine PySem.W.callWith_F0 (env := Y.env) hat (wpAny_call (codeAny_mono (C1.run Y.A Y.stack s1 H1 Q E hr I1.env0 (Un.refl) hc h) ?_))
  intro r s2 hres
  match r, hres with
  | .ok (.ret u), ⟨v, H2, e1, e2, e3, e4, e5, e6⟩ => exact ⟨v, H2, I1.call' (ch := []) e1 e3 e4 e2 (fun _ z => nomatch z), e5, e6⟩
  | .error e, hx => exact passes_call tk hW pins σ H1 s1 e s2 I1 hx
/-- where a def runs that was handed a closure -/
def cxG (P : Program) (w : World) (K : PySem.W.Frag) (mg : Str → Option Value) (base : Heap) (A : Around) (outer : List PySem.Env) (s : Shared) (H : Hp) (env : PySem.Env) : Cx :=
  { prog := P, w := w, K := K, mg := mg, base := base, A := A, N := [], s_0 := s, H_0 := H, env := env, outer := outer, stack := outer, ex := [], fn := fun _ => true, calm := true, pn := [], xe := fun _ _ => False }
section
variable [TabsOf] {P : Program} {w : World} {K : PySem.W.Frag} {mg : Str → Option Value} {base : Heap} {x : Str} {st : Stmt} {g CW : Addr} {fd : FuncData} {k : Nat}
theorem caught_run (F : FunD K x x (defArgs st) (defBody st) (defScope st) [] [] g fd) (S : FnScope ["work", "caught", "error"] ["work"] (defScope st)) (hva : Vis (defScope st) ("work" : Str))
    (hG : ∀ (X : Cx) (cdg : Value) (q : Str), X.mg = mg → X.K = K → LamX.GivesTo X ["work", "caught", "error"] x (defScope st) g cdg (defBody st) "work" q (TCaught K CW))
    {A : Around} {outer : List PySem.Env} {s : Shared} {H : Hp} {args : Args} {Q : VK} {E : XK} {f c' : Addr} {q : Str} {tl : XK → Hp → VK → Prop}
    (hr : Room (k + 1) A) (e0 : Env0 P w K mg base A outer s H) (hb : BindsTo s fd args [(("work" : Str), .ref f)]) (C : Clo P w K mg base k (frs outer) f c' q H s.heap tl) (hc : H c' = some (LamX.CodeO c' q))
    (h : TCaught K CW tl H Q) : codeAny (model P w) A (.call (.ref g) args) (CR (L2.CX P w) outer P w H s Q E) s := by
  obtain ⟨oc, od, dV, kV, doc, pm, an, cdv, ct, osl, rfl, lk, hcd, hD, hK⟩ := F.ex
  refine codeAny_mono (LamX.run_ofS (CX := C8.CX0) (E := C8.E0) (vs := [.ref f]) (us := [.ref f]) (Q := Q) lk hcd S hr e0 hb (.cons rfl .nil) rfl (fun hr' => ?_)) ?_
  · obtain ⟨t, p, ht⟩ := hG (cxG P w K mg base A outer s H (envOfC x (defScope st) 0 0 .none)) cdv q rfl rfl f c' s H Q tl (fun W pn xe Ech p1 p2 tk hW => pe_clo (i := 0) (Y := (cxOf C8.CX0 P w K mg base ["work", "caught", "error"] x (defScope st) g cdv A outer s H C8.E0).tr pn xe) C rfl hr' tk hW rfl hva) hc h
    exact ⟨t, p.nox, ht⟩
  · intro r s2 hres
    match r, hres with
    | .ok (.ret u), hx => exact hx
    | .error e, hx => exact hx.elim
theorem pe_hand {Y : Cx} {i : Nat} {a : Str} {f c' : Addr} {q : Str} {tl : XK → Hp → VK → Prop} {p pa pos : Pos}
    (F : FunD Y.K x x (defArgs st) (defBody st) (defScope st) [] [] g fd) (S : FnScope ["work", "caught", "error"] ["work"] (defScope st)) (hva : Vis (defScope st) ("work" : Str))
    (hG : ∀ (X : Cx) (cdg : Value) (q : Str), X.mg = Y.mg → X.K = Y.K → LamX.GivesTo X ["work", "caught", "error"] x (defScope st) g cdg (defBody st) "work" q (TCaught Y.K CW))
    (hg : Gl Y x) (hm : Y.mg x = some (.ref g)) (hb : Binds Y.K fd ["work"] []) (hr : Room (k + 1) Y.A)
    (C : Clo Y.prog Y.w Y.K Y.mg Y.base k (frs Y.outer) f c' q Y.H_0 Y.s_0.heap tl) (hex : Y.ex = [])
    (hL : Y.s_0.heap.get? Y.env.locals = none) (hst : Y.stack = Y.env :: Y.outer) (hfr : Y.env.frame = some Y.env.locals)
    (hN : Y.N[i]? = some a) (hv : Vis Y.env.scope a) (hdb : (x == ("__debug__" : Str)) = false := by decide)
    (hda : (a == ("__debug__" : Str)) = false := by decide) (hdc : (a == ("__classdict__" : Str)) = false := by decide)
    (he : starEach [.Name a pa] Y.env = (false, eval (.Name a pa) Y.env) :: starEach [] Y.env := by rfl) (hpl : (backTo pos (starEach [] Y.env)).any (·.1) = false := by rfl) :
    PE Y (.Call (.Name x p) [.Name a pa] [] pos) (fun σ H Q => σ[i]? = some (some (.ref f)) ∧ H c' = some (LamX.CodeO c' q) ∧ TCaught Y.K CW tl H Q) := by
  constructor
  rintro pins s σ H Q I ⟨h0, hc, h⟩
  refine wpAny_Call_NameR (ld_glob I hg hm ?_ hdb)
  refine PySem.W.callWith_K (h₀ := Y.base) I.ok.mod.kin F.kp ?_ he hpl
  refine args_cons (thn ((pe_var (i := i) hN hv hda hdc).run pins s σ H (fun v H' => v = .ref f ∧ H' = H) I ⟨_, h0, rfl, rfl⟩) ?_) he
  rintro u s1 ⟨v, H1, I1, r, rfl, rfl⟩
  cases r
  refine args_nil ?_
  have ub : Un (frs Y.outer) [] Y.H_0 H1 Y.s_0.heap s1.heap := by
    have := I1.base
    rw [hex] at this
    exact this
  have C2 : Clo Y.prog Y.w Y.K Y.mg Y.base k (frs Y.stack) f c' q H1 s1.heap tl := by
    have := C.deeper ub hL
    have e : frs Y.stack = Y.env.locals :: frs Y.outer := by rw [hst]; simp [frs, hfr]
    rw [e]
    exact this
  refine ⟨I1.kIn, wpAny_call (codeAny_mono (caught_run (E := fun _ _ _ => False) F S hva hG hr I1.env0 ?_ C2 hc h) ?_)⟩
  · exact hb s1 [.ref f] I1.kIn rfl
  · intro r s2 hres
    match r, hres with
    | .ok (.ret u), ⟨v, H2, e1, e2, e3, e4, e5, e6⟩ => exact ⟨v, H2, I1.call' (ch := []) e1 e3 e4 e2 (fun _ z => nomatch z), e5, e6⟩
    | .error e, ⟨_, _, _, _, _, _, _, _, _, _, _, _, z⟩ => exact z.elim
/-- a def whose first row is  cn = _law_caught(work), work its first parameter; then rest -/
theorem hand_run {N ps : List Str} {y nm a cn : Str} {sy : Stmt} {gy : He.Defn} {fdy : FuncData} {i : Nat} {p1 p2 p3 p4 p5 : Pos} {rest : List Stmt} {m : SM} {j : Nat}
    (F : FunD K x x (defArgs st) (defBody st) (defScope st) [] [] g fd) (S : FnScope ["work", "caught", "error"] ["work"] (defScope st)) (hva : Vis (defScope st) ("work" : Str))
    (hG : ∀ (X : Cx) (cdg : Value) (q : Str), X.mg = mg → X.K = K → LamX.GivesTo X ["work", "caught", "error"] x (defScope st) g cdg (defBody st) "work" q (TCaught K CW))
    (hm : mg x = some (.ref g)) (hb : Binds K fd ["work"] [])
    (Fy : FunD K nm nm (defArgs sy) (defBody sy) (defScope sy) [] [] (He.fAd K gy) fdy) (Sy : FnScope N (a :: ps) (defScope sy)) (hN0 : N[0]? = some a) (hva0 : Vis (defScope sy) a)
    (hN : N[i]? = some cn) (hl : L2.Loc (defScope sy) cn) (hgx : (defScope sy).names.lookup x = some .globalImplicit)
    (hbody : defBody sy = .Assign [.Name cn p1] (.Call (.Name x p2) [.Name a p3] [] p4) p5 :: rest)
    (hrest : ∀ (A : Around) (outer : List PySem.Env) (s : Shared) (H : Hp) (E : XK), Room j (cxF P w K mg base N nm sy gy A outer s H E).A → BX (cxF P w K mg base N nm sy gy A outer s H E) E rest m)
    (hkj : k + 1 ≤ j) (hdb : (x == ("__debug__" : Str)) = false) (hda : (a == ("__debug__" : Str)) = false) (hdc : (a == ("__classdict__" : Str)) = false)
    (hsw : ∀ env, swapsWith (.Call (.Name x p2) [.Name a p3] [] p4) (some (.Name cn p1)) p5.line env = pure false)
    (he : ∀ env, starEach [.Name a p3] env = (false, eval (.Name a p3) env) :: starEach [] env) (hpl : ∀ env, (backTo p4 (starEach [] env)).any (·.1) = false)
    {A : Around} {outer : List PySem.Env} {s : Shared} {H : Hp} {args : Args} {us : List Value} {vs : List V} {ds : List D} {Q : VK} {E : XK} {f c' : Addr} {q : Str} {tl : XK → Hp → VK → Prop} {W : Wld} {post : D → Prop} {ex : EX → Prop}
    (hr : Room (j + 1) A) (e0 : Env0 P w K mg base A outer s H) (hbt : BindsTo s fdy args ((a :: ps).zip (.ref f :: us))) (hv : Vals vs us) (C : Clo P w K mg base k (frs outer) f c' q H s.heap tl) (hc : H c' = some (LamX.CodeO c' q))
    (tb : W.tb = TabsOf.tb K) (ok : W.ok H) (hd : Das W K (W.cut H) vs ds) (hlen : ds.length = ps.length)
    (hstep : ∀ R1 : VK, (∀ v H1 d, W.R H H1 → Da W K (W.cut H1) v d → m ((none :: ds.map some ++ List.replicate (N.length - (ds.length + 1)) none).set i (some d)) { nx := fun _ => post .non, rt := post, ex := ex } → R1 v H1) → TCaught K CW tl H R1)
    (hq : ∀ v H' d, W.R H H' → Da W K (W.cut H') v d → post d → Q v H') (lx : XLink W K H E ex) :
    codeAny (model P w) A (.call (.ref (He.fAd K gy)) args) (CR (L2.CX P w) outer P w H s Q E) s := by
  obtain ⟨oc, od, dV, kV, doc, pm, an, cdv, ct, osl, rfl, lk, hcd, hD, hK⟩ := id Fy.ex
  obtain ⟨c, rfl⟩ := He.codeIn_ref hcd
  have ec : He.codeOf K gy = c := He.codeOf_eq lk rfl
  subst ec
  refine LamX.run_ofS (CX := L2.CX P w) (vs := .ref f :: vs) lk hcd Sy hr e0 hbt (.cons rfl hv) (by simp [hd.length, hlen]) (fun hr' => ?_)
  obtain ⟨t, p, ev⟩ := hrest A outer s H E hr'
  rw [hbody]
  refine ⟨_, pss_cons (ps_set (i := i) Sy.nd hN hl (pe_hand (i := 0) (f := f) (c' := c') (q := q) (tl := tl) (Y := cxF P w K mg base N nm sy gy A outer s H E) F S hva hG hgx hm hb (hr'.mono hkj) C rfl ?_ rfl rfl hN0 hva0 hdb hda hdc (he _) (hpl _)) (hsw _) (.inl rfl)) p, ?_⟩
  · show s.heap.get? s.heap.objs.size = none
    simp [Heap.get?]
  · have h0 : (L2.start N (V.ref f :: vs))[0]? = some (some (.ref f)) := by simp [L2.start]
    refine ⟨h0, hc, hstep _ fun v H1 d r hda hmm => ev W _ H1 _ _ _ ⟨?_, tb, ?_⟩ r.ok hmm ⟨?_, ?_, ?_, ?_, fun x C d H' ho hx => lx x C d H' ?_ hx⟩⟩
    · unfold L2.start
      simp [hd.length]
    · intro n d' hi
      by_cases hin : i = n
      · subst hin
        rw [List.getElem?_set] at hi
        rw [if_pos rfl] at hi
        split at hi
        · cases hi
          rename_i hlt
          refine ⟨v, ?_, hda⟩
          rw [List.getElem?_set, if_pos rfl, if_pos]
          unfold L2.start
          simpa [hd.length] using hlt
        · cases hi
      · rw [List.getElem?_set, if_neg hin] at hi
        match n, hi with
        | 0, hi => simp at hi
        | n + 1, hi =>
          simp only [List.cons_append, List.getElem?_cons_succ] at hi
          by_cases hlt : n < ds.length
          · rw [List.getElem?_append_left (by simpa using hlt), List.getElem?_map] at hi
            obtain ⟨d2, hd2, e2⟩ := Option.map_eq_some_iff.mp hi
            cases e2
            obtain ⟨v2, hv2, hda2⟩ := hd.getD hd2
            refine ⟨v2, ?_, hda2.R r⟩
            rw [List.getElem?_set, if_neg hin]
            unfold L2.start
            simp only [List.map_cons, List.cons_append, List.getElem?_cons_succ]
            rw [List.getElem?_append_left (by simpa [hd.length] using hlt), List.getElem?_map, hv2]
            rfl
          · rw [List.getElem?_append_right (by simpa using hlt), List.getElem?_replicate] at hi
            split at hi <;> cases hi
    · intro σ' H' δ' r2 _ hp
      exact hq .non H' .non (r.trans r2) .non hp
    · intro v2 H' d2 r2 hv2 hp
      exact hq v2 H' d2 (r.trans r2) hv2 hp
    · intro _ _ _ _ _ z
      exact z.elim
    · intro _ _ _ _ _ z
      exact z.elim
    · obtain ⟨r2, e, xs, hx⟩ := ho
      exact ⟨r.trans r2, e, xs, hx⟩
/-- f(lambda: e, ..): f's first row catches what the lambda raises; the rest goes on with that -/
def mHand (ns : List Str) (m : EM) (ma : AM) (n : Nat) (G : D → List D → (D → Prop) → (EX → Prop) → Prop) : EM := fun δ post ex =>
  ma δ (fun ds => ds.length = n ∧ m δ (fun _ => G .non ds post ex) (fun z => z.1 ∈ ns ∧ G (.err z.1 z.2) ds post ex)) ex
/-- the rest of the def, over what was caught and the other parameters -/
def restM (N : Nat) (i : Nat) (m : SM) : D → List D → (D → Prop) → (EX → Prop) → Prop := fun d ds post ex =>
  m ((none :: ds.map some ++ List.replicate (N - (ds.length + 1)) none).set i (some d)) { nx := fun _ => post .non, rt := post, ex := ex }
/-- what a def does that is handed a closure -/
def Handed (P : Program) (w : World) (K : PySem.W.Frag) (mg : Str → Option Value) (base : Heap) (k : Nat) (y : Str) (np : Nat) (kj : Nat) (CW : Addr) (G : D → List D → (D → Prop) → (EX → Prop) → Prop) : Prop :=
  ∃ f0 fd a, ∃ ps : List Str, mg y = some (.ref f0) ∧ PySem.W.keepIn K (.ref f0) = true ∧ Binds K fd (a :: ps) [] ∧ ps.length = np ∧
  ∀ {A : Around} {outer : List PySem.Env} {s : Shared} {H : Hp} {args : Args} {us : List Value} {vs : List V} {ds : List D} {Q : VK} {E : XK} {f c' : Addr} {q : Str} {tl : XK → Hp → VK → Prop} {W : Wld} {post : D → Prop} {ex : EX → Prop},
    Room (kj + 1) A → Env0 P w K mg base A outer s H → BindsTo s fd args ((a :: ps).zip (.ref f :: us)) → Vals vs us → Clo P w K mg base k (frs outer) f c' q H s.heap tl → H c' = some (LamX.CodeO c' q) →
    W.tb = TabsOf.tb K → W.ok H → Das W K (W.cut H) vs ds → ds.length = ps.length →
    (∀ R1 : VK, (∀ v H1 d, W.R H H1 → Da W K (W.cut H1) v d → G d ds post ex → R1 v H1) → TCaught K CW tl H R1) →
    (∀ v H' d, W.R H H' → Da W K (W.cut H') v d → post d → Q v H') → XLink W K H E ex →
    codeAny (model P w) A (.call (.ref f0) args) (CR (L2.CX P w) outer P w H s Q E) s
theorem codeO_cut {W : Wld} {H : Hp} {c' : Addr} {q : Str} (ok : W.ok H) (hc : H c' = some (LamX.CodeO c' q)) : W.cut H c' = some (LamX.CodeO c' q) := by
  unfold Wld.cut
  rw [if_neg, hc]
  · rfl
  · intro z
    unfold Wld.M at z
    rcases List.mem_append.mp z with z | z
    · obtain ⟨p, hp, e⟩ := List.mem_map.mp z
      have h1 := ok.own p hp
      rw [e, hc] at h1
      exact (ok.ownO p hp).co _ _ (Option.some.inj h1).symm
    · match hd : W.dr, z with
      | some (d, l, c), z =>
        obtain ⟨r, t, lg, h1, _, _, h2, _, h3, _⟩ := ok.dr d l c hd
        unfold drM at z
        simp only [List.mem_cons, List.not_mem_nil, or_false] at z
        rcases z with rfl | rfl | rfl
        · rw [hc] at h1; cases h1
        · rw [hc] at h2; cases h2
        · rw [hc] at h3; cases h3
      | none, z => cases z
theorem px_hand {X : Cx} {E : XK} {y : Str} {np n kj kb : Nat} {CW : Addr} {ns : List Str} {G : D → List D → (D → Prop) → (EX → Prop) → Prop} {params : Arguments} {body : Expr} {scope : Scope} {lpos p pos : Pos} {es : List Expr} {m : EM} {ma : AM} {c Pt : Addr}
    (hG : Handed X.prog X.w X.K X.mg X.base (kb + 1) y np kj CW G) (hg : Gl X y) (hex : ∀ n ∈ ns, PySem.W.exmOne X.K (.ref (He.ga X.K n)) (.ref CW) = some true)
    (TB : LamX.TabB X.base X.mg c Pt) (hcode : X.env.code = .ref c) (hmT : (Pt, X.env.qual ++ "<lambda>") ∈ TabsOf.tb X.K) (hu : ∀ p ∈ TabsOf.tb X.K, p.1 = Pt → p.2 = X.env.qual ++ "<lambda>")
    (hr : Room (kj + 1) X.A) (L : LamX.LamS X.env.scope scope) (hx : Passes (L2.CX X.prog X.w) X E)
    (hbody : ∀ (A : Around) (outer : List PySem.Env) (s : Shared) (H : Hp) (E' : XK) (f c' : Addr), Room kb (A.deeper (LamX.lamEnv X scope s.heap.objs.size f c')) → PX (LamX.lamCx X A outer s H E' scope f c') E' body m)
    (ha : AX X E es ma) (hn : np = n := by rfl) (hdef : defaultsOf params X.env = ([], []) := by rfl)
    (hbind : ∀ (q : Str) (cl : List (Str × Addr)) (pm cv ctv : Value), bindArgs (PySem.W.kla_fn "<lambda>" q params body scope cl pm cv ctv) ⟨[], []⟩ = pure [] := by intros; rfl)
    (hdb : (y == ("__debug__" : Str)) = false := by decide)
    (he : starEach (.Lambda params body scope lpos :: es) X.env = (false, eval (.Lambda params body scope lpos) X.env) :: starEach es X.env := by rfl)
    (hpl : (backTo pos (starEach es X.env)).any (·.1) = false := by rfl) :
    PX X E (.Call (.Name y p) (.Lambda params body scope lpos :: es) [] pos) (mHand ns m ma n G) := by
  subst hn
  obtain ⟨f0, fd, a, ps, hm, kp, hb, hps, run⟩ := hG
  obtain ⟨ta, pa, eva⟩ := ha
  refine ⟨tS X.K E (mHand ns m ma np G), ⟨?_⟩, fun W σ H Q δ post ex hs ok hmm hq lx => ⟨W, δ, post, ex, hs, ok, hmm, hq, lx⟩⟩
  rintro pins s σ H Q I ⟨W, δ, post, ex, hs, ok, hmm, hq, lx⟩
  refine wpAny_Call_NameR (ld_glob I hg hm ?_ hdb)
  refine PySem.W.callWith_K (h₀ := X.base) I.ok.mod.kin kp ?_ he hpl
  refine args_cons (LamX.lam_make2 I TB hcode hmT hu (by rw [← hs.tb]; exact ok.tb) hdef (fun z hz h2 => I.ok.has z.1 (L.free z hz h2)) (fun f c' pm ctv H1 s1 I1 e1 t1 hf hn ho hc => ?_)) he
  have r1 : W.R H H1 := extN_R ok e1 (by rw [hs.tb]; exact t1)
  -- the closure stays there while the other arguments are worked out
  have hfl : f ≠ X.env.locals := by
    intro z
    obtain ⟨mm, ⟨o, es', ep, h1, h2, _⟩, _⟩ := I1.loc
    rw [← z, hf] at h1
    cases h1
    cases h2
  have hff : f ∉ X.fs := by
    intro z
    apply ho
    rcases I1.ok.stk with e | ⟨e, e2⟩
    · rw [e]; exact z
    · rw [e]
      simp only [frs, List.filterMap_cons, e2]
      exact List.mem_cons_of_mem _ z
  have I1p : Inv X (pins ++ [(f, PySem.W.kla_obj "<lambda>" (X.env.qual ++ "<lambda>") params body scope (cloFrom X.env.cells scope.names []) pm c' ctv)]) σ H1 s1 :=
    ⟨I1.ok, I1.os, I1.bare, I1.base, I1.loc, I1.cell, I1.free, I1.freeC, fun q hq => (by
      rw [← List.append_assoc] at hq
      rcases List.mem_append.mp hq with hq | hq
      · exact I1.pin q hq
      · rw [List.mem_singleton.mp hq]
        exact ⟨hf, hn, hfl, hff, fun v z => by cases z⟩), I1.hok, I1.len⟩
  refine thn (pa.run pos _ s1 σ H1 (fun vs H2 => W.R H1 H2 ∧ ∃ ds, Das W X.K (W.cut H2) vs ds ∧ (ds.length = np ∧ m δ (fun _ => G .non ds post ex) (fun z => z.1 ∈ ns ∧ G (.err z.1 z.2) ds post ex))) I1p
    (eva W σ H1 _ δ _ ex (hs.R r1) r1.ok hmm (fun vs H2 ds r hda hp => ⟨r, ds, hda, hp⟩) (lx.R r1))) ?_
  rintro us s2 ⟨vs, H2, I2, hvs, r2, ds, hda, hl, hmm2⟩
  have hp2 := I2.pin (f, _) (by rw [← List.append_assoc]; exact List.mem_append_right _ (List.mem_singleton.mpr rfl))
  have hc2 : H2 c' = some (LamX.CodeO c' (X.env.qual ++ "<lambda>")) := cut_sub _ _ (r2.ex _ _ (codeO_cut r1.ok hc))
  have C := clo_make (k := kb) (t := fun E' => tS X.K E' m) I2.unpinned L hp2.1 hp2.2.1 ho (hbind _ _ _ _ _) (fun A outer s H E' hr' => px_star (hbody A outer s H E' f c' hr'))
  have r12 := r1.trans r2
  refine ⟨I2.kIn, wpAny_call (codeAny_mono (run (E := E) (Q := Q) (f := f) (us := us) (vs := vs) hr I2.env0 ?_ hvs C hc2 hs.tb r2.ok hda (hl.trans hps.symm) ?_ (fun v H' d r hd hp => hq v H' d (r12.trans r) hd hp) (lx.R r12)) ?_)⟩
  · have := hb s2 (.ref f :: us) I2.kIn (by
      simp only [List.append_nil, List.length_cons]
      rw [hps, ← hl, ← hda.length, ← hvs.length])
    rw [List.append_nil] at this
    exact this
  · intro R1 hR
    refine ⟨W, δ, _, _, hs.R r12, r2.ok, hmm2, ?_, ?_⟩
    · intro v H' d r hv hp
      exact ⟨.non, rfl, hR .non H' .non r .non hp⟩
    · rintro ⟨n, fs⟩ C d H' ⟨r, rfl, xs, hda2, hdd⟩ ⟨hn2, hp⟩
      refine ⟨hex n hn2, fun a ha => ?_⟩
      have r3 : W.R H' (upd H' a (ExV (.ref (He.ga X.K n)) d a)) := R_new r.ok ha
      refine hR (.ref a) _ (.err n fs) (r.trans r3) (.err (dd := d) ⟨cut_new r.ok ha (fun _ z => nomatch z), ?_⟩ (hda2.R r3)) hp
      rcases hdd with ⟨rfl, e⟩ | ⟨dd, rfl, e⟩
      · left
        have e : fs = [] := e
        subst e
        exact ⟨rfl, rfl⟩
      · right
        exact ⟨dd, rfl, r3.ex _ _ e⟩
  · intro r s3 hres
    match r, hres with
    | .ok (.ret u), ⟨v, H3, e1, e2, e3, e4, e5, e6⟩ => exact ⟨v, H3, (I2.call' (ch := []) e1 e3 e4 e2 (fun _ z => nomatch z)).unpinned, e5, e6⟩
    | .error e, hxx => exact hx _ σ H2 s2 e s3 I2 hxx
theorem handed_of {N ps : List Str} {y a cn : Str} {sy : Stmt} {gy : He.Defn} {i : Nat} {p1 p2 p3 p4 p5 : Pos} {rest : List Stmt} {m : SM} {j np : Nat}
    (F : ∃ fd, FunD K x x (defArgs st) (defBody st) (defScope st) [] [] g fd) (S : FnScope ["work", "caught", "error"] ["work"] (defScope st)) (hva : Vis (defScope st) ("work" : Str))
    (hG : ∀ (X : Cx) (cdg : Value) (q : Str), X.mg = mg → X.K = K → LamX.GivesTo X ["work", "caught", "error"] x (defScope st) g cdg (defBody st) "work" q (TCaught K CW))
    (hm : mg x = some (.ref g)) (hbw : ∀ (kV doc pm : Value) (an : Option Addr) (cdv ct : Value) (us : List Value), us.length = (["work"] : List Str).length → bindArgs (PySem.W.fnOf x x (defArgs st) (defBody st) (defScope st) .none kV doc pm an cdv ct) ⟨us, []⟩ = pure ((["work"] : List Str).zip us))
    (hmy : mg y = some (.ref (He.fAd K gy))) (Fy : ∃ fd, FunD K y y (defArgs sy) (defBody sy) (defScope sy) [] [] (He.fAd K gy) fd) (Sy : FnScope N (a :: ps) (defScope sy))
    (hby : ∀ (kV doc pm : Value) (an : Option Addr) (cdv ct : Value) (us : List Value), us.length = (a :: ps).length → bindArgs (PySem.W.fnOf y y (defArgs sy) (defBody sy) (defScope sy) .none kV doc pm an cdv ct) ⟨us, []⟩ = pure ((a :: ps).zip us))
    (hbody : defBody sy = .Assign [.Name cn p1] (.Call (.Name x p2) [.Name a p3] [] p4) p5 :: rest)
    (hrest : ∀ (A : Around) (outer : List PySem.Env) (s : Shared) (H : Hp) (E : XK), Room j (cxF P w K mg base N y sy gy A outer s H E).A → BX (cxF P w K mg base N y sy gy A outer s H E) E rest m)
    (hN0 : N[0]? = some a) (hva0 : Vis (defScope sy) a) (hN : N[i]? = some cn) (hl : L2.Loc (defScope sy) cn) (hgx : (defScope sy).names.lookup x = some .globalImplicit)
    (hkj : k + 1 ≤ j) (hps : ps.length = np) (hdb : (x == ("__debug__" : Str)) = false) (hda : (a == ("__debug__" : Str)) = false) (hdc : (a == ("__classdict__" : Str)) = false)
    (hsw : ∀ env, swapsWith (.Call (.Name x p2) [.Name a p3] [] p4) (some (.Name cn p1)) p5.line env = pure false)
    (he : ∀ env, starEach [.Name a p3] env = (false, eval (.Name a p3) env) :: starEach [] env) (hpl : ∀ env, (backTo p4 (starEach [] env)).any (·.1) = false) :
    Handed P w K mg base k y np j CW (restM N.length i m) := by
  obtain ⟨fd, F⟩ := F
  obtain ⟨fdy, Fy⟩ := Fy
  refine ⟨_, fdy, a, ps, hmy, Fy.kp, binds_fd Fy hby, hps, ?_⟩
  intro A outer s H args us vs ds Q E f c' q tl W post ex hr e0 hbt hv C hc tb ok hd hlen hstep hq lx
  exact hand_run (y := y) (m := m) F S hva hG hm (binds_fd F hbw) Fy Sy hN0 hva0 hN hl hgx hbody hrest hkj hdb hda hdc hsw he hpl hr e0 hbt hv C hc tb ok hd hlen hstep hq lx
theorem handed_mono {y : Str} {np kj : Nat} {G G' : D → List D → (D → Prop) → (EX → Prop) → Prop} (h : Handed P w K mg base k y np kj CW G) (mo : ∀ d ds post ex, G' d ds post ex → G d ds post ex) : Handed P w K mg base k y np kj CW G' := by
  obtain ⟨f0, fd, a, ps, h1, h2, h3, h4, run⟩ := h
  refine ⟨f0, fd, a, ps, h1, h2, h3, h4, ?_⟩
  intro A outer s H args us vs ds Q E f c' q tl W post ex hr e0 hbt hv C hc tb ok hd hlen hstep hq lx
  exact run hr e0 hbt hv C hc tb ok hd hlen (fun R1 hR => hstep R1 fun v H1 d r hda hg => hR v H1 d r hda (mo d ds post ex hg)) hq lx
end
end Fw
/-! # FwMore: repr of leaves, sorted pairs, slices, two things walked side by side -/
namespace Fw
open PySem PySem.Spec PyProof.Rows L2
open Evl (Ex)
variable [TabsOf]
def leafD : D → Bool
  | .non => true | .bl _ => true | .int _ => true | .str _ => true | _ => false
section
variable {X : Cx} {E : XK} {e : Expr} {m : AM} {k : Nat} {p pos : Pos}
theorem call_reprL : CallR X (.builtin "repr") (fun xs H Q => ∃ (v : V) (d : D) (W : Wld), xs = [v] ∧ Da W X.K (W.cut H) v d ∧ leafD d = true ∧ ReprOk d ∧ Q (.str (txt d)) H) := by
  intro pins s σ H xs us Q I r h
  obtain ⟨v, d, W, rfl, hv, hl, ok, q⟩ := h
  cases r with
  | cons r0 r =>
  cases r
  have hp := da_dp ok.pd hv.here
  obtain ⟨as, hr⟩ := Dp.reads I (toP d) v _ hp r0
  have hsz : (toP d).shown.length ≤ sizeLine := by
    rw [sizeLine_eq]
    exact ok.sz
  have q : Q (.str (toP d).shown) H := q
  have hs := ok.sh
  have fin : ∀ (tk : Nat) (u : Tok), EP X pins σ Q (.str (toP d).shown u) { s with toks := tk } := fun tk u => ⟨.str (toP d).shown, H, I.tok tk, ⟨_, rfl⟩, q⟩
  cases d with
  | non =>
    cases hr with
    | none => exact PySem.P.repr_of_none (fin _ _)
  | bl b =>
    cases hr with
    | bool b => exact PySem.P.repr_of_bool (by cases b <;> exact fin _ _)
  | int i =>
    cases hr with
    | int i t => exact PySem.P.repr_of_int (by simpa [PyData.showable, toP] using hs) (fin _ _)
  | str x =>
    cases hr with
    | str x t => exact PySem.P.repr_of_str (fin _ _) hsz
  | _ => cases hl
def fReprL (ds : List D) (z : D) : Prop := ∃ x, ds = [x] ∧ leafD x = true ∧ ReprOk x ∧ z = .str (txt x)
theorem px_reprL (hg : Gl X "repr") (hm : X.mg "repr" = none) (ha : AX X E [e] m) (he : starEach [e] X.env = (false, eval e X.env) :: starEach [] X.env := by rfl) (hpl : (backTo pos (starEach [] X.env)).any (·.1) = false := by rfl) :
    PX X E (.Call (.Name "repr" p) [e] [] pos) (mCB fReprL m) := px_callB call_reprL (fun W => by
  rintro H xs ds z Q ok hx ⟨x, rfl, hl, ho, rfl⟩ q
  cases hx with
  | cons h r =>
  cases r
  exact ⟨_, x, W, rfl, h, hl, ho, q _ H (.refl ok) (.str _)⟩) hg hm (by decide +kernel) ha (by decide) (by decide) he hpl
end
/-! ## sorted(x), x a list or a tuple of pairs of ints -/
theorem seq_there {X : Cx} {pins : List (Addr × Obj)} {σ : L2.St} {H : Hp} {s : Shared} {a : Addr} {xs : List V} (I : Inv X pins σ H s) (h : SqL X.K H a xs ∨ SqT X.K H a xs) :
    ∃ (T : String) (o : Obj) (items : List Value) (n : Nat), (T = "list" ∨ T = "tuple") ∧ s.heap.get? a = some o ∧ o.cls = .type T ∧ o.data = .seq items.toArray n ∧ items.length ≤ sizeLine ∧ Vals xs items := by
  rcases h with ((h | ⟨o, h⟩) | ⟨o, its, n, h1, h2, _, h3, h4, h5⟩) | ((h | ⟨o, h⟩) | ⟨o, its, n, h1, h2, h3, h4, h5⟩)
  · obtain ⟨h1, its, n, h2, h3⟩ := I.hok a _ h
    exact ⟨"list", _, its, n, .inl rfl, h3, rfl, rfl, by rw [← h2.length]; exact h1, h2⟩
  · obtain ⟨_, h1, its, n, h2, h3⟩ := I.hok a _ h
    exact ⟨"list", _, its, n, .inl rfl, h3, rfl, rfl, by rw [← h2.length]; exact h1, h2⟩
  · exact ⟨"list", o, its.toList, n, .inl rfl, I.kIn a o h1, h2, by simpa using h3, by simpa using h4, h5⟩
  · obtain ⟨h1, its, h2, o, h3, h4, n, h5⟩ := I.hok a _ h
    exact ⟨"tuple", o, its, n, .inr rfl, h3, h4, h5, by rw [← h2.length]; exact h1, h2⟩
  · obtain ⟨_, h1, its, h2, o, h3, h4, n, h5⟩ := I.hok a _ h
    exact ⟨"tuple", o, its, n, .inr rfl, h3, h4, h5, by rw [← h2.length]; exact h1, h2⟩
  · exact ⟨"tuple", o, its.toList, n, .inr rfl, I.kIn a o h1, h2, by simpa using h3, by simpa using h4, h5⟩
theorem tup_there {X : Cx} {pins : List (Addr × Obj)} {σ : L2.St} {H : Hp} {s : Shared} {a : Addr} {xs : List V} (I : Inv X pins σ H s) (h : SqT X.K H a xs) :
    ∃ (o : Obj) (items : List Value) (n : Nat), s.heap.get? a = some o ∧ o.cls = .type "tuple" ∧ o.data = .seq items.toArray n ∧ Vals xs items := by
  rcases h with (h | ⟨o, h⟩) | ⟨o, its, n, h1, h2, h3, h4, h5⟩
  · obtain ⟨h1, its, h2, o, h3, h4, n, h5⟩ := I.hok a _ h
    exact ⟨o, its, n, h3, h4, h5, h2⟩
  · obtain ⟨_, h1, its, h2, o, h3, h4, n, h5⟩ := I.hok a _ h
    exact ⟨o, its, n, h3, h4, h5, h2⟩
  · exact ⟨o, its.toList, n, I.kIn a o h1, h2, by simpa using h3, h5⟩
theorem vals_refs : ∀ ts : List Addr, Vals (ts.map V.ref) (ts.map Value.ref)
  | [] => .nil
  | t :: ts => .cons rfl (vals_refs ts)
theorem vals_mem {xs : List V} {us : List Value} (h : Vals xs us) {u : Value} (hu : u ∈ us) : ∃ x ∈ xs, L2.RelV x u := by
  induction h with
  | nil => cases hu
  | cons r _ ih =>
    rcases List.mem_cons.mp hu with rfl | hu
    · exact ⟨_, List.mem_cons_self .., r⟩
    · obtain ⟨x, hx, r⟩ := ih hu
      exact ⟨x, List.mem_cons_of_mem _ hx, r⟩
theorem call_sortedSq {X : Cx} : CallR X (.builtin "sorted") (fun vs H Q => ∃ (a : Addr) (xs : List V) (k : Addr → Int × Int), vs = [.ref a] ∧ (SqL X.K H a xs ∨ SqT X.K H a xs) ∧ (∀ x ∈ xs, ∃ t, x = .ref t ∧ SqT X.K H t [.int (k t).1, .int (k t).2]) ∧
    ∀ (ts : List Addr) (p : Addr), (ts.map V.ref).Perm xs → ts.Pairwise (fun t u => SrtO.lexB (k u) (k t) = false) → H p = none → Q (.ref p) (upd H p (.lst (ts.map V.ref)))) := by
  intro pins s σ H xs us Q I r h
  obtain ⟨a, xs, k, rfl, hsq, hp, q⟩ := h
  cases r with
  | cons r0 r =>
  cases r
  cases r0
  have hob := seq_there I hsq
  obtain ⟨T, o, items, n, hT, ho, hc, hd, hsz, hv⟩ := hob
  have hpair : ∀ v ∈ items, ∃ t, v = .ref t ∧ Srt.IsPair s.heap v (k t).1 (k t).2 := by
    intro v hvm
    obtain ⟨x, hx, rx⟩ := vals_mem hv hvm
    obtain ⟨t, rfl, ht⟩ := hp x hx
    cases rx
    obtain ⟨o, its, n, e1, e2, e3, hi⟩ := tup_there I ht
    cases hi with
    | cons ra hi =>
    cases hi with
    | cons rb hi =>
    cases hi
    obtain ⟨t1, rfl⟩ := ra
    obtain ⟨t2, rfl⟩ := rb
    exact ⟨t, rfl, t, o, t1, t2, n, rfl, e1, e2, e3⟩
  let kv : Value → Int × Int := fun v => match v with | .ref t => k t | _ => (0, 0)
  refine call_function_any (b := Builtin.sorted) (by rfl) plain_sorted entry_sorted (by rfl) ?_
  show wpAny _ _ (do
      checkCount "sorted" 1 1 1
      let z ← collect (.ref a)
      let l ← newList z
      let _ ← holding [l] (call (.builtin "list.sort") [l] [])
      PySem.ret l) _ _ _
  refine wpAny_bind (wpAny_pure ?_)
  refine wpAny_bind (wpAny_collect_seq a hT ho hc hd (fun h1 k1 => ?_) (by simpa using hsz))
  have I1 := I.kept (t' := s.toks) k1
  refine wpAny_bind (wpAny_newList ?_ (by simpa using hsz))
  have hlen := hv.length
  have I2 := I1.lnew (t' := s.toks) hv (by rw [hlen]; exact hsz)
  have hnew : (h1.push { cls := .type "list", data := .seq (List.toArray items) }).get? h1.objs.size = some (seqObj "list" (List.toArray items) 0) := Heap.get?_push_at rfl rfl
  have kp : ∀ (b : Addr) (o : Obj), h1.get? b = some o → (h1.push { cls := .type "list", data := .seq (List.toArray items) }).get? b = some o := fun b o hb => Heap.get?_push_of_some _ hb
  refine wpAny_bind (wpAny_holding (wpAny_call_entry slot_list_sort ⟨_, hnew, rfl⟩ entry_list_sort ?_ (args_list_sort _)))
  refine SrtO.list_sort_ord (SrtO.swo_lex kv) hnew (by simpa using hsz) (fun h2 => SrtO.pairs_sortableO (by omega) (fun v hvm => ?_) (fun o ho z => ?_)) (fun out hs hb => ?_)
  · obtain ⟨t, rfl, a2, o2, t2, u2, m2, e1, e2, e3, e4⟩ := hpair v (by simpa using hvm)
    exact ⟨a2, o2, t2, u2, m2, e1, kp _ _ (k1 _ _ e2), e3, e4⟩
  · have ho : (h1.push { cls := .type "list", data := .seq (List.toArray items) }).get? h1.objs.size = some o := ho
    rw [hnew] at ho
    cases ho
    exact absurd z (by intro h; injection h with h; exact absurd h (by decide))
  · refine ⟨.none, rfl, wpAny_pure ?_⟩
    have hfr := I1.fresh
    have hrefs : ∃ ts : List Addr, out = ts.map Value.ref := by
      have : ∀ v ∈ out, ∃ t, v = Value.ref t := fun v hvm => by
        obtain ⟨t, e, _⟩ := hpair v (by simpa using hb.perm.mem_iff.mp hvm)
        exact ⟨t, e⟩
      clear hs hb
      induction out with
      | nil => exact ⟨[], rfl⟩
      | cons v out ih =>
        obtain ⟨t, rfl⟩ := this v (List.mem_cons_self ..)
        obtain ⟨ts, rfl⟩ := ih fun v hv => this v (List.mem_cons_of_mem _ hv)
        exact ⟨t :: ts, rfl⟩
    obtain ⟨ts, rfl⟩ := hrefs
    have htx : ∃ tx : List Addr, xs = tx.map V.ref ∧ items = tx.map Value.ref := by
      clear hs hb hpair I2 hnew kp hd hsz hlen hsq q
      induction hv with
      | nil => exact ⟨[], rfl, rfl⟩
      | cons r _ ih =>
        obtain ⟨t, rfl, _⟩ := hp _ (List.mem_cons_self ..)
        cases r
        obtain ⟨tx, rfl, rfl⟩ := ih fun x hx => hp x (List.mem_cons_of_mem _ hx)
        exact ⟨t :: tx, rfl, rfl⟩
    obtain ⟨tx, rfl, rfl⟩ := htx
    have hperm : ts.Perm tx := by
      have := hb.perm.map (fun v : Value => match v with | .ref t => t | _ => 0)
      simpa [Function.comp_def] using this
    have hlt : ∀ (b : Addr) (o : Obj), (h1.push { cls := .type "list", data := .seq (List.toArray (tx.map Value.ref)) }).get? b = some o → b < (h1.push { cls := .type "list", data := .seq (List.toArray (tx.map Value.ref)) }).objs.size := fun b o hb => Decidable.byContradiction fun hh => by
      unfold Heap.get? at hb
      rw [Array.getElem?_eq_none (Nat.not_lt.mp hh)] at hb
      cases hb
    obtain ⟨e, he⟩ := sortedHeap_at (out := (ts.map Value.ref).toArray) hnew
    have I3 := I2.write (x := h1.objs.size) (e := h1.objs.size) (o := .lst (ts.map V.ref)) (t' := s.toks) (h' := sortedHeap _ h1.objs.size (tx.map Value.ref) (ts.map Value.ref).toArray) (by show Mut (upd H h1.objs.size _ h1.objs.size); rw [upd_same]; trivial) (.inl rfl)
      (fun b u hne hbu => by rw [sortedHeap_old hne (hlt b u hbu)]; exact hbu) ⟨_, he⟩
      ⟨by rw [List.length_map, hperm.length_eq]; simpa using hsz, ts.map Value.ref, e, vals_refs ts, he⟩
    refine ⟨.ref h1.objs.size, _, I3, rfl, ?_⟩
    have eu : upd (upd H h1.objs.size (.lst (tx.map V.ref))) h1.objs.size (.lst (ts.map V.ref)) = upd H h1.objs.size (.lst (ts.map V.ref)) := by
      funext b
      by_cases hb2 : b = h1.objs.size
      · subst hb2; rw [upd_same, upd_same]
      · rw [upd_ne hb2, upd_ne hb2, upd_ne hb2]
    show Q (V.ref h1.objs.size) (upd (upd H h1.objs.size (.lst (tx.map V.ref))) h1.objs.size (.lst (ts.map V.ref)))
    rw [eu]
    exact q ts _ (hperm.map _) (by have := hs; rw [SrtO.Srtd, List.pairwise_map] at this; exact this) hfr

/-- pairs in sequence -/
def insP (a : Int × Int) : List (Int × Int) → List (Int × Int)
  | [] => [a]
  | b :: l => if SrtO.lexB b a then b :: insP a l else a :: b :: l
def srtP : List (Int × Int) → List (Int × Int)
  | [] => []
  | a :: l => insP a (srtP l)
abbrev SortedP (l : List (Int × Int)) : Prop := l.Pairwise fun a b => SrtO.lexB b a = false
theorem insP_perm (a : Int × Int) : ∀ l, (insP a l).Perm (a :: l)
  | [] => .refl _
  | b :: l => by
    unfold insP
    split
    · exact ((insP_perm a l).cons b).trans (.swap a b l)
    · exact .refl _
theorem lexB_f {a b : Int × Int} : SrtO.lexB a b = false ↔ b.1 < a.1 ∨ b.1 = a.1 ∧ b.2 ≤ a.2 := by
  rw [Bool.eq_false_iff, Ne, SrtO.lexB_iff]
  omega
theorem insP_sorted (a : Int × Int) : ∀ l, SortedP l → SortedP (insP a l)
  | [], _ => by simp [insP, SortedP]
  | b :: l, h => by
    unfold insP
    have hb := List.pairwise_cons.mp h
    split
    · rename_i hlt
      refine List.pairwise_cons.mpr ⟨fun c hc => ?_, insP_sorted a l hb.2⟩
      rcases List.mem_cons.mp ((insP_perm a l).mem_iff.mp hc) with rfl | hc
      · rw [lexB_f]
        have := SrtO.lexB_iff.mp hlt
        omega
      · exact hb.1 c hc
    · rename_i hlt
      have hlt := lexB_f.mp (by simpa using hlt)
      refine List.pairwise_cons.mpr ⟨fun c hc => ?_, h⟩
      rw [lexB_f]
      rcases List.mem_cons.mp hc with rfl | hc
      · omega
      · have := lexB_f.mp (hb.1 c hc)
        omega
theorem srtP_perm : ∀ l, (srtP l).Perm l
  | [] => .refl _
  | a :: l => (insP_perm a _).trans ((srtP_perm l).cons a)
theorem srtP_sorted : ∀ l, SortedP (srtP l)
  | [] => .nil
  | a :: l => insP_sorted a _ (srtP_sorted l)
theorem sortedP_eq : ∀ {l m : List (Int × Int)}, l.Perm m → SortedP l → SortedP m → l = m
  | [], m, p, _, _ => (List.nil_perm.mp p).symm
  | a :: l, [], p, _, _ => absurd p.length_eq (by simp)
  | a :: l, b :: m, p, h, k => by
    have ha := List.pairwise_cons.mp h
    have hb := List.pairwise_cons.mp k
    have e : a = b := by
      have h1 : a ∈ b :: m := p.mem_iff.mp (List.mem_cons_self ..)
      have h2 : b ∈ a :: l := p.mem_iff.mpr (List.mem_cons_self ..)
      rcases List.mem_cons.mp h1 with e | h1
      · exact e
      rcases List.mem_cons.mp h2 with e | h2
      · exact e.symm
      have h3 := lexB_f.mp (hb.1 a h1)
      have h4 := lexB_f.mp (ha.1 b h2)
      exact Prod.ext (by omega) (by omega)
    subst e
    rw [sortedP_eq ((List.perm_cons a).mp p) ha.2 hb.2]
/-- a pair as data -/
def pairD (p : Int × Int) : D := .tup [.int p.1, .int p.2]
def fSorted (ds : List D) (z : D) : Prop := ∃ x l, ds = [x] ∧ itemsD x = some (l.map pairD) ∧ z = .lst ((srtP l).map pairD)
section
variable {X : Cx} {E : XK} {e : Expr} {m : AM} {k : Nat} {p pos : Pos}
theorem da_pairs {W : Wld} {K : PySem.W.Frag} {H : Hp} : ∀ {xs : List V} {l : List (Int × Int)}, Das W K H xs (l.map pairD) → ∃ ts : List Addr, xs = ts.map V.ref ∧ ts.length = l.length ∧ ∀ q ∈ ts.zip l, SqT K H q.1 [.int q.2.1, .int q.2.2]
  | [], [], _ => ⟨[], rfl, rfl, fun _ z => nomatch z⟩
  | [], _ :: _, h => nomatch h
  | _ :: _, [], h => nomatch h
  | x :: xs, q :: l, h => by
    cases h with
    | cons h1 h2 =>
    obtain ⟨ts, rfl, hl, ht⟩ := da_pairs h2
    cases h1 with
    | @tup a ys _ hs r =>
    cases r with
    | cons r1 r =>
    cases r with
    | cons r2 r =>
    cases r
    cases r1
    cases r2
    exact ⟨a :: ts, rfl, by simp [hl], fun z hz => by
      rcases List.mem_cons.mp hz with rfl | hz
      · exact hs
      · exact ht z hz⟩
theorem pair_uniq {X : Cx} {pins : List (Addr × Obj)} {σ : L2.St} {H : Hp} {s : Shared} {t : Addr} {a b : Int × Int} (I : Inv X pins σ H s) (h : SqT X.K H t [.int a.1, .int a.2]) (k : SqT X.K H t [.int b.1, .int b.2]) : a = b := by
  obtain ⟨o, its, n, e1, e2, e3, hi⟩ := tup_there I h
  obtain ⟨o', its', n', f1, f2, f3, hj⟩ := tup_there I k
  rw [e1] at f1
  cases f1
  rw [e3] at f3
  have e : its = its' := by
    injection f3 with z _
    simpa using congrArg Array.toList z
  subst e
  cases hi with
  | cons ra hi =>
  cases hi with
  | cons rb hi =>
  cases hj with
  | cons rc hj =>
  cases hj with
  | cons rd hj =>
  obtain ⟨t1, rfl⟩ := ra
  obtain ⟨t2, rfl⟩ := rb
  obtain ⟨t3, e3⟩ := rc
  obtain ⟨t4, e4⟩ := rd
  injection e3 with e3 _
  injection e4 with e4 _
  exact Prod.ext e3 e4
theorem zip_lookP : ∀ {ts : List Addr} {l : List (Int × Int)}, ts.length = l.length → ∀ t ∈ ts, ∃ q, (ts.zip l).lookup t = some q ∧ (t, q) ∈ ts.zip l
  | [], _, _, _, h => nomatch h
  | _ :: _, [], hl, _, _ => by simp at hl
  | u :: ts, q :: l, hl, t, ht => by
    by_cases e : t = u
    · subst e
      exact ⟨q, by simp [List.lookup], List.mem_cons_self ..⟩
    · obtain ⟨q', h1, h2⟩ := zip_lookP (ts := ts) (l := l) (by simpa using hl) t ((List.mem_cons.mp ht).resolve_left e)
      refine ⟨q', ?_, List.mem_cons_of_mem _ h2⟩
      have : (t == u) = false := by simpa using e
      simp [List.lookup, this, h1]
theorem zip_map_eq {k : Addr → Int × Int} : ∀ {ts : List Addr} {l : List (Int × Int)}, ts.length = l.length → (∀ q ∈ ts.zip l, k q.1 = q.2) → ts.map k = l
  | [], [], _, _ => rfl
  | [], _ :: _, hl, _ => by simp at hl
  | _ :: _, [], hl, _ => by simp at hl
  | t :: ts, q :: l, hl, h => by
    rw [List.map_cons, h (t, q) (List.mem_cons_self ..), zip_map_eq (by simpa using hl) fun z hz => h z (List.mem_cons_of_mem _ hz)]
theorem zip_map_self {k : Addr → Int × Int} : ∀ {ts : List Addr} {q : Addr × (Int × Int)}, q ∈ ts.zip (ts.map k) → q.1 ∈ ts ∧ q.2 = k q.1
  | [], _, h => nomatch h
  | t :: ts, q, h => by
    rcases List.mem_cons.mp h with rfl | h
    · exact ⟨List.mem_cons_self .., rfl⟩
    · obtain ⟨h1, h2⟩ := zip_map_self h
      exact ⟨List.mem_cons_of_mem _ h1, h2⟩
theorem call_sortedD : CallR X (.builtin "sorted") (fun vs H Q => ∃ (Hc : Hp) (a : Addr) (ts0 : List Addr) (l : List (Int × Int)), vs = [.ref a] ∧ (∀ t xs, SqT X.K Hc t xs → SqT X.K H t xs) ∧ (SqL X.K H a (ts0.map V.ref) ∨ SqT X.K H a (ts0.map V.ref)) ∧ ts0.length = l.length ∧ (∀ q ∈ ts0.zip l, SqT X.K Hc q.1 [.int q.2.1, .int q.2.2]) ∧
    ∀ (ts : List Addr) (p : Addr), ts.length = (srtP l).length → (∀ q ∈ ts.zip (srtP l), SqT X.K Hc q.1 [.int q.2.1, .int q.2.2]) → H p = none → Q (.ref p) (upd H p (.lst (ts.map V.ref)))) := by
  intro pins s σ H xs us Q I r h
  obtain ⟨Hc, a, ts0, l, rfl, up, hsq, hl, hp, q⟩ := h
  let k : Addr → Int × Int := fun t => ((ts0.zip l).lookup t).getD (0, 0)
  have hk : ∀ t ∈ ts0, SqT X.K Hc t [.int (k t).1, .int (k t).2] := fun t ht => by
    obtain ⟨z, h1, h2⟩ := zip_lookP hl t ht
    have : k t = z := by show ((ts0.zip l).lookup t).getD (0, 0) = z; rw [h1]; rfl
    rw [this]
    exact hp _ h2
  have hkl : ts0.map k = l := zip_map_eq hl fun z hz => pair_uniq I (up _ _ (hk z.1 (List.of_mem_zip hz).1)) (up _ _ (hp z hz))
  refine call_sortedSq pins s σ H _ us Q I r ⟨a, ts0.map V.ref, k, rfl, hsq, fun x hx => ?_, fun ts p perm pw hn => ?_⟩
  · obtain ⟨t, ht, rfl⟩ := List.mem_map.mp hx
    exact ⟨t, rfl, up _ _ (hk t ht)⟩
  · have hperm : ts.Perm ts0 := by
      have := perm.map (fun v : V => match v with | .ref t => t | _ => 0)
      simpa [Function.comp_def] using this
    have he : ts.map k = srtP l := sortedP_eq ((hperm.map k).trans (by rw [hkl]; exact (srtP_perm l).symm)) (by rw [SortedP, List.pairwise_map]; exact pw) (srtP_sorted l)
    refine q ts p (by rw [← he, List.length_map]) (fun z hz => ?_) hn
    rw [← he] at hz
    obtain ⟨h1, h2⟩ := zip_map_self hz
    rw [h2]
    exact hk _ (hperm.mem_iff.mp h1)
theorem das_of_pairs {W : Wld} {K : PySem.W.Frag} {H : Hp} : ∀ {ts : List Addr} {l : List (Int × Int)}, ts.length = l.length → (∀ q ∈ ts.zip l, SqT K H q.1 [.int q.2.1, .int q.2.2]) → Das W K H (ts.map V.ref) (l.map pairD)
  | [], [], _, _ => .nil
  | [], _ :: _, hl, _ => by simp at hl
  | _ :: _, [], hl, _ => by simp at hl
  | t :: ts, q :: l, hl, h => .cons (.tup (h (t, q) (List.mem_cons_self ..)) (.cons (.int _) (.cons (.int _) .nil))) (das_of_pairs (by simpa using hl) fun z hz => h z (List.mem_cons_of_mem _ hz))
theorem px_sorted (hg : Gl X "sorted") (hm : X.mg "sorted" = none) (ha : AX X E [e] m) (he : starEach [e] X.env = (false, eval e X.env) :: starEach [] X.env := by rfl) (hpl : (backTo pos (starEach [] X.env)).any (·.1) = false := by rfl) :
    PX X E (.Call (.Name "sorted" p) [e] [] pos) (mCB fSorted m) := px_callB call_sortedD (fun W => by
  rintro H xs ds z Q ok hx ⟨x, l, rfl, hi, rfl⟩ q
  cases hx with
  | cons h r =>
  cases r
  cases h <;> first
    | (cases hi; done)
    | skip
  case lst h r =>
    cases hi
    obtain ⟨ts0, rfl, hl, hp⟩ := da_pairs r
    exact ⟨W.cut H, _, ts0, l, rfl, fun _ _ z => Evl.ex_t cut_sub z, .inl (Evl.sq_of (cut_sub _ _ h)), hl, hp, fun ts p hlt hps hn => q _ _ (R_new ok hn) (da_new ok hn (das_of_pairs hlt hps))⟩
  case tup h r =>
    cases hi
    obtain ⟨ts0, rfl, hl, hp⟩ := da_pairs r
    exact ⟨W.cut H, _, ts0, l, rfl, fun _ _ z => Evl.ex_t cut_sub z, .inr (Evl.ex_t cut_sub h), hl, hp, fun ts p hlt hps hn => q _ _ (R_new ok hn) (da_new ok hn (das_of_pairs hlt hps))⟩) hg hm (by decide +kernel) ha (by decide) (by decide) he hpl
end
/-! ## comprehensions over pairs -/
section
variable {X : Cx} {E : XK} {elt it c : Expr} {scope : Scope} {pos : Pos} {im : IM} {mt : TM} {me : EM} {x y : Str} {i j : Nat} {p1 p2 p3 : Pos} {kk : Nat} {tpos : Pos}
theorem px_lc2 (hN : X.N.Nodup) (hi : IX X E (.Tuple [.Name x p1, .Name y p2] kk tpos) it im) (he : InBlk X scope fun Y => PX Y L2.E0 elt me) (hc : X.calm = true := by rfl) (ok : blkB X.N X.env.scope scope [(x, i), (y, j)] = true := by kernel_rfl)
    (hx : scope.names.lookup x = some .local := by kernel_rfl) (hy : scope.names.lookup y = some .local := by kernel_rfl) (hs : ∀ x, foldedSetIterable it X.env x = pure x := by intro _; rfl) :
    PX X E (.ListComp elt [⟨.Tuple [.Name x p1, .Name y p2] kk tpos, it, [], 0⟩] scope pos) (mLc im (gTp 2 (gCn (gNm i) (gCn (gNm j) gNl))) tTT me [i, j]) := by
  have b := blk_ok ok
  exact px_lc hc hN hi b (fun s H C cl fp => pg_tup (X := X.blk s H scope (compEnvC scope cl C X.env) fp) hc (pgs_cons (pg_name hN (b.ix _ List.mem_cons_self) (.inl (lookup_relabel_local hx)) (.inr (lookup_relabel_local hx))) (pgs_cons (pg_name hN (b.ix _ (List.mem_cons_of_mem _ List.mem_cons_self)) (.inl (lookup_relabel_local hy)) (.inr (lookup_relabel_local hy))) pgs_nil))) (fun _ => evgw_two List.mem_cons_self (List.mem_cons_of_mem _ List.mem_cons_self)) (fun _ _ _ _ _ => pts_nil) (fun _ => evt_yes) he hs
theorem px_lc2t (hN : X.N.Nodup) (hi : IX X E (.Tuple [.Name x p1, .Name y p2] kk tpos) it im) (ht : InBlk X scope fun Y => TX Y L2.E0 c mt) (he : InBlk X scope fun Y => PX Y L2.E0 elt me) (hc : X.calm = true := by rfl) (ok : blkB X.N X.env.scope scope [(x, i), (y, j)] = true := by kernel_rfl)
    (hx : scope.names.lookup x = some .local := by kernel_rfl) (hy : scope.names.lookup y = some .local := by kernel_rfl) (hs : ∀ x, foldedSetIterable it X.env x = pure x := by intro _; rfl) :
    PX X E (.ListComp elt [⟨.Tuple [.Name x p1, .Name y p2] kk tpos, it, [c], 0⟩] scope pos) (mLc im (gTp 2 (gCn (gNm i) (gCn (gNm j) gNl))) mt me [i, j]) := by
  have b := blk_ok ok
  exact px_lc hc hN hi b (fun s H C cl fp => pg_tup (X := X.blk s H scope (compEnvC scope cl C X.env) fp) hc (pgs_cons (pg_name hN (b.ix _ List.mem_cons_self) (.inl (lookup_relabel_local hx)) (.inr (lookup_relabel_local hx))) (pgs_cons (pg_name hN (b.ix _ (List.mem_cons_of_mem _ List.mem_cons_self)) (.inl (lookup_relabel_local hy)) (.inr (lookup_relabel_local hy))) pgs_nil))) (fun _ => evgw_two List.mem_cons_self (List.mem_cons_of_mem _ List.mem_cons_self)) (fun s H C cl fp => pts_one (tx_star (ht s H C cl fp))) (fun _ => evt_star) he hs
end
/-! ## zip(a, b), two lists -/
def zipD : List D → List D → List D
  | a :: as, b :: bs => .tup [a, b] :: zipD as bs
  | _, _ => []
theorem zipD_len : ∀ (as bs : List D), (zipD as bs).length = min as.length bs.length
  | [], _ => by simp [zipD]
  | _ :: _, [] => by simp [zipD]
  | a :: as, b :: bs => by simp [zipD, zipD_len as bs]
theorem zipD_at : ∀ (as bs : List D) (i : Nat) (d : D), (zipD as bs)[i]? = some d → ∃ a b, as[i]? = some a ∧ bs[i]? = some b ∧ d = .tup [a, b]
  | [], _, _, _, h => by simp [zipD] at h
  | _ :: _, [], _, _, h => by simp [zipD] at h
  | a :: as, b :: bs, 0, d, h => by
    simp [zipD] at h
    exact ⟨a, b, rfl, rfl, h.symm⟩
  | a :: as, b :: bs, i + 1, d, h => zipD_at as bs i d h
theorem src_zip {W : Wld} {K : PySem.W.Frag} {H0 : Hp} {a b : Addr} {xs ys : List V} {ds es : List D} (h : W.cut H0 a = some (.lst xs)) (r : Das W K (W.cut H0) xs ds) (h' : W.cut H0 b = some (.lst ys)) (r' : Das W K (W.cut H0) ys es) : Src W K (Itz K a b) (zipD ds es) H0 := by
  intro W' H sm ok e
  have h1 : H a = some (.lst xs) := cut_sub _ _ (e _ _ h)
  have h2 : H b = some (.lst ys) := cut_sub _ _ (e _ _ h')
  have rr := (r.sm sm).up e
  have rr' := (r'.sm sm).up e
  refine ⟨fun i d hd => ?_, fun i hi => ⟨xs, ys, Evl.sq_of h1, Evl.sq_of h2, by rw [zipD_len] at hi; rw [r.length, r'.length]; omega⟩⟩
  obtain ⟨d1, d2, hd1, hd2, rfl⟩ := zipD_at ds es i d hd
  obtain ⟨v, hv, hda⟩ := rr.getD hd1
  obtain ⟨u, hu, hdb⟩ := rr'.getD hd2
  refine ⟨⟨xs, ys, v, u, Evl.sq_of h1, Evl.sq_of h2, hv, hu⟩, fun x H' => ?_⟩
  rintro ⟨T, y, z, rfl, hT, rfl, hx, hy⟩
  have hx := hx xs (Evl.sq_of h1)
  have hy := hy ys (Evl.sq_of h2)
  rw [hv] at hx
  rw [hu] at hy
  cases hx
  cases hy
  refine ⟨R_new ok hT, ?_⟩
  exact da_newT ok hT (.cons hda (.cons hdb .nil))
def iZipD (m : AM) : IM := fun δ post ex => m δ (fun ds => ∃ xs ys, ds = [.lst xs, .lst ys] ∧ post (zipD xs ys)) ex
theorem ix_zip {X : Cx} {E : XK} {e e2 : Expr} {m : AM} {p pos : Pos} {elts : List Expr} {kk : Nat} {tpos : Pos} (hg : Gl X "zip") (hm : X.mg "zip" = none) (ha : AX X E [e, e2] m) (hs : starEach [e, e2] X.env = (false, eval e X.env) :: starEach [e2] X.env := by rfl)
    (hpl : (backTo pos (starEach [e2] X.env)).any (·.1) = false := by rfl) :
    IX X E (.Tuple elts kk tpos) (.Call (.Name "zip" p) [e, e2] [] pos) (iZipD m) := by
  obtain ⟨t, q, ev⟩ := ha
  refine ⟨_, pi_zip hg hm q hs hpl, fun W σ H R δ post ex hs ok hm hq lx => ?_⟩
  refine ev W σ H _ δ _ ex hs ok hm ?_ lx
  rintro vs H1 ds r1 hv ⟨xs, ys, rfl, hp⟩
  cases hv with
  | cons h r =>
  cases r with
  | cons h' r =>
  cases r
  cases h with
  | lst h1 h2 =>
  cases h' with
  | lst h3 h4 => exact ⟨_, _, _, _, rfl, Evl.sq_of (cut_sub _ _ h1), Evl.sq_of (cut_sub _ _ h3), hq _ H1 _ r1 (src_zip h1 h2 h3 h4) hp⟩
/-! ## slices of lists and tuples -/
abbrev OM := Env → (Option Int → Prop) → (EX → Prop) → Prop
def EvOp (W : Wld) (K : PySem.W.Frag) (E : XK) (t : TO) (m : OM) : Prop := ∀ (σ : L2.St) (H : Hp) (Q : Option Int → Hp → Prop) (δ : Env) (post : Option Int → Prop) (ex : EX → Prop), SL W K σ H δ → W.ok H → m δ post ex →
  (∀ o H', W.R H H' → post o → Q o H') → XLink W K H E ex → t σ H Q
def OX (X : Cx) (E : XK) (e : Option Expr) (m : OM) : Prop := ∃ t, PO X e t ∧ ∀ W, EvOp W X.K E t m
def oN : OM := fun _ post _ => post none
def oS (m : EM) : OM := fun δ post ex => m δ (fun d => ∃ i, d = .int i ∧ post (some i)) ex
section
variable {X : Cx} {E : XK} {e : Expr} {lo hi : Option Expr} {me : EM} {ml mh : OM} {pos p2 : Pos}
theorem ox_none : OX X E none oN := ⟨_, po_none, fun W σ H Q δ post ex hs ok hm hq lx => hq none H (.refl ok) hm⟩
theorem ox_some (h : PX X E e me) : OX X E (some e) (oS me) := by
  obtain ⟨t, q, ev⟩ := h
  refine ⟨_, po_some q, fun W σ H Q δ post ex hs ok hm hq lx => ev W σ H _ δ _ ex hs ok hm ?_ lx⟩
  rintro v H1 d r1 hv ⟨i, rfl, hp⟩
  cases hv
  exact ⟨i, rfl, hq _ H1 r1 hp⟩
def cutD (xs : List D) (lo hi : Option Int) : List D := (xs.drop (HT.sIx xs.length 0 lo)).take (HT.sIx xs.length xs.length hi - HT.sIx xs.length 0 lo)
def sliceD (d : D) (lo hi : Option Int) : Option D := match d with | .lst xs => some (.lst (cutD xs lo hi)) | .tup xs => some (.tup (cutD xs lo hi)) | _ => none
def mSlice (me : EM) (ml mh : OM) : EM := fun δ post ex => me δ (fun d => ml δ (fun lo => mh δ (fun hi => ∃ z, sliceD d lo hi = some z ∧ post z) ex) ex) ex
theorem das_drop {W : Wld} {K : PySem.W.Frag} {H : Hp} : ∀ {xs : List V} {ds : List D} (n : Nat), Das W K H xs ds → Das W K H (xs.drop n) (ds.drop n)
  | _, _, 0, h => by simpa using h
  | _, _, n + 1, .nil => by simpa using Das.nil
  | _, _, n + 1, .cons _ r => by simpa using das_drop n r
theorem das_take {W : Wld} {K : PySem.W.Frag} {H : Hp} : ∀ {xs : List V} {ds : List D} (n : Nat), Das W K H xs ds → Das W K H (xs.take n) (ds.take n)
  | _, _, 0, h => by simpa using Das.nil
  | _, _, n + 1, .nil => by simpa using Das.nil
  | _, _, n + 1, .cons h r => by simpa using Das.cons h (das_take n r)
theorem das_cut {W : Wld} {K : PySem.W.Frag} {H : Hp} {xs : List V} {ds : List D} {lo hi : Option Int} (h : Das W K H xs ds) : Das W K H (cutV xs lo hi) (cutD ds lo hi) := by
  unfold cutV cutD
  rw [h.length]
  exact das_take _ (das_drop _ h)
theorem px_slice (he : PX X E e me) (hl : OX X E lo ml) (hh : OX X E hi mh) : PX X E (.Subscript e (.Slice lo hi none p2) pos) (mSlice me ml mh) := by
  obtain ⟨t, q, ev⟩ := he
  obtain ⟨tl, ql, evl⟩ := hl
  obtain ⟨th, qh, evh⟩ := hh
  refine ⟨_, pe_slice (SlR.or sl_list sl_tupA) q ql qh, fun W σ H Q δ post ex hs ok hm hq lx => ?_⟩
  refine ev W σ H _ δ _ ex hs ok hm ?_ lx
  intro v H1 d r1 hv hm1
  refine evl W σ H1 _ δ _ ex (hs.R r1) r1.ok hm1 ?_ (lx.R r1)
  intro l H2 r2 hm2
  refine evh W σ H2 _ δ _ ex ((hs.R r1).R r2) r2.ok hm2 ?_ ((lx.R r1).R r2)
  rintro u H3 r3 ⟨z, hz, hp⟩
  have hv3 := (hv.R r2).R r3
  have r13 := (r1.trans r2).trans r3
  cases hv3 with
  | @lst a xs ds h r =>
    cases hz
    left
    exact ⟨a, xs, rfl, Evl.sq_of (cut_sub _ _ h), fun p hn => hq _ _ _ (r13.trans (R_new r3.ok hn)) (da_new r3.ok hn (das_cut r)) hp⟩
  | @tup a xs ds h r =>
    cases hz
    right
    refine ⟨a, xs, rfl, Evl.ex_t cut_sub h, fun hw => ?_, fun _ p hn => hq _ _ _ (r13.trans (R_new r3.ok hn)) (da_newT r3.ok hn (das_cut r)) hp⟩
    refine hq _ _ _ r13 ?_ hp
    have : cutD ds l u = ds := by
      unfold cutD
      rw [← r.length, hw.1, hw.2]
      simp [r.length]
    rw [this]
    exact .tup h r
  | _ => cases hz
end
/-! ## a tuple many times -/
def fRepT (a b z : D) : Prop := ∃ (xs : List D) (k : Int), a = .tup xs ∧ b = .int k ∧ xs ≠ [] ∧ 2 ≤ k ∧ k ≤ 1000 ∧ xs.length ≤ 1000 ∧ z = .tup (List.replicate k.toNat xs).flatten
theorem das_rep {W : Wld} {K : PySem.W.Frag} {H : Hp} {xs : List V} {ds : List D} (h : Das W K H xs ds) : ∀ n : Nat, Das W K H (List.replicate n xs).flatten (List.replicate n ds).flatten
  | 0 => .nil
  | n + 1 => by
    rw [List.replicate_succ, List.replicate_succ, List.flatten_cons, List.flatten_cons]
    exact h.app (das_rep h n)
theorem opD_repT {W : Wld} {K : PySem.W.Frag} : OpD W K (rRepT K) fRepT := by
  rintro H x y a b z Q ok hx hy ⟨xs, k, rfl, rfl, h1, h2, h3, h4, rfl⟩ q
  cases hy
  cases hx with
  | @tup a ys ds h r =>
    exact ⟨a, k, ys, rfl, rfl, Evl.ex_t cut_sub h, fun z => h1 (by subst z; cases r; rfl), h2, h3, by rw [r.length]; exact h4, fun p hn => q _ _ (R_new ok hn) (da_newT ok hn (das_rep r _))⟩
theorem px_repT {X : Cx} {E : XK} {a b : Expr} {ma mb : EM} {pos : Pos} (ha : PX X E a ma) (hb : PX X E b mb) : PX X E (.BinOp a .Mult b pos) (mOp fRepT ma mb) := px_op op_repT (fun _ => opD_repT) ha hb
end Fw
/-! # FwPop: found.append(left.pop(e)), both held alone -/
namespace Fw
open PySem PySem.Spec PyProof.Rows L2
open Evl (Ex)
variable [TabsOf]
section
variable {X : Cx} {E : XK} {S Sb : List Nat} {pos : Pos}
def sPopApp (i j : Nat) (m : EM) : SM := fun δ F => m δ (fun d => ∃ (n : Nat) (xs ds : List D) (y : D), d = .int n ∧ δ[j]? = some (some (.lst xs)) ∧ δ[i]? = some (some (.lst ds)) ∧ ds.length < 16777216 ∧ xs[n]? = some y ∧ (n : Int) < 2 ^ 63 ∧
  F.nx ((δ.set j (some (.lst (xs.eraseIdx n)))).set i (some (.lst (ds ++ [y]))))) F.ex
theorem das_erase {W : Wld} {K : PySem.W.Frag} {H : Hp} : ∀ {xs : List V} {ds : List D} (n : Nat), Das W K H xs ds → Das W K H (xs.eraseIdx n) (ds.eraseIdx n)
  | _, _, _, .nil => by simpa using Das.nil
  | _, _, 0, .cons _ r => by simpa using r
  | _, _, n + 1, .cons h r => by simpa using Das.cons h (das_erase n r)
theorem so_popApp {e : Expr} {me : EM} {x y : Str} {pn pn2 apos apos2 cpos cpos2 : Pos} (i j : Nat) (he : PX X E e me) (hij : i ≠ j := by decide) (hi : i ∈ S := by decide) (hj : j ∈ S := by decide) (hN : X.N[i]? = some x := by rfl) (hNj : X.N[j]? = some y := by rfl)
    (hv : Vis X.env.scope x := by first | exact Or.inl rfl | exact Or.inr (Or.inl rfl) | exact Or.inr (Or.inr rfl)) (hvj : Vis X.env.scope y := by first | exact Or.inl rfl | exact Or.inr (Or.inl rfl) | exact Or.inr (Or.inr rfl))
    (hd : (x == ("__debug__" : Str)) = false := by decide) (hcd : (x == ("__classdict__" : Str)) = false := by decide) (hdj : (y == ("__debug__" : Str)) = false := by decide) (hcdj : (y == ("__classdict__" : Str)) = false := by decide)
    (hbase : attributeBase (.Name x pn) "append" X.env (eval (.Name x pn) X.env) = eval (.Name x pn) X.env := by rfl)
    (hfew : ((backTo cpos (starEach [.Call (.Attribute (.Name y pn2) "pop" apos2) [e] [] cpos2] X.env)).all (fun x => !x.1) && (backToKw cpos (keywordEach [] X.env)).all (fun x => x.1.isSome)
      && decide (([.Call (.Attribute (.Name y pn2) "pop" apos2) [e] [] cpos2] : List Expr).length + ([] : List Keyword).length + (if ([] : List Keyword).isEmpty then 0 else 1) < 30)) = true := by rfl)
    (hline : (apos.endLine == cpos.line) = true := by rfl) (st1 : starEach [.Call (.Attribute (.Name y pn2) "pop" apos2) [e] [] cpos2] X.env = (false, eval (.Call (.Attribute (.Name y pn2) "pop" apos2) [e] [] cpos2) X.env) :: starEach [] X.env := by rfl) (hpl : (backTo cpos (starEach [] X.env)).any (·.1) = false := by rfl)
    (hbase2 : attributeBase (.Name y pn2) "pop" X.env (eval (.Name y pn2) X.env) = eval (.Name y pn2) X.env := by rfl)
    (hfew2 : ((backTo cpos2 (starEach [e] X.env)).all (fun x => !x.1) && (backToKw cpos2 (keywordEach [] X.env)).all (fun x => x.1.isSome)
      && decide (([e] : List Expr).length + ([] : List Keyword).length + (if ([] : List Keyword).isEmpty then 0 else 1) < 30)) = true := by rfl)
    (hline2 : (apos2.endLine == cpos2.line) = true := by rfl) (st2 : starEach [e] X.env = (false, eval e X.env) :: starEach [] X.env := by rfl) (hpl2 : (backTo cpos2 (starEach [] X.env)).any (·.1) = false := by rfl)
    (hs : swapsWith (.Call (.Attribute (.Name x pn) "append" apos) [.Call (.Attribute (.Name y pn2) "pop" apos2) [e] [] cpos2] [] cpos) none pos.line X.env = pure false := by rfl) :
    SXo X E S S Sb (.Expr (.Call (.Attribute (.Name x pn) "append" apos) [.Call (.Attribute (.Name y pn2) "pop" apos2) [e] [] cpos2] [] cpos) pos) (sPopApp i j me) := by
  obtain ⟨t, q, ev⟩ := he
  refine ⟨_, ps_expr (pe_bm PySem.F.plainAttrs_list PySem.F.slot_list_append PySem.F.type_list_append mt_append (pe_var hN hv hd hcd) (pa_cons (pe_bm PySem.F.plainAttrs_list PySem.F.slot_list_pop PySem.F.type_list_pop mt_popAt (pe_var hNj hvj hdj hcdj) (pa_cons q pa_nil st2) hbase2 hfew2 hline2 st2 hpl2) pa_nil st1) hbase hfew hline st1 hpl) hs, fun W H0 σ H Z δ F ad it s hm l => ?_⟩
  refine ⟨.ref (ad i), s.at_ hi, tyv_lst ((gr_of s.ok).2 i hi), ?_⟩
  refine ⟨.ref (ad j), s.at_ hj, tyv_lst ((gr_of s.ok).2 j hj), ?_⟩
  have hR0 := s.R0
  refine ev W σ H _ _ _ F.ex s.thaw (gr_of s.ok).1 hm ?_ (l.ex.R hR0)
  rintro v H1 d r1 hv ⟨n, xs, ds, z, rfl, e1, e2, hlen, hz, hn, hk⟩
  cases hv
  obtain ⟨s1, x1⟩ := s.stay r1
  obtain ⟨xs', f1, hdx⟩ := s1.da j hj
  rw [e1] at f1
  cases f1
  obtain ⟨ds', f2, hdd⟩ := s1.da i hi
  rw [e2] at f2
  cases f2
  obtain ⟨w, hw, hdw⟩ := hdx.getD hz
  obtain ⟨s2, x2⟩ := s1.grow (xs := (it j).eraseIdx n) (ds := xs.eraseIdx n) hj (das_erase n hdx)
  have hdd2 := hdd.up x2
  have hdw2 := hdw.up x2
  obtain ⟨s3, x3⟩ := s2.grow (xs := it i ++ [w]) (ds := ds ++ [z]) hi (das_snoc hdd2 hdw2)
  have hlt : n < xs.length := (List.getElem?_eq_some_iff.mp hz).1
  have hit : (it j).length = xs.length := hdx.length
  have hni : ad i ≠ ad j := fun z => hij (s.inj i hi j hj z)
  refine ⟨ad j, it j, (n : Int), n, w, rfl, rfl, (gr_of s1.ok).2 j hj, by omega, hn, ?_, hw, ?_⟩
  · have h1 : ¬ ((n : Int) < 0) := by omega
    have h2 : (0 : Int) ≤ (n : Int) := by omega
    have h3 : (n : Int) < ((it j).length : Nat) := by rw [hit]; omega
    simp only [seqIndex?, if_neg h1, h2, h3, decide_true, Bool.and_self, if_true, Int.toNat_natCast]
  · refine ⟨ad i, it i, w, rfl, rfl, by rw [upd_ne hni]; exact (gr_of s1.ok).2 i hi, by rw [hdd.length, sizeLine_eq]; exact hlen, ?_⟩
    exact l.nx _ _ _ _ _ s3 ((x1.trans x2).trans x3) hk
end
end Fw
/-! # FwTac3: what is unfolded, in loops over lists held alone -/
namespace Fw
open PySem PySem.Spec PyProof.Rows L2
end Fw
local macro_rules | `(tactic| walk_at "fwp") => `(tactic| simp (config := { failIfUnchanged := false }) only [Fw.gPin, Fw.mPin, Fw.iPin, Fw.sAppO, Fw.sNewO, Fw.sParN1, Fw.sPar1N, Fw.sParNN, Fw.pinS, Fw.unpS, List.foldr_cons, List.foldr_nil, Option.getD_some, List.mem_cons, List.not_mem_nil, or_false, forall_eq, false_implies, imp_true_iff, forall_const,   Fw.funM, Fw.sSeq, Fw.sSet, Fw.sTo, Fw.sRet, Fw.sNx, Fw.sFor, Fw.sPar, Fw.sIf, Fw.mVar, Fw.mC, Fw.mOp, Fw.mSub, Fw.mPow, Fw.mTest, Fw.mIf, Fw.mTup, Fw.mLst, Fw.mNil, Fw.mCons, Fw.mCall, Fw.mCB, Fw.gNm, Fw.gTp, Fw.gCn, Fw.gNl, Fw.iSq, Fw.iRange, Fw.mNot, Fw.mNeg, List.map_cons, List.map_nil, List.length_cons, List.length_nil, List.replicate, List.cons_append, List.nil_append,   List.getElem?_cons_zero, List.getElem?_cons_succ, List.getElem?_nil, List.set_cons_zero, List.set_cons_succ, Option.some.injEq, exists_eq_left', exists_eq_left, Nat.reduceAdd, Nat.reduceSub, true_and, and_true, Fw.fAdd_int, Fw.fI_int, Fw.fIc_int, Fw.fIB_int, Fw.items_lst, Fw.items_tup, List.cons.injEq, Fw.D.int.injEq, Fw.D.bl.injEq, Fw.D.str.injEq, Fw.D.lst.injEq, Fw.D.tup.injEq, and_assoc, exists_and_left, exists_eq_right, exists_eq_right', eq_self_iff_true, Nat.reduceLeDiff])
namespace Fw
open PySem PySem.Spec PyProof.Rows L2
end Fw

namespace K02
open PySem PySem.Spec PyProof.Rows L2 Fw
-- GENERATED-HEAD firstwrong_k02_rows_of_bytes
/-! ### the text by its places -/
def top (i : Nat) : Stmt := PySem.Challenge.pw_firstwrong_k02_rows_of_bytes.main.body.getD i (.Pass ⟨0, 0, 0, 0⟩)
abbrev s_BadBytes_init : Stmt := inClass (top 2) 0
def d_BadBytes_init : He.DefD := ⟨("BadBytes", some "__init__"), "__init__", "BadBytes.__init__", defArgs s_BadBytes_init, defBody s_BadBytes_init, defScope s_BadBytes_init, [], []⟩
abbrev s_BadNumber_init : Stmt := inClass (top 3) 0
def d_BadNumber_init : He.DefD := ⟨("BadNumber", some "__init__"), "__init__", "BadNumber.__init__", defArgs s_BadNumber_init, defBody s_BadNumber_init, defScope s_BadNumber_init, [], []⟩
abbrev s_is_number : Stmt := top 5
def d_is_number : He.DefD := ⟨("is_number", none), "is_number", "is_number", defArgs s_is_number, defBody s_is_number, defScope s_is_number, [], []⟩
abbrev s_is_number_in : Stmt := top 6
def d_is_number_in : He.DefD := ⟨("is_number_in", none), "is_number_in", "is_number_in", defArgs s_is_number_in, defBody s_is_number_in, defScope s_is_number_in, [], []⟩
abbrev s_is_row : Stmt := top 7
def d_is_row : He.DefD := ⟨("is_row", none), "is_row", "is_row", defArgs s_is_row, defBody s_is_row, defScope s_is_row, [], []⟩
abbrev s_is_byte_row : Stmt := top 8
def d_is_byte_row : He.DefD := ⟨("is_byte_row", none), "is_byte_row", "is_byte_row", defArgs s_is_byte_row, defBody s_is_byte_row, defScope s_is_byte_row, [], []⟩
abbrev s_low_bytes : Stmt := top 12
def d_low_bytes : He.DefD := ⟨("low_bytes", none), "low_bytes", "low_bytes", defArgs s_low_bytes, defBody s_low_bytes, defScope s_low_bytes, [], []⟩
abbrev s_four_bytes : Stmt := top 13
def d_four_bytes : He.DefD := ⟨("four_bytes", none), "four_bytes", "four_bytes", defArgs s_four_bytes, defBody s_four_bytes, defScope s_four_bytes, [], []⟩
abbrev s_mark_of : Stmt := top 14
def d_mark_of : He.DefD := ⟨("mark_of", none), "mark_of", "mark_of", defArgs s_mark_of, defBody s_mark_of, defScope s_mark_of, [], []⟩
abbrev s__law_begun : Stmt := top 16
def d__law_begun : He.DefD := ⟨("_law_begun", none), "_law_begun", "_law_begun", defArgs s__law_begun, defBody s__law_begun, defScope s__law_begun, [], []⟩
abbrev s__law_mixed : Stmt := top 17
def d__law_mixed : He.DefD := ⟨("_law_mixed", none), "_law_mixed", "_law_mixed", defArgs s__law_mixed, defBody s__law_mixed, defScope s__law_mixed, [], []⟩
abbrev s__law_take : Stmt := top 18
def d__law_take : He.DefD := ⟨("_law_take", none), "_law_take", "_law_take", defArgs s__law_take, defBody s__law_take, defScope s__law_take, [], []⟩
abbrev s__law_pick : Stmt := top 19
def d__law_pick : He.DefD := ⟨("_law_pick", none), "_law_pick", "_law_pick", defArgs s__law_pick, defBody s__law_pick, defScope s__law_pick, [], []⟩
abbrev s__law_caught : Stmt := top 20
def d__law_caught : He.DefD := ⟨("_law_caught", none), "_law_caught", "_law_caught", defArgs s__law_caught, defBody s__law_caught, defScope s__law_caught, [], []⟩
abbrev s_law : Stmt := top 21
def d_law : He.DefD := ⟨("law", none), "law", "law", defArgs s_law, defBody s_law, defScope s_law, [], []⟩
def fn : List He.DefD := [d_BadBytes_init, d_BadNumber_init, d_is_number, d_is_number_in, d_is_row, d_is_byte_row, d_low_bytes, d_four_bytes, d_mark_of, d__law_begun, d__law_mixed, d__law_take, d__law_pick, d__law_caught, d_law]
def fa0 : List He.Fa := [.glo "WrongError", .glo "BadBytes", .glo "BadNumber", .glo "is_number", .glo "is_number_in", .glo "is_row", .glo "is_byte_row", .glo "low_bytes", .glo "four_bytes", .glo "mark_of", .glo "_law_begun", .glo "_law_mixed", .glo "_law_take", .glo "_law_pick", .glo "_law_caught", .glo "law", .free "ValueError", .free "abs", .free "all", .free "bool", .free "int", .free "isinstance", .free "len", .free "list", .free "min", .free "range", .free "repr", .free "tuple"]
def fa : List He.Fa := fa0
def tf : List He.Defn := [("law", none)]
/-! ### the names of each def by slot: parameters, then the others -/
theorem sc_BadBytes_init : FnScope ["self", "at"] ["self", "at"] (defScope s_BadBytes_init) := ⟨rfl, rfl, rfl, by decide +kernel, rfl, by decide +kernel, by decide +kernel⟩
theorem sc_BadNumber_init : FnScope ["self", "part"] ["self", "part"] (defScope s_BadNumber_init) := ⟨rfl, rfl, rfl, by decide +kernel, rfl, by decide +kernel, by decide +kernel⟩
theorem sc_is_number : FnScope ["thing"] ["thing"] (defScope s_is_number) := ⟨rfl, rfl, rfl, by decide +kernel, rfl, by decide +kernel, by decide +kernel⟩
theorem sc_is_number_in : FnScope ["thing", "low", "high"] ["thing", "low", "high"] (defScope s_is_number_in) := ⟨rfl, rfl, rfl, by decide +kernel, rfl, by decide +kernel, by decide +kernel⟩
theorem sc_is_row : FnScope ["thing"] ["thing"] (defScope s_is_row) := ⟨rfl, rfl, rfl, by decide +kernel, rfl, by decide +kernel, by decide +kernel⟩
theorem sc_is_byte_row : FnScope ["thing", "item"] ["thing"] (defScope s_is_byte_row) := ⟨rfl, rfl, rfl, by decide +kernel, rfl, by decide +kernel, by decide +kernel⟩
theorem sc_low_bytes : FnScope ["number", "many", "place"] ["number", "many"] (defScope s_low_bytes) := ⟨rfl, rfl, rfl, by decide +kernel, rfl, by decide +kernel, by decide +kernel⟩
theorem sc_four_bytes : FnScope ["number"] ["number"] (defScope s_four_bytes) := ⟨rfl, rfl, rfl, by decide +kernel, rfl, by decide +kernel, by decide +kernel⟩
theorem sc_mark_of : FnScope ["thing", "mark", "byte"] ["thing"] (defScope s_mark_of) := ⟨rfl, rfl, rfl, by decide +kernel, rfl, by decide +kernel, by decide +kernel⟩
theorem sc__law_begun : FnScope ["script", "large", "grain"] ["script"] (defScope s__law_begun) := ⟨rfl, rfl, rfl, by decide +kernel, rfl, by decide +kernel, by decide +kernel⟩
theorem sc__law_mixed : FnScope ["draw", "turn", "found", "great", "blend", "grain"] ["draw"] (defScope s__law_mixed) := ⟨rfl, rfl, rfl, by decide +kernel, rfl, by decide +kernel, by decide +kernel⟩
theorem sc__law_take : FnScope ["draw", "amount", "found"] ["draw", "amount"] (defScope s__law_take) := ⟨rfl, rfl, rfl, by decide +kernel, rfl, by decide +kernel, by decide +kernel⟩
theorem sc__law_pick : FnScope ["draw", "some"] ["draw", "some"] (defScope s__law_pick) := ⟨rfl, rfl, rfl, by decide +kernel, rfl, by decide +kernel, by decide +kernel⟩
theorem sc__law_caught : FnScope ["work", "caught", "error"] ["work"] (defScope s__law_caught) := ⟨rfl, rfl, rfl, by decide +kernel, rfl, by decide +kernel, by decide +kernel⟩
theorem sc_law : FnScope ["script", "draw", "turn", "number", "due", "caught", "some", "byte", "bad", "lap"] ["script"] (defScope s_law) := ⟨rfl, rfl, rfl, by decide +kernel, rfl, by decide +kernel, by decide +kernel⟩
/-! ### what the top leaves -/
structure Tx (K : PySem.W.Frag) (mg : Str → Option Value) : Prop where
  g_WrongError : mg "WrongError" = some (.ref (He.ga K "WrongError"))
  g_BadBytes : mg "BadBytes" = some (.ref (He.ga K "BadBytes"))
  g_BadNumber : mg "BadNumber" = some (.ref (He.ga K "BadNumber"))
  g_is_number : mg "is_number" = some (.ref (He.ga K "is_number"))
  g_is_number_in : mg "is_number_in" = some (.ref (He.ga K "is_number_in"))
  g_is_row : mg "is_row" = some (.ref (He.ga K "is_row"))
  g_is_byte_row : mg "is_byte_row" = some (.ref (He.ga K "is_byte_row"))
  g_low_bytes : mg "low_bytes" = some (.ref (He.ga K "low_bytes"))
  g_four_bytes : mg "four_bytes" = some (.ref (He.ga K "four_bytes"))
  g_mark_of : mg "mark_of" = some (.ref (He.ga K "mark_of"))
  g__law_begun : mg "_law_begun" = some (.ref (He.ga K "_law_begun"))
  g__law_mixed : mg "_law_mixed" = some (.ref (He.ga K "_law_mixed"))
  g__law_take : mg "_law_take" = some (.ref (He.ga K "_law_take"))
  g__law_pick : mg "_law_pick" = some (.ref (He.ga K "_law_pick"))
  g__law_caught : mg "_law_caught" = some (.ref (He.ga K "_law_caught"))
  g_law : mg "law" = some (.ref (He.ga K "law"))
  f_ValueError : mg "ValueError" = none
  f_abs : mg "abs" = none
  f_all : mg "all" = none
  f_bool : mg "bool" = none
  f_int : mg "int" = none
  f_isinstance : mg "isinstance" = none
  f_len : mg "len" = none
  f_list : mg "list" = none
  f_min : mg "min" = none
  f_range : mg "range" = none
  f_repr : mg "repr" = none
  f_tuple : mg "tuple" = none
  d_BadBytes_init : ∃ fd, FunD K "__init__" "BadBytes.__init__" (defArgs s_BadBytes_init) (defBody s_BadBytes_init) (defScope s_BadBytes_init) [] [] (He.fAd K ("BadBytes", some "__init__")) fd
  d_BadNumber_init : ∃ fd, FunD K "__init__" "BadNumber.__init__" (defArgs s_BadNumber_init) (defBody s_BadNumber_init) (defScope s_BadNumber_init) [] [] (He.fAd K ("BadNumber", some "__init__")) fd
  d_is_number : ∃ fd, FunD K "is_number" "is_number" (defArgs s_is_number) (defBody s_is_number) (defScope s_is_number) [] [] (He.fAd K ("is_number", none)) fd
  d_is_number_in : ∃ fd, FunD K "is_number_in" "is_number_in" (defArgs s_is_number_in) (defBody s_is_number_in) (defScope s_is_number_in) [] [] (He.fAd K ("is_number_in", none)) fd
  d_is_row : ∃ fd, FunD K "is_row" "is_row" (defArgs s_is_row) (defBody s_is_row) (defScope s_is_row) [] [] (He.fAd K ("is_row", none)) fd
  d_is_byte_row : ∃ fd, FunD K "is_byte_row" "is_byte_row" (defArgs s_is_byte_row) (defBody s_is_byte_row) (defScope s_is_byte_row) [] [] (He.fAd K ("is_byte_row", none)) fd
  d_low_bytes : ∃ fd, FunD K "low_bytes" "low_bytes" (defArgs s_low_bytes) (defBody s_low_bytes) (defScope s_low_bytes) [] [] (He.fAd K ("low_bytes", none)) fd
  d_four_bytes : ∃ fd, FunD K "four_bytes" "four_bytes" (defArgs s_four_bytes) (defBody s_four_bytes) (defScope s_four_bytes) [] [] (He.fAd K ("four_bytes", none)) fd
  d_mark_of : ∃ fd, FunD K "mark_of" "mark_of" (defArgs s_mark_of) (defBody s_mark_of) (defScope s_mark_of) [] [] (He.fAd K ("mark_of", none)) fd
  d__law_begun : ∃ fd, FunD K "_law_begun" "_law_begun" (defArgs s__law_begun) (defBody s__law_begun) (defScope s__law_begun) [] [] (He.fAd K ("_law_begun", none)) fd
  d__law_mixed : ∃ fd, FunD K "_law_mixed" "_law_mixed" (defArgs s__law_mixed) (defBody s__law_mixed) (defScope s__law_mixed) [] [] (He.fAd K ("_law_mixed", none)) fd
  d__law_take : ∃ fd, FunD K "_law_take" "_law_take" (defArgs s__law_take) (defBody s__law_take) (defScope s__law_take) [] [] (He.fAd K ("_law_take", none)) fd
  d__law_pick : ∃ fd, FunD K "_law_pick" "_law_pick" (defArgs s__law_pick) (defBody s__law_pick) (defScope s__law_pick) [] [] (He.fAd K ("_law_pick", none)) fd
  d__law_caught : ∃ fd, FunD K "_law_caught" "_law_caught" (defArgs s__law_caught) (defBody s__law_caught) (defScope s__law_caught) [] [] (He.fAd K ("_law_caught", none)) fd
  d_law : ∃ fd, FunD K "law" "law" (defArgs s_law) (defBody s_law) (defScope s_law) [] [] (He.fAd K ("law", none)) fd
theorem tx_of {K : PySem.W.Frag} {h : Heap} {mg : Str → Option Value} (X : K.In h) (G : h.Ns mainGlobals mg) (c : He.SaysD fa fn K) : Tx K mg where
  g_WrongError := He.glo_ok X G (c.fact 0 (f := .glo "WrongError") rfl)
  g_BadBytes := He.glo_ok X G (c.fact 1 (f := .glo "BadBytes") rfl)
  g_BadNumber := He.glo_ok X G (c.fact 2 (f := .glo "BadNumber") rfl)
  g_is_number := He.glo_ok X G (c.fact 3 (f := .glo "is_number") rfl)
  g_is_number_in := He.glo_ok X G (c.fact 4 (f := .glo "is_number_in") rfl)
  g_is_row := He.glo_ok X G (c.fact 5 (f := .glo "is_row") rfl)
  g_is_byte_row := He.glo_ok X G (c.fact 6 (f := .glo "is_byte_row") rfl)
  g_low_bytes := He.glo_ok X G (c.fact 7 (f := .glo "low_bytes") rfl)
  g_four_bytes := He.glo_ok X G (c.fact 8 (f := .glo "four_bytes") rfl)
  g_mark_of := He.glo_ok X G (c.fact 9 (f := .glo "mark_of") rfl)
  g__law_begun := He.glo_ok X G (c.fact 10 (f := .glo "_law_begun") rfl)
  g__law_mixed := He.glo_ok X G (c.fact 11 (f := .glo "_law_mixed") rfl)
  g__law_take := He.glo_ok X G (c.fact 12 (f := .glo "_law_take") rfl)
  g__law_pick := He.glo_ok X G (c.fact 13 (f := .glo "_law_pick") rfl)
  g__law_caught := He.glo_ok X G (c.fact 14 (f := .glo "_law_caught") rfl)
  g_law := He.glo_ok X G (c.fact 15 (f := .glo "law") rfl)
  f_ValueError := He.free_ok X G (c.fact 16 (f := .free "ValueError") rfl)
  f_abs := He.free_ok X G (c.fact 17 (f := .free "abs") rfl)
  f_all := He.free_ok X G (c.fact 18 (f := .free "all") rfl)
  f_bool := He.free_ok X G (c.fact 19 (f := .free "bool") rfl)
  f_int := He.free_ok X G (c.fact 20 (f := .free "int") rfl)
  f_isinstance := He.free_ok X G (c.fact 21 (f := .free "isinstance") rfl)
  f_len := He.free_ok X G (c.fact 22 (f := .free "len") rfl)
  f_list := He.free_ok X G (c.fact 23 (f := .free "list") rfl)
  f_min := He.free_ok X G (c.fact 24 (f := .free "min") rfl)
  f_range := He.free_ok X G (c.fact 25 (f := .free "range") rfl)
  f_repr := He.free_ok X G (c.fact 26 (f := .free "repr") rfl)
  f_tuple := He.free_ok X G (c.fact 27 (f := .free "tuple") rfl)
  d_BadBytes_init := c.def_ 0 (d := d_BadBytes_init) rfl
  d_BadNumber_init := c.def_ 1 (d := d_BadNumber_init) rfl
  d_is_number := c.def_ 2 (d := d_is_number) rfl
  d_is_number_in := c.def_ 3 (d := d_is_number_in) rfl
  d_is_row := c.def_ 4 (d := d_is_row) rfl
  d_is_byte_row := c.def_ 5 (d := d_is_byte_row) rfl
  d_low_bytes := c.def_ 6 (d := d_low_bytes) rfl
  d_four_bytes := c.def_ 7 (d := d_four_bytes) rfl
  d_mark_of := c.def_ 8 (d := d_mark_of) rfl
  d__law_begun := c.def_ 9 (d := d__law_begun) rfl
  d__law_mixed := c.def_ 10 (d := d__law_mixed) rfl
  d__law_take := c.def_ 11 (d := d__law_take) rfl
  d__law_pick := c.def_ 12 (d := d__law_pick) rfl
  d__law_caught := c.def_ 13 (d := d__law_caught) rfl
  d_law := c.def_ 14 (d := d_law) rfl
def loose : List PySem.Str := (["WrongError", "BadBytes", "BadNumber", "is_number", "is_number_in", "is_row", "is_byte_row", "START", "FACTOR", "low_bytes", "four_bytes", "mark_of", "_law_begun", "_law_mixed", "_law_take", "_law_pick", "_law_caught"] : List PySem.Str)
abbrev lawAt : Nat := 21

abbrev R : PySem.W.OpenRow := PySem.W.OpenLaw.row PySem.Challenge.rw_firstwrong_k02_rows_of_bytes
def ns : List Str := [("WrongError" : Str), ("BadBytes" : Str), ("BadNumber" : Str)]
abbrev nsL : List Str := ns
def sub (a b : Str) : Bool := a == b || (b == "WrongError" && ns.contains a)
def exK (K : PySem.W.Frag) : Bool := ns.all fun a => (ns.all fun b => decide (PySem.W.kitOne K (.ref (He.ga K a)) (.ref (He.ga K b)) = some (sub a b))) && (decide (PySem.W.kitOne K (.type "NoneType") (.ref (He.ga K a)) = some false) &&
  decide (PySem.W.exmOne K (.ref (He.ga K a)) (.ref (He.ga K "WrongError")) = some true))
def e_xc_WrongError (K : PySem.W.Frag) : Bool := xcB K (He.ga K "WrongError")
def e_xn_WrongError (K : PySem.W.Frag) : Bool := PySem.W.excIn K (He.ga K "WrongError") Fw.veMro "ValueError.__new__"
def e_xc_BadBytes (K : PySem.W.Frag) : Bool := xcB K (He.ga K "BadBytes")
def e_xi_BadBytes (K : PySem.W.Frag) : Bool := xiB K (He.ga K "BadBytes") (He.fAd K ("BadBytes", some "__init__"))
def e_no_BadBytes_at (K : PySem.W.Frag) : Bool := decide (PySem.W.findIn K (.ref (He.ga K "BadBytes")) "at" = some none)
def e_xc_BadNumber (K : PySem.W.Frag) : Bool := xcB K (He.ga K "BadNumber")
def e_xi_BadNumber (K : PySem.W.Frag) : Bool := xiB K (He.ga K "BadNumber") (He.fAd K ("BadNumber", some "__init__"))
def e_no_BadNumber_part (K : PySem.W.Frag) : Bool := decide (PySem.W.findIn K (.ref (He.ga K "BadNumber")) "part" = some none)
def e_xb (K : PySem.W.Frag) : Bool := xbB K (He.ga K "WrongError")
def e_ve (K : PySem.W.Frag) : Bool := nsL.all fun n => decide (PySem.W.kitOne K (.ref (He.ga K n)) (.type "ValueError") = some true)
def e_atts (K : PySem.W.Frag) : Bool := (["at", "part"] : List Str).all fun f => nsL.all fun n => decide (PySem.W.findIn K (.ref (He.ga K n)) f = some none)
def e_c_START (K : PySem.W.Frag) : Bool := conAt K "START" (.int 2166136261)
def e_c_FACTOR (K : PySem.W.Frag) : Bool := conAt K "FACTOR" (.int 16777619)
def exs0 : List (PySem.W.Frag → Bool) := [exK, e_xc_WrongError, e_xn_WrongError, e_xc_BadBytes, e_xi_BadBytes, e_no_BadBytes_at, e_xc_BadNumber, e_xi_BadNumber, e_no_BadNumber_part, e_xb, e_ve, e_atts, e_c_START, e_c_FACTOR]
def exss : List (List (PySem.W.Frag → Bool)) := [exs0]
def ex (K : PySem.W.Frag) : Bool := exss.all fun l => l.all fun e => e K
theorem in0 {K : PySem.W.Frag} (h : ex K = true) : exs0.all (fun e => e K) = true := List.all_eq_true.mp h exs0 (by simp [exss])
abbrev hk : PySem.W.Hook := Fw.hookY 5 fa fn tf ex
def ob (s : PySem.W.SharedT) : Fw.AlY := Fw.obsY 5 fa fn tf ex (HandSHeadRun.getT s)
theorem ob_eq (s : PySem.W.SharedT) : ob s = hk.obs s.abs := Fw.obsY_eq (HandSHeadRun.getT_eq s)
theorem run (w : World) : HandSHeadRun.RunEq R (PySem.W.view R.prog [lawAt]) hk ob 20000 loose w := by
  intro os
  kernel_rfl
/-- what is known of the errors and of the module's constants -/
structure Ty (K : PySem.W.Frag) (mg : Str → Option Value) : Prop extends Tx K mg where
  k : exK K = true
  xc_WrongError : e_xc_WrongError K = true
  xn_WrongError : e_xn_WrongError K = true
  xc_BadBytes : e_xc_BadBytes K = true
  xi_BadBytes : e_xi_BadBytes K = true
  no_BadBytes_at : e_no_BadBytes_at K = true
  xc_BadNumber : e_xc_BadNumber K = true
  xi_BadNumber : e_xi_BadNumber K = true
  no_BadNumber_part : e_no_BadNumber_part K = true
  xb : e_xb K = true
  ve : e_ve K = true
  atts : e_atts K = true
  c_START : ConOk K mg "START" (.int 2166136261)
  c_FACTOR : ConOk K mg "FACTOR" (.int 16777619)
theorem ty_of {K : PySem.W.Frag} {h : Heap} {mg : Str → Option Value} (X : K.In h) (G : h.Ns mainGlobals mg) (c : Fw.SaysY fa fn tf ex h K) : Ty K mg where
  toTx := tx_of X G c.d
  k := List.all_eq_true.mp (in0 c.more) exK (by simp [exs0])
  xc_WrongError := List.all_eq_true.mp (in0 c.more) e_xc_WrongError (by simp [exs0])
  xn_WrongError := List.all_eq_true.mp (in0 c.more) e_xn_WrongError (by simp [exs0])
  xc_BadBytes := List.all_eq_true.mp (in0 c.more) e_xc_BadBytes (by simp [exs0])
  xi_BadBytes := List.all_eq_true.mp (in0 c.more) e_xi_BadBytes (by simp [exs0])
  no_BadBytes_at := List.all_eq_true.mp (in0 c.more) e_no_BadBytes_at (by simp [exs0])
  xc_BadNumber := List.all_eq_true.mp (in0 c.more) e_xc_BadNumber (by simp [exs0])
  xi_BadNumber := List.all_eq_true.mp (in0 c.more) e_xi_BadNumber (by simp [exs0])
  no_BadNumber_part := List.all_eq_true.mp (in0 c.more) e_no_BadNumber_part (by simp [exs0])
  xb := List.all_eq_true.mp (in0 c.more) e_xb (by simp [exs0])
  ve := List.all_eq_true.mp (in0 c.more) e_ve (by simp [exs0])
  atts := List.all_eq_true.mp (in0 c.more) e_atts (by simp [exs0])
  c_START := conAt_ok X G (List.all_eq_true.mp (in0 c.more) e_c_START (by simp [exs0]))
  c_FACTOR := conAt_ok X G (List.all_eq_true.mp (in0 c.more) e_c_FACTOR (by simp [exs0]))
end K02
namespace K02
open PySem PySem.Spec PyProof.Rows L2 Fw
def lamQ : Str := (envOfC "law" (defScope s_law) 0 0 .none).qual ++ "<lambda>"
instance : TabsOf := ⟨fun K => [((He.cT K ("law", none)).2, lamQ)]⟩
section
variable {P : Program} {w : World} {K : PySem.W.Frag} {mg : Str → Option Value} {base : Heap} {A : Around} {outer : List PySem.Env} {s : Shared} {H : Hp} {E : XK}
theorem ed_BadBytes (T : Ty K mg) : ErrDef P w K mg base "BadBytes" "at" :=
  errDef_of ("BadBytes", some "__init__") T.g_BadBytes (xc_ok T.xc_BadBytes) T.xi_BadBytes (of_decide_eq_true T.no_BadBytes_at) T.d_BadBytes_init sc_BadBytes_init T.g_WrongError (xb_ok T.xb) (by decide +kernel) (by decide +kernel) (by decide +kernel) (by decide) (by decide)
    (fun _ _ _ _ _ _ us h => match us, h with | [_, _], _ => rfl) rfl (fun cdv A outer s H E X e => by rw [e]; exact ⟨_, rfl⟩)
theorem no_at (T : Ty K mg) : ∀ n ∈ ns, ∀ fs : List (Str × D), (fs.lookup ("at" : Str)).isSome = true → PySem.W.findIn K (.ref (He.ga K n)) "at" = some none := fun n hn _ _ => of_decide_eq_true (List.all_eq_true.mp (List.all_eq_true.mp T.atts "at" (by decide)) n hn)
theorem ed_BadNumber (T : Ty K mg) : ErrDef P w K mg base "BadNumber" "part" :=
  errDef_of ("BadNumber", some "__init__") T.g_BadNumber (xc_ok T.xc_BadNumber) T.xi_BadNumber (of_decide_eq_true T.no_BadNumber_part) T.d_BadNumber_init sc_BadNumber_init T.g_WrongError (xb_ok T.xb) (by decide +kernel) (by decide +kernel) (by decide +kernel) (by decide) (by decide)
    (fun _ _ _ _ _ _ us h => match us, h with | [_, _], _ => rfl) rfl (fun cdv A outer s H E X e => by rw [e]; exact ⟨_, rfl⟩)
theorem no_part (T : Ty K mg) : ∀ n ∈ ns, ∀ fs : List (Str × D), (fs.lookup ("part" : Str)).isSome = true → PySem.W.findIn K (.ref (He.ga K n)) "part" = some none := fun n hn _ _ => of_decide_eq_true (List.all_eq_true.mp (List.all_eq_true.mp T.atts "part" (by decide)) n hn)
theorem ev_BadBytes (T : Ty K mg) : ErrV P w K mg base "BadBytes" "BadBytes.__init__" s_BadBytes_init ["at"] [("at", 0)] :=
  errV1_of ("BadBytes", some "__init__") T.g_BadBytes (xc_ok T.xc_BadBytes) T.xi_BadBytes (of_decide_eq_true T.no_BadBytes_at) T.d_BadBytes_init sc_BadBytes_init T.g_WrongError (xb_ok T.xb) (by decide +kernel) (by decide +kernel) (by decide +kernel) (by decide) (by decide) rfl (fun cdv A outer s H E X e => by rw [e]; exact ⟨_, rfl⟩)
theorem ev_BadNumber (T : Ty K mg) : ErrV P w K mg base "BadNumber" "BadNumber.__init__" s_BadNumber_init ["part"] [("part", 0)] :=
  errV1_of ("BadNumber", some "__init__") T.g_BadNumber (xc_ok T.xc_BadNumber) T.xi_BadNumber (of_decide_eq_true T.no_BadNumber_part) T.d_BadNumber_init sc_BadNumber_init T.g_WrongError (xb_ok T.xb) (by decide +kernel) (by decide +kernel) (by decide +kernel) (by decide) (by decide) rfl (fun cdv A outer s H E X e => by rw [e]; exact ⟨_, rfl⟩)
theorem ve_of (T : Ty K mg) : ∀ n ∈ ns, PySem.W.kitOne K (.ref (He.ga K n)) (.type "ValueError") = some true := fun n hn => of_decide_eq_true (List.all_eq_true.mp T.ve n hn)
theorem exk (T : Ty K mg) {a : Str} (ha : a ∈ ns) : (∀ b ∈ ns, PySem.W.kitOne K (.ref (He.ga K a)) (.ref (He.ga K b)) = some (sub a b)) ∧ PySem.W.kitOne K (.type "NoneType") (.ref (He.ga K a)) = some false ∧ PySem.W.exmOne K (.ref (He.ga K a)) (.ref (He.ga K "WrongError")) = some true := by
  have h := List.all_eq_true.mp T.k a ha
  simp only [Bool.and_eq_true, decide_eq_true_eq, List.all_eq_true] at h
  exact ⟨h.1, h.2.1, h.2.2⟩
theorem kinds_of (T : Ty K mg) : Kinds K mg ns sub where
  at_ := by
    simp only [ns, List.forall_mem_cons]
    exact ⟨T.g_WrongError, T.g_BadBytes, T.g_BadNumber, fun _ z => nomatch z⟩
  xc := by
    simp only [ns, List.forall_mem_cons]
    exact ⟨xc_ok T.xc_WrongError, xc_ok T.xc_BadBytes, xc_ok T.xc_BadNumber, fun _ z => nomatch z⟩
  kit := fun n hn m hm => (exk T hn).1 m hm
  non := fun m hm => (exk T hm).2.1
theorem gl_is_number_isinstance : (defScope s_is_number).names.lookup ("isinstance" : Str) = some .globalImplicit := by decide +kernel
theorem gl_is_number_int : (defScope s_is_number).names.lookup ("int" : Str) = some .globalImplicit := by decide +kernel
theorem gl_is_number_bool : (defScope s_is_number).names.lookup ("bool" : Str) = some .globalImplicit := by decide +kernel
def m_is_number : SM := (sRet (mAndV (mIsi "int" (mVar 0)) (mNotV (mIsi "bool" (mVar 0)))))
theorem b_is_number (T : Ty K mg)  (hr : Room 0 (cxF P w K mg base ["thing"] "is_number" s_is_number ("is_number", none) A outer s H E).A) : BX (cxF P w K mg base ["thing"] "is_number" s_is_number ("is_number", none) A outer s H E) E (defBody s_is_number) m_is_number :=
  (bx_one (sx_ret (px_and (px_isi gl_is_number_isinstance T.f_isinstance gl_is_number_int T.f_int (by decide +kernel) (px_var 0)) (px_one (px_not (px_isi gl_is_number_isinstance T.f_isinstance gl_is_number_bool T.f_bool (by decide +kernel) (px_var 0)))))))
def isNum : D → Bool | .int _ => true | _ => false
def F_is_number : FM := fun ds post ex => ∃ d, ds = [d] ∧ isErr d = false ∧ post (.bl (isNum d))
theorem spec_is_number : ∀ ds post ex, F_is_number ds post ex → funM 1 m_is_number ds post ex := by
  rintro ds post ex ⟨d, rfl, he, hp⟩
  unfold m_is_number
  walk_at "fws"
  simp only [he, kit_int he, kit_bool he, Option.some.injEq, exists_eq_left', true_and]
  cases d <;> first | exact hp | (cases he; done)
theorem good_is_number (T : Ty K mg)  : Good P w K mg base "is_number" "is_number" s_is_number 1 ["thing"] F_is_number :=
  (good_fd ("is_number", none) T.g_is_number T.d_is_number sc_is_number (fun _ _ _ _ _ _ us h => match us, h with | [_], _ => rfl) fun A outer s H E hr => b_is_number T  hr).mono spec_is_number
theorem gl_is_number_in_is_number : (defScope s_is_number_in).names.lookup ("is_number" : Str) = some .globalImplicit := by decide +kernel
def m_is_number_in : SM := (sRet (mAndV (mCall 1 F_is_number (mCons (mVar 0) mNil)) (mChain fLe fLe (mVar 1) (mVar 0) (mVar 2))))
theorem b_is_number_in (T : Ty K mg) (G_is_number : Good P w K mg base "is_number" "is_number" s_is_number 1 ["thing"] F_is_number) (hr : Room 1 (cxF P w K mg base ["thing", "low", "high"] "is_number_in" s_is_number_in ("is_number_in", none) A outer s H E).A) : BX (cxF P w K mg base ["thing", "low", "high"] "is_number_in" s_is_number_in ("is_number_in", none) A outer s H E) E (defBody s_is_number_in) m_is_number_in :=
  (bx_one (sx_ret (px_and (px_call G_is_number (hr.mono (by decide)) cx_passes gl_is_number_in_is_number (ax_cons (px_var 0) ax_nil)) (px_one (px_chain op_le (fun W => dLe W _) op_le (fun W => dLe W _) (px_var 1) (px_var 0) (px_var 2))))))
def inR (d : D) (lo hi : Int) : Bool := match d with | .int i => decide (lo ≤ i) && decide (i ≤ hi) | _ => false
def F_is_number_in : FM := fun ds post ex => ∃ d lo hi, ds = [d, .int lo, .int hi] ∧ isErr d = false ∧ post (.bl (inR d lo hi))
theorem spec_is_number_in : ∀ ds post ex, F_is_number_in ds post ex → funM 3 m_is_number_in ds post ex := by
  rintro ds post ex ⟨d, lo, hi, rfl, he, hp⟩
  unfold m_is_number_in F_is_number
  walk_at "fws"
  refine ⟨he, ?_⟩
  cases d <;> first
    | exact hp
    | (cases he; done)
    | skip
  case int i =>
    show if true = true then _ else _
    rw [if_pos rfl]
    walk_at "fws"
    have hp : post (.bl (decide (lo ≤ i) && decide (i ≤ hi))) := hp
    by_cases h : lo ≤ i
    · simpa [h] using hp
    · simpa [h] using hp
theorem good_is_number_in (T : Ty K mg) (G_is_number : Good P w K mg base "is_number" "is_number" s_is_number 1 ["thing"] F_is_number) : Good P w K mg base "is_number_in" "is_number_in" s_is_number_in 2 ["thing", "low", "high"] F_is_number_in :=
  (good_fd ("is_number_in", none) T.g_is_number_in T.d_is_number_in sc_is_number_in (fun _ _ _ _ _ _ us h => match us, h with | [_, _, _], _ => rfl) fun A outer s H E hr => b_is_number_in T G_is_number hr).mono spec_is_number_in
theorem gl_is_row_isinstance : (defScope s_is_row).names.lookup ("isinstance" : Str) = some .globalImplicit := by decide +kernel
theorem gl_is_row_list : (defScope s_is_row).names.lookup ("list" : Str) = some .globalImplicit := by decide +kernel
theorem gl_is_row_tuple : (defScope s_is_row).names.lookup ("tuple" : Str) = some .globalImplicit := by decide +kernel
def m_is_row : SM := (sRet (mIsi2 "list" "tuple" (mVar 0)))
theorem b_is_row (T : Ty K mg)  (hr : Room 0 (cxF P w K mg base ["thing"] "is_row" s_is_row ("is_row", none) A outer s H E).A) : BX (cxF P w K mg base ["thing"] "is_row" s_is_row ("is_row", none) A outer s H E) E (defBody s_is_row) m_is_row :=
  (bx_one (sx_ret (px_isi2 gl_is_row_isinstance T.f_isinstance gl_is_row_list T.f_list (by decide +kernel) gl_is_row_tuple T.f_tuple (by decide +kernel) (px_var 0))))
def F_is_row : FM := fun ds post ex => ∃ d, ds = [d] ∧ isErr d = false ∧ post (.bl (isLstB d || isTupB d))
theorem spec_is_row : ∀ ds post ex, F_is_row ds post ex → funM 1 m_is_row ds post ex := by
  rintro ds post ex ⟨d, rfl, he, hp⟩
  unfold m_is_row
  walk_at "fwx"
  exact ⟨he, _, kit_list he, _, kit_tuple he, hp⟩
theorem good_is_row (T : Ty K mg)  : Good P w K mg base "is_row" "is_row" s_is_row 1 ["thing"] F_is_row :=
  (good_fd ("is_row", none) T.g_is_row T.d_is_row sc_is_row (fun _ _ _ _ _ _ us h => match us, h with | [_], _ => rfl) fun A outer s H E hr => b_is_row T  hr).mono spec_is_row
theorem gl_is_byte_row_is_row : (defScope s_is_byte_row).names.lookup ("is_row" : Str) = some .globalImplicit := by decide +kernel
theorem gl_is_byte_row_all : (defScope s_is_byte_row).names.lookup ("all" : Str) = some .globalImplicit := by decide +kernel
def m_is_byte_row : SM := (sRet (mAndV (mCall 1 F_is_row (mCons (mVar 0) mNil)) (mCB fAll (mCons (mLc (iSq (mVar 0)) (gNm 1) tTT (mCall 3 F_is_number_in (mCons (mVar 1) (mCons (mC (.int 0)) (mCons (mC (.int 255)) mNil)))) [1]) mNil))))
theorem b_is_byte_row (T : Ty K mg) (G_is_row : Good P w K mg base "is_row" "is_row" s_is_row 1 ["thing"] F_is_row) (G_is_number_in : Good P w K mg base "is_number_in" "is_number_in" s_is_number_in 2 ["thing", "low", "high"] F_is_number_in) (hr : Room 2 (cxF P w K mg base ["thing", "item"] "is_byte_row" s_is_byte_row ("is_byte_row", none) A outer s H E).A) : BX (cxF P w K mg base ["thing", "item"] "is_byte_row" s_is_byte_row ("is_byte_row", none) A outer s H E) E (defBody s_is_byte_row) m_is_byte_row :=
  (bx_one (sx_ret (px_and (px_call G_is_row (hr.mono (by decide)) cx_passes gl_is_byte_row_is_row (ax_cons (px_var 0) ax_nil)) (px_one (px_all rfl gl_is_byte_row_all T.f_all (ax_cons (px_lc1 (i := 1) sc_is_byte_row.nd (ix_sq (px_var 0)) (fun _ _ _ _ _ => (px_call G_is_number_in (hr.mono (by decide)) passes_no (gl_k (by kernel_rfl)) (ax_cons (px_var 1) (ax_cons px_int (ax_cons px_int ax_nil)))))) ax_nil))))))
theorem pd_ne {d : D} (h : pd d = true) : isErr d = false := by cases d <;> first | rfl | (unfold pd at h; cases h)
theorem pds_cons {d : D} {ds : List D} (h : pds (d :: ds) = true) : pd d = true ∧ pds ds = true := by
  unfold pds at h
  exact Bool.and_eq_true_iff.mp h
def byteB (d : D) : Bool := match itemsD d with
  | some xs => xs.all fun x => inR x 0 255
  | none => false
/-- what mark_of may be given -/
structure OkM (d : D) : Prop where
  ne : isErr d = false
  pd : ∀ xs, itemsD d = some xs → pds xs = true
  seq : (isLstB d || isTupB d) = true → ∃ xs, itemsD d = some xs
theorem okM_pd {d : D} (h : pd d = true) : OkM d := by
  refine ⟨pd_ne h, fun xs e => ?_, fun hb => ?_⟩
  · cases d <;> first
      | (cases e; done)
      | (cases e; unfold pd at h; exact h)
  · cases d <;> first
      | exact ⟨_, rfl⟩
      | (cases hb; done)
      | (unfold pd at h; cases h)
def lenOk (d : D) : Prop := ∀ xs, itemsD d = some xs → xs.length ≤ 16777216
theorem lc_in {a : Option D} {k : List D → Prop} : ∀ (xs acc : List D), pds xs = true → acc.length + xs.length ≤ 16777216 → k (acc ++ xs.map fun x => .bl (inR x 0 255)) →
    lcGo (gNm 1) tTT (mCall 3 F_is_number_in (mCons (mVar 1) (mCons (mC (.int 0)) (mCons (mC (.int 255)) mNil)))) [a, none] k xs acc
  | [], acc, _, _, h => by
    unfold lcGo
    simpa using h
  | x :: xs, acc, hp, hl, h => by
    rw [List.length_cons] at hl
    unfold lcGo F_is_number_in
    walk_at "fwx"
    simp only [if_true]
    walk_at "fwx"
    refine ⟨pd_ne (pds_cons hp).1, by omega, lc_in xs _ (pds_cons hp).2 (by rw [List.length_append, List.length_singleton]; omega) ?_⟩
    rw [List.append_assoc]
    exact h
def F_is_byte_row : FM := fun ds post ex => ∃ d, ds = [d] ∧ OkM d ∧ lenOk d ∧ post (.bl (byteB d))
theorem spec_is_byte_row : ∀ ds post ex, F_is_byte_row ds post ex → funM 2 m_is_byte_row ds post ex := by
  rintro ds post ex ⟨d, rfl, h, hl, hp⟩
  unfold m_is_byte_row F_is_row mLc
  walk_at "fwx"
  refine ⟨h.ne, ?_⟩
  by_cases hb : (isLstB d || isTupB d) = true
  · rw [if_pos hb]
    obtain ⟨xs, e⟩ := h.seq hb
    refine ⟨_, e, ?_⟩
    have hw : wipeE [some d, none] [1] = [some d, none] := rfl
    rw [hw]
    refine lc_in xs [] (h.pd xs e) (by simpa using hl xs e) ?_
    walk_at "fwx"
    refine ⟨_, ⟨xs.map fun x => inR x 0 255, ?_, rfl⟩, ?_⟩
    · rw [List.map_map]
      rfl
    · have : byteB d = (xs.map fun x => inR x 0 255).all id := by
        unfold byteB
        rw [e, List.all_map]
        rfl
      rw [← this]
      exact hp
  · rw [if_neg hb]
    have : byteB d = false := by
      cases d <;> first
        | rfl
        | exact absurd rfl hb
    rw [this] at hp
    exact hp
theorem good_is_byte_row (T : Ty K mg) (G_is_row : Good P w K mg base "is_row" "is_row" s_is_row 1 ["thing"] F_is_row) (G_is_number_in : Good P w K mg base "is_number_in" "is_number_in" s_is_number_in 2 ["thing", "low", "high"] F_is_number_in) : Good P w K mg base "is_byte_row" "is_byte_row" s_is_byte_row 3 ["thing"] F_is_byte_row :=
  (good_fd ("is_byte_row", none) T.g_is_byte_row T.d_is_byte_row sc_is_byte_row (fun _ _ _ _ _ _ us h => match us, h with | [_], _ => rfl) fun A outer s H E hr => b_is_byte_row T G_is_row G_is_number_in hr).mono spec_is_byte_row
theorem gl_low_bytes_range : (defScope s_low_bytes).names.lookup ("range" : Str) = some .globalImplicit := by decide +kernel
theorem gl_low_bytes_tuple : (defScope s_low_bytes).names.lookup ("tuple" : Str) = some .globalImplicit := by decide +kernel
def m_low_bytes : SM := (sRet (mCB fTuple (mCons (mLc (iRange (mCons (mVar 1) mNil)) (gNm 2) tTT (mBand (mShr (mVar 0) (mMul (mC (.int 8)) (mVar 2))) (mC (.int 255))) [2]) mNil)))
theorem b_low_bytes (T : Ty K mg)  (hr : Room 0 (cxF P w K mg base ["number", "many", "place"] "low_bytes" s_low_bytes ("low_bytes", none) A outer s H E).A) : BX (cxF P w K mg base ["number", "many", "place"] "low_bytes" s_low_bytes ("low_bytes", none) A outer s H E) E (defBody s_low_bytes) m_low_bytes :=
  (bx_one (sx_ret (px_tuple gl_low_bytes_tuple T.f_tuple (ax_cons (px_lc1 (i := 2) sc_low_bytes.nd (ix_range gl_low_bytes_range T.f_range (ax_cons (px_var 1) ax_nil)) (fun _ _ _ _ _ => (px_band (px_shr (px_var 0) (px_mul px_int (px_var 2))) px_int))) ax_nil))))
theorem and_ff {x : Int} (h : 0 ≤ x) : Builtin.bitAnd x 255 = x % 256 := by
  rw [bitAnd_pp h (by decide)]
  have : x.toNat &&& 255 = x.toNat % 2 ^ 8 := Nat.and_two_pow_sub_one_eq_mod _ 8
  show ((x.toNat &&& 255 : Nat) : Int) = _
  rw [this]
  omega
def F_low_bytes : FM := fun ds post ex => ∃ n : Int, ds = [.int n, .int 4] ∧ 0 ≤ n ∧ post (.tup [.int (n % 256), .int (n / 256 % 256), .int (n / 65536 % 256), .int (n / 16777216 % 256)])
theorem spec_low_bytes : ∀ ds post ex, F_low_bytes ds post ex → funM 3 m_low_bytes ds post ex := by
  rintro ds post ex ⟨n, rfl, hn, hp⟩
  unfold m_low_bytes mLc
  walk_at "fwx"
  refine ⟨by decide, by decide, ?_⟩
  have hw : wipeE [some (D.int n), some (.int 4), none] [2] = [some (.int n), some (.int 4), none] := rfl
  have hr : (List.range (Int.toNat 4)).map (fun (k : Nat) => D.int k) = [.int 0, .int 1, .int 2, .int 3] := rfl
  have c8 : ∀ i : Int, CMul 8 i := fun i => .inl ⟨by decide, by decide⟩
  rw [hw, hr]
  simp only [lcGo]
  walk_at "fwx"
  simp only [if_true]
  walk_at "fwx"
  simp only [c8, true_and]
  have e0 : Builtin.bitAnd (n / 2 ^ (8 * 0 : Int).toNat) 255 = n % 256 := by
    rw [show (2 : Int) ^ (8 * 0 : Int).toNat = 1 by decide, Int.ediv_one, and_ff hn]
  have e1 : Builtin.bitAnd (n / 2 ^ (8 * 1 : Int).toNat) 255 = n / 256 % 256 := by
    rw [show (2 : Int) ^ (8 * 1 : Int).toNat = 256 by decide, and_ff (by omega)]
  have e2 : Builtin.bitAnd (n / 2 ^ (8 * 2 : Int).toNat) 255 = n / 65536 % 256 := by
    rw [show (2 : Int) ^ (8 * 2 : Int).toNat = 65536 by decide, and_ff (by omega)]
  have e3 : Builtin.bitAnd (n / 2 ^ (8 * 3 : Int).toNat) 255 = n / 16777216 % 256 := by
    rw [show (2 : Int) ^ (8 * 3 : Int).toNat = 16777216 by decide, and_ff (by omega)]
  rw [e0, e1, e2, e3]
  exact ⟨by decide, by decide, by decide, by decide, by decide, by decide, by decide, by decide, _, ⟨_, _, rfl, rfl, rfl⟩, hp⟩
theorem good_low_bytes (T : Ty K mg)  : Good P w K mg base "low_bytes" "low_bytes" s_low_bytes 1 ["number", "many"] F_low_bytes :=
  (good_fd ("low_bytes", none) T.g_low_bytes T.d_low_bytes sc_low_bytes (fun _ _ _ _ _ _ us h => match us, h with | [_, _], _ => rfl) fun A outer s H E hr => b_low_bytes T  hr).mono spec_low_bytes
theorem gl_four_bytes_is_number_in : (defScope s_four_bytes).names.lookup ("is_number_in" : Str) = some .globalImplicit := by decide +kernel
theorem gl_four_bytes_BadNumber : (defScope s_four_bytes).names.lookup ("BadNumber" : Str) = some .globalImplicit := by decide +kernel
theorem gl_four_bytes_low_bytes : (defScope s_four_bytes).names.lookup ("low_bytes" : Str) = some .globalImplicit := by decide +kernel
def m_four_bytes : SM := (sSeq (sIf (mNot (mTest (mCall 3 F_is_number_in (mCons (mVar 0) (mCons (mC (.int 0)) (mCons (mSub (mPow (mC (.int 2)) (mC (.int 32))) (mC (.int 1))) mNil)))))) (sRaise "BadNumber" "part" (mC (.str "number"))) sNx) (sRet (mCall 2 F_low_bytes (mCons (mVar 0) (mCons (mC (.int 4)) mNil)))))
theorem b_four_bytes (T : Ty K mg) (G_is_number_in : Good P w K mg base "is_number_in" "is_number_in" s_is_number_in 2 ["thing", "low", "high"] F_is_number_in) (G_low_bytes : Good P w K mg base "low_bytes" "low_bytes" s_low_bytes 1 ["number", "many"] F_low_bytes) (hr : Room 2 (cxF P w K mg base ["number"] "four_bytes" s_four_bytes ("four_bytes", none) A outer s H E).A) : BX (cxF P w K mg base ["number"] "four_bytes" s_four_bytes ("four_bytes", none) A outer s H E) E (defBody s_four_bytes) m_four_bytes :=
  (bx_cons (sx_if (tx_not (tx_val (px_call G_is_number_in (hr.mono (by decide)) cx_passes gl_four_bytes_is_number_in (ax_cons (px_var 0) (ax_cons px_int (ax_cons (px_sub (px_pow px_int px_int) px_int) ax_nil)))))) (bx_one (sx_raise (ed_BadNumber T) rfl cx_takes (hr.mono (by decide)) gl_four_bytes_BadNumber px_str)) bx_nil) (bx_one (sx_ret (px_call G_low_bytes (hr.mono (by decide)) cx_passes gl_four_bytes_low_bytes (ax_cons (px_var 0) (ax_cons px_int ax_nil))))))
def F_four_bytes : FM := fun ds post ex => ∃ d, ds = [d] ∧ isErr d = false ∧ (∀ n : Int, d = .int n → 0 ≤ n → n ≤ 4294967295 → post (.tup [.int (n % 256), .int (n / 256 % 256), .int (n / 65536 % 256), .int (n / 16777216 % 256)])) ∧
  (inR d 0 4294967295 = false → ex ("BadNumber", [("part", .str "number")]))
theorem spec_four_bytes : ∀ ds post ex, F_four_bytes ds post ex → funM 1 m_four_bytes ds post ex := by
  rintro ds post ex ⟨d, rfl, he, hp, hx⟩
  unfold m_four_bytes F_is_number_in F_low_bytes
  have cp : CPow 2 32 := ⟨by decide, by decide, by decide⟩
  walk_at "fwx"
  have e32 : (2 : Int) ^ (32 : Int).toNat - 1 = 4294967295 := by decide
  simp only [cp, true_and, e32, he]
  by_cases h : inR d 0 4294967295 = true
  · simp only [h, Bool.not_true, Bool.false_eq_true, if_false]
    cases d <;> first
      | (cases h; done)
      | skip
    case int n =>
      have h := Bool.and_eq_true_iff.mp h
      exact ⟨n, rfl, of_decide_eq_true h.1, hp n rfl (of_decide_eq_true h.1) (of_decide_eq_true h.2)⟩
  · have h : inR d 0 4294967295 = false := by simpa using h
    simp only [h, Bool.not_false, if_true]
    exact hx h
theorem good_four_bytes (T : Ty K mg) (G_is_number_in : Good P w K mg base "is_number_in" "is_number_in" s_is_number_in 2 ["thing", "low", "high"] F_is_number_in) (G_low_bytes : Good P w K mg base "low_bytes" "low_bytes" s_low_bytes 1 ["number", "many"] F_low_bytes) : Good P w K mg base "four_bytes" "four_bytes" s_four_bytes 3 ["number"] F_four_bytes :=
  (good_fd ("four_bytes", none) T.g_four_bytes T.d_four_bytes sc_four_bytes (fun _ _ _ _ _ _ us h => match us, h with | [_], _ => rfl) fun A outer s H E hr => b_four_bytes T G_is_number_in G_low_bytes hr).mono spec_four_bytes
theorem gl_mark_of_is_byte_row : (defScope s_mark_of).names.lookup ("is_byte_row" : Str) = some .globalImplicit := by decide +kernel
theorem gl_mark_of_BadBytes : (defScope s_mark_of).names.lookup ("BadBytes" : Str) = some .globalImplicit := by decide +kernel
theorem gl_mark_of_START : (defScope s_mark_of).names.lookup ("START" : Str) = some .globalImplicit := by decide +kernel
theorem gl_mark_of_FACTOR : (defScope s_mark_of).names.lookup ("FACTOR" : Str) = some .globalImplicit := by decide +kernel
def m_mark_of : SM := (sSeq (sIf (mNot (mTest (mCall 1 F_is_byte_row (mCons (mVar 0) mNil)))) (sRaise "BadBytes" "at" (mC .non)) sNx) (sSeq (sSet 1 (mC (.int (2166136261)))) (sSeq (sFor (iSq (mVar 0)) (gNm 2) (sSet 1 (mBand (mMul (mBxor (mVar 1) (mVar 2)) (mC (.int (16777619)))) (mSub (mPow (mC (.int 2)) (mC (.int 32))) (mC (.int 1)))))) (sRet (mVar 1)))))
theorem b_mark_of (T : Ty K mg) (G_is_byte_row : Good P w K mg base "is_byte_row" "is_byte_row" s_is_byte_row 3 ["thing"] F_is_byte_row) (hr : Room 3 (cxF P w K mg base ["thing", "mark", "byte"] "mark_of" s_mark_of ("mark_of", none) A outer s H E).A) : BX (cxF P w K mg base ["thing", "mark", "byte"] "mark_of" s_mark_of ("mark_of", none) A outer s H E) E (defBody s_mark_of) m_mark_of :=
  (bx_cons (sx_if (tx_not (tx_val (px_call G_is_byte_row (hr.mono (by decide)) cx_passes gl_mark_of_is_byte_row (ax_cons (px_var 0) ax_nil)))) (bx_one (sx_raise (ed_BadBytes T) rfl cx_takes (hr.mono (by decide)) gl_mark_of_BadBytes px_non)) bx_nil) (bx_cons (sx_set 1 sc_mark_of.nd (px_con T.c_START gl_mark_of_START)) (bx_cons (sx_for cx_own rfl (ix_sq (px_var 0)) (gx_name 2 sc_mark_of.nd) (bx_one (sx_set 1 sc_mark_of.nd (px_band (px_mul (px_bxor (px_var 1) (px_var 2)) (px_con T.c_FACTOR gl_mark_of_FACTOR)) (px_sub (px_pow px_int px_int) px_int))))) (bx_one (sx_ret (px_var 1))))))
def markI (m b : Int) : Int := Builtin.bitAnd (Builtin.bitXor m b * 16777619) 4294967295
def markF (ns : List Int) : Int := ns.foldl markI 2166136261
def F_mark_of : FM := fun ds post ex => ∃ d, ds = [d] ∧ OkM d ∧ lenOk d ∧ (∀ ns : List Int, itemsD d = some (ns.map D.int) → (∀ n ∈ ns, 0 ≤ n ∧ n ≤ 255) → post (.int (markF ns))) ∧ (byteB d = false → ex ("BadBytes", [("at", .non)]))
theorem bytes_of : ∀ {xs : List D}, (xs.all fun x => inR x 0 255) = true → ∃ ns : List Int, xs = ns.map D.int ∧ ∀ n ∈ ns, 0 ≤ n ∧ n ≤ 255
  | [], _ => ⟨[], rfl, fun _ z => nomatch z⟩
  | x :: xs, h => by
    rw [List.all_cons] at h
    have h := Bool.and_eq_true_iff.mp h
    obtain ⟨ns, e, hn⟩ := bytes_of h.2
    obtain ⟨n, rfl⟩ : ∃ n, x = .int n := by cases x <;> first | exact ⟨_, rfl⟩ | (cases h.1; done)
    have q := Bool.and_eq_true_iff.mp h.1
    refine ⟨n :: ns, by rw [e]; rfl, ?_⟩
    intro m hm
    rcases List.mem_cons.mp hm with rfl | hm
    · exact ⟨of_decide_eq_true q.1, of_decide_eq_true q.2⟩
    · exact hn m hm
theorem mark_go {F : SE} {d : D} {body : SM} (hb : body = sSet 1 (mBand (mMul (mBxor (mVar 1) (mVar 2)) (mC (.int 16777619))) (mSub (mPow (mC (.int 2)) (mC (.int 32))) (mC (.int 1))))) :
    ∀ (ns : List Int) (m : Int) (c : Option D), (∀ c, F.nx [some d, some (.int (ns.foldl markI m)), c]) → forGo (gNm 2) body F (ns.map D.int) [some d, some (.int m), c]
  | [], m, c, h => h c
  | n :: ns, m, c, h => by
    subst hb
    rw [List.map_cons]
    refine forGo_cons ?_
    have cp : CPow 2 32 := ⟨by decide, by decide, by decide⟩
    have cm : ∀ i : Int, CMul i 16777619 := fun i => .inr ⟨by decide, by decide⟩
    have e32 : (2 : Int) ^ (32 : Int).toNat - 1 = 4294967295 := by decide
    walk_at "fwx"
    simp only [cp, cm, true_and, e32]
    exact mark_go rfl ns _ _ h
theorem spec_mark_of : ∀ ds post ex, F_mark_of ds post ex → funM 3 m_mark_of ds post ex := by
  rintro ds post ex ⟨d, rfl, h, hl, hp, hx⟩
  unfold m_mark_of F_is_byte_row
  walk_at "fwx"
  refine ⟨h, hl, ?_⟩
  by_cases hb : byteB d = true
  · simp only [hb, Bool.not_true, Bool.false_eq_true, if_false]
    unfold byteB at hb
    split at hb
    · rename_i xs e
      obtain ⟨ns, rfl, hn⟩ := bytes_of hb
      refine ⟨_, e, ?_⟩
      refine mark_go rfl ns _ _ fun c => ?_
      walk_at "fwx"
      exact hp ns e hn
    · cases hb
  · have hb : byteB d = false := by simpa using hb
    simp only [hb, Bool.not_false, if_true]
    exact hx hb
theorem good_mark_of (T : Ty K mg) (G_is_byte_row : Good P w K mg base "is_byte_row" "is_byte_row" s_is_byte_row 3 ["thing"] F_is_byte_row) : Good P w K mg base "mark_of" "mark_of" s_mark_of 4 ["thing"] F_mark_of :=
  (good_fd ("mark_of", none) T.g_mark_of T.d_mark_of sc_mark_of (fun _ _ _ _ _ _ us h => match us, h with | [_], _ => rfl) fun A outer s H E hr => b_mark_of T G_is_byte_row hr).mono spec_mark_of
theorem begun_law (T : Ty K mg) : ∃ fd, Binds K fd ["script"] [] ∧ PySem.W.keepIn K (.ref (He.fAd K ("_law_begun", none))) = true ∧ FnOk P w K mg base (L2.CX P w) 1 (He.fAd K ("_law_begun", none)) fd ["script"] (spBegun K) :=
  begun_ok (m1 := mB1) (m3 := mB3) (k := 0) ("_law_begun", none) T.d__law_begun sc__law_begun (by decide +kernel) (fun _ _ _ _ _ _ us h => match us, h with | [_], _ => rfl) rfl
    (fun A outer s H E hr => (nsx_lc1t (i := 2) (q := 1) sc__law_begun.nd (ix_scr (px_var 0)) (fun _ _ _ _ _ => (tx_ge (px_abs (gl_k (by kernel_rfl)) T.f_abs (ax_cons (px_var 2) ax_nil)) (px_pow px_int px_int))) (fun _ _ _ _ _ => (px_sub (px_abs (gl_k (by kernel_rfl)) T.f_abs (ax_cons (px_var 2) ax_nil)) (px_pow px_int px_int)))))
    (fun A outer s H E hr => (nx_lc1 (i := 2) sc__law_begun.nd (ix_scr (px_var 0)) (fun _ _ _ _ _ => (px_abs (gl_k (by kernel_rfl)) T.f_abs (ax_cons (px_var 2) ax_nil))))) d1_ok d3_ok
theorem gl__law_mixed_int : (defScope s__law_mixed).names.lookup ("int" : Str) = some .globalImplicit := by decide +kernel
def m__law_mixed : SM := (sSeq (sDrPut (mVar 0) (mOp fAdd (mDrI (mVar 0)) (mC (.int 1)))) (sSeq (sPar 1 2 (mCons (mCB fInt (mCons (mDrI (mVar 0)) mNil)) (mCons (mC (.int 0)) mNil))) (sSeq (sFor (iSq (mLst (mCons (mC (.int 2147483629)) (mCons (mC (.int 2147483587)) (mCons (mC (.int 2147483579)) mNil))))) (gNm 3) (sSeq (sSet 4 (mMod (mOp fAdd (mMul (mVar 1) (mC (.int 69621))) (mFdiv (mVar 3) (mC (.int 7)))) (mVar 3))) (sSeq (sFor (iDrC (mVar 0)) (gNm 5) (sSet 4 (mMod (mOp fAdd (mMul (mVar 4) (mC (.int 48271))) (mCB fInt (mCons (mVar 5) mNil))) (mVar 3)))) (sSet 2 (mOp fAdd (mMul (mVar 2) (mC (.int 2147483647))) (mMod (mPow (mVar 4) (mC (.int 5))) (mVar 3))))))) (sRet (mVar 2)))))
theorem b__law_mixed (T : Ty K mg)  (hr : Room 0 (cxF P w K mg base ["draw", "turn", "found", "great", "blend", "grain"] "_law_mixed" s__law_mixed ("_law_mixed", none) A outer s H E).A) : BX (cxF P w K mg base ["draw", "turn", "found", "great", "blend", "grain"] "_law_mixed" s__law_mixed ("_law_mixed", none) A outer s H E) E (defBody s__law_mixed) m__law_mixed :=
  (bx_cons (sx_drPut (.inr rfl) hr (px_var 0) (px_add (px_drInt (.inr rfl) hr (px_var 0)) px_int)) (bx_cons (sx_par 1 2 sc__law_mixed.nd (ax_cons (px_toInt gl__law_mixed_int T.f_int (ax_cons (px_drInt (.inr rfl) hr (px_var 0)) ax_nil)) (ax_cons px_int ax_nil))) (bx_cons (sx_for cx_own rfl (ix_sq (px_lst (ax_cons px_int (ax_cons px_int (ax_cons px_int ax_nil))))) (gx_name 3 sc__law_mixed.nd) (bx_cons (sx_set 4 sc__law_mixed.nd (px_mod (px_add (px_mul (px_var 1) px_int) (px_fdiv (px_var 3) px_int)) (px_var 3))) (bx_cons (sx_for cx_own rfl (ix_drC hr (px_var 0)) (gx_name 5 sc__law_mixed.nd) (bx_one (sx_set 4 sc__law_mixed.nd (px_mod (px_add (px_mul (px_var 4) px_int) (px_toInt gl__law_mixed_int T.f_int (ax_cons (px_var 5) ax_nil))) (px_var 3))))) (bx_one (sx_set 2 sc__law_mixed.nd (px_add (px_mul (px_var 2) px_int) (px_mod (px_pow (px_var 4) px_int) (px_var 3)))))))) (bx_one (sx_ret (px_var 2))))))
def F__law_mixed : FM := fun ds post ex => ds = [.drw] ∧ ∀ n : Int, 0 ≤ n → post (.int n)
theorem spec__law_mixed : ∀ ds post ex, F__law_mixed ds post ex → funM 6 m__law_mixed ds post ex := by
  rintro ds post ex ⟨rfl, hp⟩
  unfold m__law_mixed
  walk_at "fws"
  intro n hn
  refine ⟨by omega, fun t ht => ?_⟩
  refine forGo_inv (I := fun δ => ∃ (f : Int) (a b c : Option D), δ = [some .drw, some (.int t), some (.int f), a, b, c] ∧ 0 ≤ f) _ _ ⟨0, _, _, _, rfl, by decide⟩ ?_ ?_
  · rintro d δ k hd ⟨f, a, b, c, rfl, hf⟩ hk
    obtain ⟨g, hg, h0, h1⟩ : ∃ g : Int, d = .int g ∧ 0 < g ∧ g < 2 ^ 62 := by
      simp only [List.mem_cons, List.not_mem_nil, or_false] at hd
      rcases hd with rfl | rfl | rfl <;> exact ⟨_, rfl, by decide, by decide⟩
    subst hg
    walk_at "fws"
    refine ⟨.inr ⟨by decide, by decide⟩, ⟨by decide, by decide⟩, h0, ?_⟩
    intro cs hcs
    refine forGo_inv (I := fun δ => ∃ (bl : Int) (c : Option D), δ = [some .drw, some (.int t), some (.int f), some (.int g), some (.int bl), c] ∧ 0 ≤ bl ∧ bl < g) _ _ ⟨_, _, rfl, Int.emod_nonneg _ (by omega), Int.emod_lt_of_pos _ h0⟩ ?_ ?_
    · rintro d δ k2 hd ⟨bl, c, rfl, hb0, hb1⟩ hk2
      obtain ⟨x, hx, rfl⟩ := List.mem_map.mp hd
      walk_at "fws"
      exact ⟨.inr ⟨by decide, by decide⟩, h0, hk2 _ ⟨_, _, rfl, Int.emod_nonneg _ (by omega), Int.emod_lt_of_pos _ h0⟩⟩
    · rintro δ ⟨bl, c, rfl, hb0, hb1⟩
      walk_at "fws"
      refine ⟨.inr ⟨by decide, by decide⟩, ⟨by decide, by decide, by omega⟩, h0, hk _ ⟨_, _, _, _, rfl, ?_⟩⟩
      have := Int.emod_nonneg (bl ^ (5 : Int).toNat) (show g ≠ 0 by omega)
      omega
  · rintro δ ⟨f, a, b, c, rfl, hf⟩
    walk_at "fws"
    exact hp f hf
theorem good__law_mixed (T : Ty K mg)  : Good P w K mg base "_law_mixed" "_law_mixed" s__law_mixed 1 ["draw"] F__law_mixed :=
  (good_fd ("_law_mixed", none) T.g__law_mixed T.d__law_mixed sc__law_mixed (fun _ _ _ _ _ _ us h => match us, h with | [_], _ => rfl) fun A outer s H E hr => b__law_mixed T  hr).mono spec__law_mixed
theorem gl__law_take__law_mixed : (defScope s__law_take).names.lookup ("_law_mixed" : Str) = some .globalImplicit := by decide +kernel
theorem gl__law_take_int : (defScope s__law_take).names.lookup ("int" : Str) = some .globalImplicit := by decide +kernel
def m__law_take : SM := (sSeq (sIf (mTest (mOp fEq (mDrI (mVar 0)) (mC (.int 0)))) (sDrPut (mVar 0) (mDrPop 0 (mCall 1 F__law_mixed (mCons (mVar 0) mNil)))) sNx) (sSeq (sSet 2 (mMod (mCB fInt (mCons (mDrI (mVar 0)) mNil)) (mVar 1))) (sSeq (sDrPut (mVar 0) (mFdiv (mCB fInt (mCons (mDrI (mVar 0)) mNil)) (mVar 1))) (sRet (mVar 2)))))
theorem b__law_take (T : Ty K mg) (G__law_mixed : Good P w K mg base "_law_mixed" "_law_mixed" s__law_mixed 1 ["draw"] F__law_mixed) (hr : Room 1 (cxF P w K mg base ["draw", "amount", "found"] "_law_take" s__law_take ("_law_take", none) A outer s H E).A) : BX (cxF P w K mg base ["draw", "amount", "found"] "_law_take" s__law_take ("_law_take", none) A outer s H E) E (defBody s__law_take) m__law_take :=
  (bx_cons (sx_if (tx_eq hr (px_drInt (.inl rfl) hr (px_var 0)) px_int) (bx_one (sx_drPut (.inl rfl) hr (px_var 0) (px_drPop 0 hr (px_call G__law_mixed (hr.mono (by decide)) cx_passes gl__law_take__law_mixed (ax_cons (px_var 0) ax_nil))))) bx_nil) (bx_cons (sx_set 2 sc__law_take.nd (px_mod (px_toInt gl__law_take_int T.f_int (ax_cons (px_drInt (.inl rfl) hr (px_var 0)) ax_nil)) (px_var 1))) (bx_cons (sx_drPut (.inl rfl) hr (px_var 0) (px_fdiv (px_toInt gl__law_take_int T.f_int (ax_cons (px_drInt (.inl rfl) hr (px_var 0)) ax_nil)) (px_var 1))) (bx_one (sx_ret (px_var 2))))))
def F__law_take : FM := fun ds post ex => ∃ n : Int, ds = [.drw, .int n] ∧ 0 < n ∧ n.natAbs.log2 < 9000 ∧ ∀ j : Int, 0 ≤ j → j < n → post (.int j)
theorem spec__law_take : ∀ ds post ex, F__law_take ds post ex → funM 3 m__law_take ds post ex := by
  rintro ds post ex ⟨n, rfl, h0, hl, hp⟩
  unfold m__law_take F__law_mixed
  walk_at "fws"
  have fin : ∀ j : Int, 0 ≤ j → 0 < n ∧ ∀ m : Int, 0 ≤ m → CDivW m n ∧ 0 ≤ m / n ∧ post (.int (j % n)) := fun j hj =>
    ⟨h0, fun m hm => ⟨⟨h0, hl⟩, Int.ediv_nonneg hm (by omega), hp _ (Int.emod_nonneg _ (by omega)) (Int.emod_lt_of_pos _ h0)⟩⟩
  intro r hr
  split
  · exact ⟨fun a ha => ⟨ha, fun b hb => fin b hb⟩, fun a ha => ⟨ha, fun b hb => fin b hb⟩⟩
  · exact fun b hb => fin b hb
theorem good__law_take (T : Ty K mg) (G__law_mixed : Good P w K mg base "_law_mixed" "_law_mixed" s__law_mixed 1 ["draw"] F__law_mixed) : Good P w K mg base "_law_take" "_law_take" s__law_take 2 ["draw", "amount"] F__law_take :=
  (good_fd ("_law_take", none) T.g__law_take T.d__law_take sc__law_take (fun _ _ _ _ _ _ us h => match us, h with | [_, _], _ => rfl) fun A outer s H E hr => b__law_take T G__law_mixed hr).mono spec__law_take
theorem gl__law_pick_len : (defScope s__law_pick).names.lookup ("len" : Str) = some .globalImplicit := by decide +kernel
theorem gl__law_pick__law_take : (defScope s__law_pick).names.lookup ("_law_take" : Str) = some .globalImplicit := by decide +kernel
def m__law_pick : SM := (sRet (mOp fIx (mVar 1) (mCall 2 F__law_take (mCons (mVar 0) (mCons (mCB fLen (mCons (mVar 1) mNil)) mNil)))))
theorem b__law_pick (T : Ty K mg) (G__law_take : Good P w K mg base "_law_take" "_law_take" s__law_take 2 ["draw", "amount"] F__law_take) (hr : Room 2 (cxF P w K mg base ["draw", "some"] "_law_pick" s__law_pick ("_law_pick", none) A outer s H E).A) : BX (cxF P w K mg base ["draw", "some"] "_law_pick" s__law_pick ("_law_pick", none) A outer s H E) E (defBody s__law_pick) m__law_pick :=
  (bx_one (sx_ret (px_ix (px_var 1) (px_call G__law_take (hr.mono (by decide)) cx_passes gl__law_pick__law_take (ax_cons (px_var 0) (ax_cons (px_len gl__law_pick_len T.f_len (ax_cons (px_var 1) ax_nil)) ax_nil))))))
def F__law_pick : FM := fun ds post ex => ∃ xs, (ds = [.drw, .lst xs] ∨ ds = [.drw, .tup xs]) ∧ 0 < xs.length ∧ xs.length ≤ 16777216 ∧ ∀ x ∈ xs, post x
theorem log_small {n : Nat} (h : n ≤ 16777216) : n.log2 < 9000 := by
  by_cases h0 : n = 0
  · subst h0
    decide
  · have := Nat.log2_lt h0 |>.mpr (show n < 2 ^ 25 by omega)
    omega
theorem spec__law_pick : ∀ ds post ex, F__law_pick ds post ex → funM 2 m__law_pick ds post ex := by
  rintro ds post ex ⟨xs, rfl | rfl, h0, hl, hp⟩
  all_goals
    unfold m__law_pick F__law_take
    walk_at "fws"
    refine ⟨by omega, by rw [Int.natAbs_natCast]; exact log_small hl, fun j hj0 hj1 => ?_⟩
    obtain ⟨x, hx, e⟩ := at_of hj0 hj1
    exact ⟨x, ⟨xs, j, rfl, rfl, e⟩, hp x hx⟩
theorem good__law_pick (T : Ty K mg) (G__law_take : Good P w K mg base "_law_take" "_law_take" s__law_take 2 ["draw", "amount"] F__law_take) : Good P w K mg base "_law_pick" "_law_pick" s__law_pick 3 ["draw", "some"] F__law_pick :=
  (good_fd ("_law_pick", none) T.g__law_pick T.d__law_pick sc__law_pick (fun _ _ _ _ _ _ us h => match us, h with | [_, _], _ => rfl) fun A outer s H E hr => b__law_pick T G__law_take hr).mono spec__law_pick
def perm_1_0 {α : Type} (l : List α) : List α := match l with | [a0] => [a0] | _ => []
theorem perm_1_0_ok : PermOk @perm_1_0 := ⟨fun r0 => by cases r0 with | nil => exact .nil | cons h0 r1 => (cases r1 with | nil => exact .cons h0 (.nil) | cons h1 r2 => (exact .nil)), fun r0 => by cases r0 with | nil => exact .nil | cons h0 r1 => (cases r1 with | nil => exact .cons h0 (.nil) | cons h1 r2 => (exact .nil))⟩
theorem gl_law_len : (defScope s_law).names.lookup ("len" : Str) = some .globalImplicit := by decide +kernel
theorem gl_law_min : (defScope s_law).names.lookup ("min" : Str) = some .globalImplicit := by decide +kernel
theorem gl_law_range : (defScope s_law).names.lookup ("range" : Str) = some .globalImplicit := by decide +kernel
theorem gl_law__law_take : (defScope s_law).names.lookup ("_law_take" : Str) = some .globalImplicit := by decide +kernel
theorem gl_law__law_pick : (defScope s_law).names.lookup ("_law_pick" : Str) = some .globalImplicit := by decide +kernel
theorem gl_law_four_bytes : (defScope s_law).names.lookup ("four_bytes" : Str) = some .globalImplicit := by decide +kernel
theorem gl_law_repr : (defScope s_law).names.lookup ("repr" : Str) = some .globalImplicit := by decide +kernel
theorem gl_law__law_caught : (defScope s_law).names.lookup ("_law_caught" : Str) = some .globalImplicit := by decide +kernel
theorem gl_law_isinstance : (defScope s_law).names.lookup ("isinstance" : Str) = some .globalImplicit := by decide +kernel
theorem gl_law_BadNumber : (defScope s_law).names.lookup ("BadNumber" : Str) = some .globalImplicit := by decide +kernel
theorem gl_law_mark_of : (defScope s_law).names.lookup ("mark_of" : Str) = some .globalImplicit := by decide +kernel
theorem gl_law_tuple : (defScope s_law).names.lookup ("tuple" : Str) = some .globalImplicit := by decide +kernel
theorem gl_law_BadBytes : (defScope s_law).names.lookup ("BadBytes" : Str) = some .globalImplicit := by decide +kernel
def p_law_0_0 : SM := (sSet 3 (mCall 2 F__law_pick (mCons (mVar 1) (mCons (mLst (mCons (mC (.int 0)) (mCons (mC (.int 255)) (mCons (mC (.int 256)) (mCons (mC (.int 65535)) (mCons (mSub (mPow (mC (.int 2)) (mC (.int 32))) (mC (.int 1))) (mCons (mCall 2 F__law_take (mCons (mVar 1) (mCons (mPow (mC (.int 2)) (mC (.int 32))) mNil))) (mCons (mCall 2 F__law_take (mCons (mVar 1) (mCons (mC (.int 70000)) mNil))) mNil)))))))) mNil))))
def p_law_0_1 : SM := (sSet 4 (mTup (mCons (mMod (mVar 3) (mC (.int 256))) (mCons (mMod (mFdiv (mVar 3) (mC (.int 256))) (mC (.int 256))) (mCons (mMod (mFdiv (mVar 3) (mC (.int 65536))) (mC (.int 256))) (mCons (mFdiv (mVar 3) (mC (.int 16777216))) mNil))))))
def p_law_0_2 : SM := (sIf (mOr (mTest (mOp fNeS (mCB fRepr (mCons (mCall 1 F_four_bytes (mCons (mVar 3) mNil)) mNil)) (mCB fRepr (mCons (mVar 4) mNil)))) (mTest (mOp fNe (mCallK 1 1 @perm_1_0 F_four_bytes (mCons (mVar 3) mNil)) (mVar 4)))) (sRet (mC (.bl false))) sNx)
def p_law_0_3 : SM := (sSet 5 (mCaught ns (mCall 1 F_four_bytes (mCons (mCall 2 F__law_pick (mCons (mVar 1) (mCons (mLst (mCons (mC .non) (mCons (mC (.bl true)) (mCons (mNeg (mC (.int 1))) (mCons (mPow (mC (.int 2)) (mC (.int 32))) (mCons (mC (.str "1")) mNil)))))) mNil))) mNil))))
def p_law_0_4 : SM := (sIf (mOr (mNot (mTest (mIsC ns sub "BadNumber" (mVar 5)))) (mTest (mOp fNe (mExF ns "part" (mVar 5)) (mC (.str "number"))))) (sRet (mC (.bl false))) sNx)
def p_law_0_5 : SM := (sSet 6 (mLc (iRange (mCons (mCall 2 F__law_take (mCons (mVar 1) (mCons (mC (.int 30)) mNil))) mNil)) (gNm 9) tTT (mCall 2 F__law_pick (mCons (mVar 1) (mCons (mLst (mCons (mC (.int 0)) (mCons (mC (.int 255)) (mCons (mCall 2 F__law_take (mCons (mVar 1) (mCons (mC (.int 256)) mNil))) mNil)))) mNil))) [9]))
def p_law_0_6 : SM := (sSet 4 (mC (.int 2166136261)))
def p_law_0_7_0 : SM := (sSet 4 (mMod (mMul (mBxor (mVar 4) (mVar 7)) (mC (.int 16777619))) (mPow (mC (.int 2)) (mC (.int 32)))))
def p_law_0_7 : SM := (sFor (iSq (mVar 6)) (gNm 7) p_law_0_7_0)
def p_law_0_8 : SM := (sIf (mOr (mTest (mOp fNeS (mCB fRepr (mCons (mCall 1 F_mark_of (mCons (mVar 6) mNil)) mNil)) (mCB fRepr (mCons (mVar 4) mNil)))) (mTest (mOp fNe (mCallK 1 1 @perm_1_0 F_mark_of (mCons (mCB fTuple (mCons (mVar 6) mNil)) mNil)) (mVar 4)))) (sRet (mC (.bl false))) sNx)
def p_law_0_9_0 : SM := (sSet 5 (mCaught ns (mCall 1 F_mark_of (mCons (mVar 8) mNil))))
def p_law_0_9_1 : SM := (sIf (mOr (mNot (mTest (mIsC ns sub "BadBytes" (mVar 5)))) (mTest (mOp fNotN (mExF ns "at" (mVar 5)) (mC .non)))) (sRet (mC (.bl false))) sNx)
def p_law_0_9 : SM := (sFor (iSq (mLst (mCons (mC .non) (mCons (mC (.int 5)) (mCons (mC (.str "bytes")) (mCons (mC (.dic [] [])) (mCons (mLst (mCons (mC (.int 256)) mNil)) (mCons (mTup (mCons (mNeg (mC (.int 1))) mNil)) (mCons (mLst (mCons (mC (.bl true)) mNil)) (mCons (mTup (mCons (mC .non) mNil)) (mCons (mLst (mCons (mC (.str "0")) mNil)) (mCons (mOp fAdd (mVar 6) (mLst (mCons (mC .non) mNil))) (mCons (mOp fAdd (mVar 6) (mLst (mCons (mC (.int 256)) mNil))) mNil))))))))))))) (gNm 8) (sSeq p_law_0_9_0 p_law_0_9_1))
def p_law_0 : SM := (sFor (iRange (mCons (mOp fAdd (mC (.int 1)) (mCB fMin (mCons (mCB fLen (mCons (mVar 0) mNil)) (mCons (mC (.int 6)) mNil)))) mNil)) (gNm 2) (sSeq p_law_0_0 (sSeq p_law_0_1 (sSeq p_law_0_2 (sSeq p_law_0_3 (sSeq p_law_0_4 (sSeq p_law_0_5 (sSeq p_law_0_6 (sSeq p_law_0_7 (sSeq p_law_0_8 p_law_0_9))))))))))
def m_law : SM := (sSeq p_law_0 (sRet (mC (.bl true))))
theorem b_law (T : Ty K mg) (G__law_pick : Good P w K mg base "_law_pick" "_law_pick" s__law_pick 3 ["draw", "some"] F__law_pick) (G__law_take : Good P w K mg base "_law_take" "_law_take" s__law_take 2 ["draw", "amount"] F__law_take) (G_four_bytes : Good P w K mg base "four_bytes" "four_bytes" s_four_bytes 3 ["number"] F_four_bytes) (G_mark_of : Good P w K mg base "mark_of" "mark_of" s_mark_of 4 ["thing"] F_mark_of) {fdc : FuncData} (Fc : FunD K "_law_caught" "_law_caught" (defArgs s__law_caught) (defBody s__law_caught) (defScope s__law_caught) [] [] (He.fAd K ("_law_caught", none)) fdc) (TB : LamX.TabB base mg (He.codeOf K ("law", none)) (He.cT K ("law", none)).2) (hgd : (cxF P w K mg base ["script", "draw", "turn", "number", "due", "caught", "some", "byte", "bad", "lap"] "law" s_law ("law", none) A outer s H E).A.guards = some []) (hr : Room 6 (cxF P w K mg base ["script", "draw", "turn", "number", "due", "caught", "some", "byte", "bad", "lap"] "law" s_law ("law", none) A outer s H E).A) : BX (cxF P w K mg base ["script", "draw", "turn", "number", "due", "caught", "some", "byte", "bad", "lap"] "law" s_law ("law", none) A outer s H E) E (defBody s_law).tail m_law :=
  (bx_cons (sx_for cx_own rfl (ix_range gl_law_range T.f_range (ax_cons (px_add px_int (px_min rfl gl_law_min T.f_min (ax_cons (px_len gl_law_len T.f_len (ax_cons (px_var 0) ax_nil)) (ax_cons px_int ax_nil)))) ax_nil)) (gx_name 2 sc_law.nd) (bx_cons (sx_set 3 sc_law.nd (px_call G__law_pick (hr.mono (by decide)) cx_passes gl_law__law_pick (ax_cons (px_var 1) (ax_cons (px_lst (ax_cons px_int (ax_cons px_int (ax_cons px_int (ax_cons px_int (ax_cons (px_sub (px_pow px_int px_int) px_int) (ax_cons (px_call G__law_take (hr.mono (by decide)) cx_passes gl_law__law_take (ax_cons (px_var 1) (ax_cons (px_pow px_int px_int) ax_nil))) (ax_cons (px_call G__law_take (hr.mono (by decide)) cx_passes gl_law__law_take (ax_cons (px_var 1) (ax_cons px_int ax_nil))) ax_nil)))))))) ax_nil)))) (bx_cons (sx_set 4 sc_law.nd (px_tup (ax_cons (px_mod (px_var 3) px_int) (ax_cons (px_mod (px_fdiv (px_var 3) px_int) px_int) (ax_cons (px_mod (px_fdiv (px_var 3) px_int) px_int) (ax_cons (px_fdiv (px_var 3) px_int) ax_nil)))))) (bx_cons (sx_if ((wx_or (tx_neS (px_repr hgd hr gl_law_repr T.f_repr (ax_cons (px_call G_four_bytes (hr.mono (by decide)) cx_passes gl_law_four_bytes (ax_cons (px_var 3) ax_nil)) ax_nil)) (px_repr hgd hr gl_law_repr T.f_repr (ax_cons (px_var 4) ax_nil))) (wx_or1 (tx_ne hr (px_callK (ks := ["number"]) @perm_1_0 perm_1_0_ok G_four_bytes (hr.mono (by decide)) cx_passes gl_law_four_bytes (kx_cons (px_var 3) kx_nil) (hb := fun _ _ _ _ _ _ ws h => match ws, h with | [_], _ => rfl)) (px_var 4))))).tx (bx_one (sx_ret px_bl)) bx_nil) (bx_cons (sx_set 5 sc_law.nd (px_caught (CW := He.ga K "WrongError") (ns := ns) (k := 3) (c := He.codeOf K ("law", none)) (P := (He.cT K ("law", none)).2) gl_law__law_caught T.g__law_caught Fc (binds_fd Fc (fun _ _ _ _ _ _ us h => match us, h with | [_], _ => rfl)) sc__law_caught (.inl (by decide +kernel)) (fun cdg q => caught_gives (X := (cxF P w K mg base ["script", "draw", "turn", "number", "due", "caught", "some", "byte", "bad", "lap"] "law" s_law ("law", none) A outer s H E)) (c := "WrongError") (by decide +kernel) T.g_WrongError (by decide) (by decide +kernel) (by decide +kernel)) (fun n hn => (exk T hn).2.2) TB rfl (List.mem_singleton.mpr rfl) (fun p hp _ => by rw [List.mem_singleton.mp hp]; rfl) (hr.mono (by decide)) (LamX.lamS_by (by kernel_rfl)) (fun A outer s H E2 f c2 hr2 => (px_call G_four_bytes (hr2.mono (by decide)) (passes_call (takes_of rfl rfl rfl rfl) fun _ _ _ _ h => h) (gl_k (by kernel_rfl)) (ax_cons (px_call G__law_pick (hr2.mono (by decide)) (passes_call (takes_of rfl rfl rfl rfl) fun _ _ _ _ h => h) (gl_k (by kernel_rfl)) (ax_cons (px_var 1) (ax_cons (px_lst (ax_cons px_non (ax_cons px_bl (ax_cons (px_neg px_int) (ax_cons (px_pow px_int px_int) (ax_cons px_str ax_nil)))))) ax_nil))) ax_nil))))) (bx_cons (sx_if ((wx_or (tx_not (tx_val (px_isC (X := cxF P w K mg base ["script", "draw", "turn", "number", "due", "caught", "some", "byte", "bad", "lap"] "law" s_law ("law", none) A outer s H E) (kinds_of T) (by decide +kernel) gl_law_isinstance T.f_isinstance gl_law_BadNumber (px_var 5)))) (wx_or1 (tx_ne hr (px_exf (X := cxF P w K mg base ["script", "draw", "turn", "number", "due", "caught", "some", "byte", "bad", "lap"] "law" s_law ("law", none) A outer s H E) (kinds_of T) (no_part T) (px_var 5)) px_str)))).tx (bx_one (sx_ret px_bl)) bx_nil) (bx_cons (sx_lc1 (i := 9) (q := 6) sc_law.nd (ix_range gl_law_range T.f_range (ax_cons (px_call G__law_take (hr.mono (by decide)) cx_passes gl_law__law_take (ax_cons (px_var 1) (ax_cons px_int ax_nil))) ax_nil)) (fun _ _ _ _ _ => (px_call G__law_pick (hr.mono (by decide)) passes_no (gl_k (by kernel_rfl)) (ax_cons (px_var 1) (ax_cons (px_lst (ax_cons px_int (ax_cons px_int (ax_cons (px_call G__law_take (hr.mono (by decide)) passes_no (gl_k (by kernel_rfl)) (ax_cons (px_var 1) (ax_cons px_int ax_nil))) ax_nil)))) ax_nil))))) (bx_cons (sx_set 4 sc_law.nd px_int) (bx_cons (sx_for cx_own rfl (ix_sq (px_var 6)) (gx_name 7 sc_law.nd) (bx_one (sx_set 4 sc_law.nd (px_mod (px_mul (px_bxor (px_var 4) (px_var 7)) px_int) (px_pow px_int px_int))))) (bx_cons (sx_if ((wx_or (tx_neS (px_repr hgd hr gl_law_repr T.f_repr (ax_cons (px_call G_mark_of (hr.mono (by decide)) cx_passes gl_law_mark_of (ax_cons (px_var 6) ax_nil)) ax_nil)) (px_repr hgd hr gl_law_repr T.f_repr (ax_cons (px_var 4) ax_nil))) (wx_or1 (tx_ne hr (px_callK (ks := ["thing"]) @perm_1_0 perm_1_0_ok G_mark_of (hr.mono (by decide)) cx_passes gl_law_mark_of (kx_cons (px_tuple gl_law_tuple T.f_tuple (ax_cons (px_var 6) ax_nil)) kx_nil) (hb := fun _ _ _ _ _ _ ws h => match ws, h with | [_], _ => rfl)) (px_var 4))))).tx (bx_one (sx_ret px_bl)) bx_nil) (bx_one (sx_for cx_own rfl (ix_sq (px_lst (ax_cons px_non (ax_cons px_int (ax_cons px_str (ax_cons px_dic0 (ax_cons (px_lst (ax_cons px_int ax_nil)) (ax_cons (px_tup (ax_cons (px_neg px_int) ax_nil)) (ax_cons (px_lst (ax_cons px_bl ax_nil)) (ax_cons (px_tup (ax_cons px_non ax_nil)) (ax_cons (px_lst (ax_cons px_str ax_nil)) (ax_cons (px_add (px_var 6) (px_lst (ax_cons px_non ax_nil))) (ax_cons (px_add (px_var 6) (px_lst (ax_cons px_int ax_nil))) ax_nil))))))))))))) (gx_name 8 sc_law.nd) (bx_cons (sx_set 5 sc_law.nd (px_caught (CW := He.ga K "WrongError") (ns := ns) (k := 4) (c := He.codeOf K ("law", none)) (P := (He.cT K ("law", none)).2) gl_law__law_caught T.g__law_caught Fc (binds_fd Fc (fun _ _ _ _ _ _ us h => match us, h with | [_], _ => rfl)) sc__law_caught (.inl (by decide +kernel)) (fun cdg q => caught_gives (X := (cxF P w K mg base ["script", "draw", "turn", "number", "due", "caught", "some", "byte", "bad", "lap"] "law" s_law ("law", none) A outer s H E)) (c := "WrongError") (by decide +kernel) T.g_WrongError (by decide) (by decide +kernel) (by decide +kernel)) (fun n hn => (exk T hn).2.2) TB rfl (List.mem_singleton.mpr rfl) (fun p hp _ => by rw [List.mem_singleton.mp hp]; rfl) (hr.mono (by decide)) (LamX.lamS_by (by kernel_rfl)) (fun A outer s H E2 f c2 hr2 => (px_call G_mark_of (hr2.mono (by decide)) (passes_call (takes_of rfl rfl rfl rfl) fun _ _ _ _ h => h) (gl_k (by kernel_rfl)) (ax_cons (px_var 8) ax_nil))))) (bx_one (sx_if ((wx_or (tx_not (tx_val (px_isC (X := cxF P w K mg base ["script", "draw", "turn", "number", "due", "caught", "some", "byte", "bad", "lap"] "law" s_law ("law", none) A outer s H E) (kinds_of T) (by decide +kernel) gl_law_isinstance T.f_isinstance gl_law_BadBytes (px_var 5)))) (wx_or1 (tx_notN (px_exf (X := cxF P w K mg base ["script", "draw", "turn", "number", "due", "caught", "some", "byte", "bad", "lap"] "law" s_law ("law", none) A outer s H E) (kinds_of T) (no_at T) (px_var 5)) px_non)))).tx (bx_one (sx_ret px_bl)) bx_nil))))))))))))))) (bx_one (sx_ret px_bl)))
def lawK : Nat := 6
theorem law_fd {fd : FuncData} (F : FunD K "law" "law" (defArgs s_law) (defBody s_law) (defScope s_law) [] [] (He.fAd K ("law", none)) fd) (T : Ty K mg) (TB : LamX.TabB base mg (He.codeOf K ("law", none)) (He.cT K ("law", none)).2) (pu : ∀ ns : List Int, ns.length ≤ 16777216 → m_law (some (.scr ns) :: some .drw :: List.replicate 8 none) { nx := fun _ => False, rt := fun d => d = .bl true }) :
    FnG P w K mg base (L2.CX P w) (6 + 1) (He.fAd K ("law", none)) fd ["script"] (spLaw K) := by
  have G_is_number : Good P w K mg base "is_number" "is_number" s_is_number 1 ["thing"] F_is_number := good_is_number T 
  have G_is_number_in : Good P w K mg base "is_number_in" "is_number_in" s_is_number_in 2 ["thing", "low", "high"] F_is_number_in := good_is_number_in T G_is_number
  have G_is_row : Good P w K mg base "is_row" "is_row" s_is_row 1 ["thing"] F_is_row := good_is_row T 
  have G_is_byte_row : Good P w K mg base "is_byte_row" "is_byte_row" s_is_byte_row 3 ["thing"] F_is_byte_row := good_is_byte_row T G_is_row G_is_number_in
  have G_low_bytes : Good P w K mg base "low_bytes" "low_bytes" s_low_bytes 1 ["number", "many"] F_low_bytes := good_low_bytes T 
  have G_four_bytes : Good P w K mg base "four_bytes" "four_bytes" s_four_bytes 3 ["number"] F_four_bytes := good_four_bytes T G_is_number_in G_low_bytes
  have G_mark_of : Good P w K mg base "mark_of" "mark_of" s_mark_of 4 ["thing"] F_mark_of := good_mark_of T G_is_byte_row
  have G__law_mixed : Good P w K mg base "_law_mixed" "_law_mixed" s__law_mixed 1 ["draw"] F__law_mixed := good__law_mixed T 
  have G__law_take : Good P w K mg base "_law_take" "_law_take" s__law_take 2 ["draw", "amount"] F__law_take := good__law_take T G__law_mixed
  have G__law_pick : Good P w K mg base "_law_pick" "_law_pick" s__law_pick 3 ["draw", "some"] F__law_pick := good__law_pick T G__law_take
  obtain ⟨fdc, Fc⟩ := T.d__law_caught
  exact law_okG (N' := ["turn", "number", "due", "caught", "some", "byte", "bad", "lap"]) ("law", none) ("_law_begun", none) F sc_law (begun_law T) (by decide) T.g__law_begun (by decide +kernel) (by first | exact Or.inl rfl | exact Or.inr (Or.inl rfl) | exact Or.inr (Or.inr rfl)) (by first | exact Or.inl rfl | exact Or.inr rfl) (fun _ _ _ _ _ => by first | exact .inl rfl | exact .inr rfl) rfl
    (fun A outer s H E hgd hr => b_law T G__law_pick G__law_take G_four_bytes G_mark_of Fc TB hgd hr) (fun A outer s H E X e => by rw [e]; rfl) pu
end
end K02
namespace K02
open PySem PySem.Spec PyProof.Rows L2 Fw
theorem xor_nn {x y : Int} (hx : 0 ≤ x) (hy : 0 ≤ y) : 0 ≤ Builtin.bitXor x y := by
  have e : Builtin.bitXor x y = Builtin.bitOr x y - Builtin.bitAnd x y := rfl
  rw [e, bitOr_and, bitAnd_pp hx hy]
  have h1 : x.toNat &&& y.toNat ≤ x.toNat := Nat.and_le_left
  have h2 : x.toNat &&& y.toNat ≤ y.toNat := Nat.and_le_right
  omega
theorem and_32 {x : Int} (h : 0 ≤ x) : Builtin.bitAnd x 4294967295 = x % 4294967296 := by
  rw [bitAnd_pp h (by decide)]
  have : x.toNat &&& 4294967295 = x.toNat % 2 ^ 32 := Nat.and_two_pow_sub_one_eq_mod _ 32
  show ((x.toNat &&& 4294967295 : Nat) : Int) = _
  rw [this]
  omega
theorem markI_eq {m b : Int} (hm : 0 ≤ m) (hb : 0 ≤ b) : markI m b = Builtin.bitXor m b * 16777619 % 4294967296 := and_32 (Int.mul_nonneg (xor_nn hm hb) (by decide))
theorem markI_nn {m b : Int} (hm : 0 ≤ m) (hb : 0 ≤ b) : 0 ≤ markI m b ∧ markI m b < 4294967296 := by
  rw [markI_eq hm hb]
  omega
theorem markF_nn : ∀ (ns : List Int) (m : Int), 0 ≤ m ∧ m < 4294967296 → (∀ n ∈ ns, 0 ≤ n ∧ n ≤ 255) → 0 ≤ ns.foldl markI m ∧ ns.foldl markI m < 4294967296
  | [], m, h, _ => h
  | n :: ns, m, h, hn => markF_nn ns _ (markI_nn h.1 (hn n List.mem_cons_self).1) fun k hk => hn k (List.mem_cons_of_mem _ hk)
theorem eqd_refl_ints : ∀ ns : List Int, eqd (.tup (ns.map D.int)) (.tup (ns.map D.int)) = true := by
  intro ns
  have h : ∀ ns : List Int, PyData.eqvAll (toPs (ns.map D.int)) (toPs (ns.map D.int)) = true := by
    intro ns
    induction ns with
    | nil => rfl
    | cons n ns ih =>
      show (PyData.eqv (.int n) (.int n) && PyData.eqvAll (toPs (ns.map D.int)) (toPs (ns.map D.int))) = true
      rw [ih, Bool.and_true]
      show (n == n) = true
      simp
  exact h ns
theorem eqOk_ints (ns : List Int) : eqOk (.tup (ns.map D.int)) := by
  obtain ⟨h1, h2⟩ := ints_pd ns
  refine ⟨h1, ?_⟩
  show PyData.depthAll (toPs (ns.map D.int)) + 1 ≤ 64
  rw [h2]
  decide
/-- the law's own loop -/
theorem due_go {F : SE} {a0 a1 a2 a3 a5 a6 a8 a9 : Option D} : ∀ (ns : List Int) (m : Int) (c : Option D), 0 ≤ m ∧ m < 4294967296 → (∀ n ∈ ns, 0 ≤ n ∧ n ≤ 255) → (∀ c, F.nx [a0, a1, a2, a3, some (.int (ns.foldl markI m)), a5, a6, c, a8, a9]) →
    forGo (gNm 7) (sSet 4 (mMod (mMul (mBxor (mVar 4) (mVar 7)) (mC (.int 16777619))) (mPow (mC (.int 2)) (mC (.int 32))))) F (ns.map D.int) [a0, a1, a2, a3, some (.int m), a5, a6, c, a8, a9]
  | [], m, c, _, _, h => h c
  | n :: ns, m, c, hm, hn, h => by
    rw [List.map_cons]
    refine forGo_cons ?_
    have cp : CPow 2 32 := ⟨by decide, by decide, by decide⟩
    have cm : ∀ i : Int, CMul i 16777619 := fun i => .inr ⟨by decide, by decide⟩
    have e32 : (2 : Int) ^ (32 : Int).toNat = 4294967296 := by decide
    have hb := (hn n List.mem_cons_self).1
    walk_at "fwx"
    simp only [cp, cm, true_and, e32, ← markI_eq hm.1 hb]
    exact ⟨by decide, due_go ns _ _ (markI_nn hm.1 hb) (fun k hk => hn k (List.mem_cons_of_mem _ hk)) h⟩
/-- the drawn row -/
theorem some_go {d0 d2 d3 d4 d5 d6 d7 d8 : Option D} {k : List D → Prop} : ∀ (js : List D) (acc : List Int), acc.length + js.length ≤ 16777216 → (∀ n ∈ acc, 0 ≤ n ∧ n ≤ 255) →
    (∀ ns : List Int, ns.length = acc.length + js.length → (∀ n ∈ ns, 0 ≤ n ∧ n ≤ 255) → k (ns.map D.int)) →
    lcGo (gNm 9) tTT (mCall 2 F__law_pick (mCons (mVar 1) (mCons (mLst (mCons (mC (.int 0)) (mCons (mC (.int 255)) (mCons (mCall 2 F__law_take (mCons (mVar 1) (mCons (mC (.int 256)) mNil))) mNil)))) mNil)))
      [d0, some .drw, d2, d3, d4, d5, d6, d7, d8, none] k js (acc.map D.int)
  | [], acc, _, ha, h => by
    unfold lcGo
    exact h acc (by simp) ha
  | j :: js, acc, hl, ha, h => by
    rw [List.length_cons] at hl h
    unfold lcGo F__law_pick F__law_take
    walk_at "fwx"
    simp only [if_true]
    walk_at "fwx"
    refine ⟨by decide, by decide, fun t ht0 ht1 => ⟨_, .inl rfl, by show 0 < 3; decide, by show 3 ≤ 16777216; decide, fun x hx => ?_⟩⟩
    obtain ⟨n, rfl, hn⟩ : ∃ n : Int, x = .int n ∧ 0 ≤ n ∧ n ≤ 255 := by
      simp only [List.mem_cons, List.not_mem_nil, or_false] at hx
      rcases hx with rfl | rfl | rfl
      · exact ⟨_, rfl, by decide, by decide⟩
      · exact ⟨_, rfl, by decide, by decide⟩
      · exact ⟨_, rfl, ht0, by omega⟩
    refine ⟨by rw [List.length_map]; omega, ?_⟩
    have := some_go (d0 := d0) (d2 := d2) (d3 := d3) (d4 := d4) (d5 := d5) (d6 := d6) (d7 := d7) (d8 := d8) (k := k) js (acc ++ [n]) (by rw [List.length_append, List.length_singleton]; omega) (by
      intro m hm
      rcases List.mem_append.mp hm with hm | hm
      · exact ha m hm
      · rw [List.mem_singleton.mp hm]
        exact hn) (fun ns hns => h ns (by rw [hns, List.length_append, List.length_singleton]; omega))
    rw [List.map_append] at this
    exact this
theorem fLen_scr {ns : List Int} {z : D} : fLen [.scr ns] z ↔ z = .int (ns.length : Nat) := ⟨fun ⟨x, n, h1, h2, h⟩ => by cases h1; cases h2; exact h, fun h => ⟨_, _, rfl, rfl, h⟩⟩
abbrev due4 (n : Int) : D := .tup [.int (n % 256), .int (n / 256 % 256), .int (n / 65536 % 256), .int (n / 16777216)]
theorem due4_ints (n : Int) : due4 n = .tup ([n % 256, n / 256 % 256, n / 65536 % 256, n / 16777216].map D.int) := rfl
theorem same4 {n : Int} (h0 : 0 ≤ n) (h1 : n ≤ 4294967295) : D.tup [.int (n % 256), .int (n / 256 % 256), .int (n / 65536 % 256), .int (n / 16777216 % 256)] = due4 n := by
  have : n / 16777216 % 256 = n / 16777216 := by omega
  rw [this]
section
variable {F : SE} {a0 a1 a2 a3 a4 a5 a6 a7 a8 a9 : Option D}
theorem l0_0 (h : ∀ n : Int, 0 ≤ n → n ≤ 4294967295 → F.nx [a0, some .drw, a2, some (.int n), a4, a5, a6, a7, a8, a9]) : p_law_0_0 [a0, some .drw, a2, a3, a4, a5, a6, a7, a8, a9] F := by
  have cp : CPow 2 32 := ⟨by decide, by decide, by decide⟩
  have e32 : (2 : Int) ^ (32 : Int).toNat = 4294967296 := by decide
  unfold p_law_0_0 F__law_pick F__law_take
  walk_at "fwx"
  simp only [cp, true_and, e32]
  refine ⟨by decide, by decide, fun t ht0 ht1 => ⟨by decide, by decide, fun t2 ht20 ht21 => ⟨_, .inl rfl, by show 0 < 7; decide, by show 7 ≤ 16777216; decide, fun x hx => ?_⟩⟩⟩
  simp only [List.mem_cons, List.not_mem_nil, or_false] at hx
  rcases hx with rfl | rfl | rfl | rfl | rfl | rfl | rfl
  · exact h _ (by decide) (by decide)
  · exact h _ (by decide) (by decide)
  · exact h _ (by decide) (by decide)
  · exact h _ (by decide) (by decide)
  · exact h _ (by decide) (by decide)
  · exact h _ ht0 (by omega)
  · exact h _ ht20 (by omega)
theorem l0_1 {n : Int} (h : F.nx [a0, a1, a2, some (.int n), some (due4 n), a5, a6, a7, a8, a9]) : p_law_0_1 [a0, a1, a2, some (.int n), a4, a5, a6, a7, a8, a9] F := by
  have c256 : ∀ i : Int, CDivW i 256 := fun i => ⟨by decide, by decide⟩
  have c65536 : ∀ i : Int, CDivW i 65536 := fun i => ⟨by decide, by decide⟩
  have c24 : ∀ i : Int, CDivW i 16777216 := fun i => ⟨by decide, by decide⟩
  unfold p_law_0_1
  walk_at "fwx"
  simp only [c256, c65536, c24, true_and]
  exact ⟨by decide, by decide, by decide, h⟩
theorem due_small {n : Int} (h0 : 0 ≤ n) (h1 : n ≤ 4294967295) : ∀ m ∈ [n % 256, n / 256 % 256, n / 65536 % 256, n / 16777216], m.natAbs < 10 ^ 12 := by
  intro m hm
  simp only [List.mem_cons, List.not_mem_nil, or_false] at hm
  have e : (10 : Nat) ^ 12 = 1000000000000 := by decide
  rcases hm with rfl | rfl | rfl | rfl <;> omega
theorem l0_2 {n : Int} (h0 : 0 ≤ n) (h1 : n ≤ 4294967295) (h : F.nx [a0, a1, a2, some (.int n), some (due4 n), a5, a6, a7, a8, a9]) : p_law_0_2 [a0, a1, a2, some (.int n), some (due4 n), a5, a6, a7, a8, a9] F := by
  have ro : ReprOk (due4 n) := reprOk_ints (due_small h0 h1) (by show 4 ≤ 1000; decide)
  have eo : eqOk (due4 n) := eqOk_ints [n % 256, n / 256 % 256, n / 65536 % 256, n / 16777216]
  have er : eqd (due4 n) (due4 n) = true := eqd_refl_ints [n % 256, n / 256 % 256, n / 65536 % 256, n / 16777216]
  have key : ∀ {q : D → Prop} {x : EX → Prop}, q (due4 n) → F_four_bytes [.int n] q x := by
    intro q x hq
    refine ⟨_, rfl, rfl, fun m e m0 m1 => ?_, fun z => ?_⟩
    · cases e
      rw [same4 h0 h1]
      exact hq
    · have : inR (.int n) 0 4294967295 = true := by
        show (decide _ && decide _) = true
        simp [h0, h1]
      rw [this] at z
      cases z
  unfold p_law_0_2 perm_1_0
  walk_at "fwx"
  refine key ?_
  refine ⟨ro, ro, ?_⟩
  simp only [decide_true, Bool.not_true, Bool.false_eq_true, if_false]
  refine key ?_
  refine ⟨_, ⟨eo, eo, rfl⟩, _, rfl, ?_⟩
  rw [er]
  exact h
theorem l0_3 (h : F.nx [a0, some .drw, a2, a3, a4, some (.err "BadNumber" [("part", .str "number")]), a6, a7, a8, a9]) : p_law_0_3 [a0, some .drw, a2, a3, a4, a5, a6, a7, a8, a9] F := by
  have cp : CPow 2 32 := ⟨by decide, by decide, by decide⟩
  have e32 : (2 : Int) ^ (32 : Int).toNat = 4294967296 := by decide
  unfold p_law_0_3 mCaught F__law_pick
  walk_at "fwx"
  simp only [cp, true_and, e32]
  refine ⟨_, .inl rfl, by show 0 < 5; decide, by show 5 ≤ 16777216; decide, fun x hx => ?_⟩
  simp only [List.mem_cons, List.not_mem_nil, or_false] at hx
  have key : isErr x = false → inR x 0 4294967295 = false → F_four_bytes [x] (fun _ => F.nx [a0, some .drw, a2, a3, a4, some .non, a6, a7, a8, a9]) fun x => x.1 ∈ ns ∧ F.nx [a0, some .drw, a2, a3, a4, some (.err x.1 x.2), a6, a7, a8, a9] := by
    intro he hi
    refine ⟨_, rfl, he, fun m e m0 m1 => ?_, fun _ => ⟨by decide, h⟩⟩
    subst e
    have : inR (.int m) 0 4294967295 = true := by
      show (decide _ && decide _) = true
      simp [m0, m1]
    rw [this] at hi
    cases hi
  rcases hx with rfl | rfl | rfl | rfl | rfl
  · exact key rfl rfl
  · exact key rfl rfl
  · exact key rfl rfl
  · exact key rfl rfl
  · exact key rfl rfl
theorem l0_4 (h : F.nx [a0, a1, a2, a3, a4, some (.err "BadNumber" [("part", .str "number")]), a6, a7, a8, a9]) : p_law_0_4 [a0, a1, a2, a3, a4, some (.err "BadNumber" [("part", .str "number")]), a6, a7, a8, a9] F := by
  unfold p_law_0_4 mIsC mExF
  walk_at "fwx"
  have hs : sub "BadNumber" "BadNumber" = true := by decide +kernel
  refine .inr ⟨_, _, rfl, by decide, ?_⟩
  simp only [hs, Bool.not_true, Bool.false_eq_true, if_false]
  refine ⟨_, _, rfl, by decide, _, rfl, _, ⟨⟨by decide +kernel, by decide +kernel⟩, ⟨by decide +kernel, by decide +kernel⟩, rfl⟩, _, rfl, ?_⟩
  have he : eqd (.str "number") (.str "number") = true := by decide +kernel
  rw [he]
  exact h
theorem l0_5 (h : ∀ ns : List Int, ns.length ≤ 30 → (∀ n ∈ ns, 0 ≤ n ∧ n ≤ 255) → F.nx [a0, some .drw, a2, a3, a4, a5, some (.lst (ns.map D.int)), a7, a8, a9]) : p_law_0_5 [a0, some .drw, a2, a3, a4, a5, a6, a7, a8, a9] F := by
  unfold p_law_0_5 mLc sSet
  have e1 : ∀ post ex, (iRange (mCons (mCall 2 F__law_take (mCons (mVar 1) (mCons (mC (.int 30)) mNil))) mNil) [a0, some .drw, a2, a3, a4, a5, a6, a7, a8, a9] post ex ↔
    F__law_take [.drw, .int 30] (fun x => ∃ n : Int, x = .int n ∧ (-(2 ^ 62) ≤ n ∧ n < 2 ^ 62) ∧ post ((List.range n.toNat).map fun (k : Nat) => D.int k)) ex) := by
    intro post ex
    walk_at "fwx"
  show iRange _ _ _ _
  rw [e1]
  refine ⟨_, rfl, by decide, by decide, fun j h0 h1 => ⟨_, rfl, by omega, ?_⟩⟩
  show lcGo _ _ _ [a0, some .drw, a2, a3, a4, a5, a6, a7, a8, none] _ _ _
  have len : ((List.range j.toNat).map fun (k : Nat) => D.int k).length = j.toNat := by simp
  refine some_go _ [] (by rw [len]; simp; omega) (fun _ z => nomatch z) fun ns e hn => ?_
  refine h ns ?_ hn
  rw [e, len]
  simp
  omega
theorem l0_6 (h : F.nx [a0, a1, a2, a3, some (.int 2166136261), a5, a6, a7, a8, a9]) : p_law_0_6 [a0, a1, a2, a3, a4, a5, a6, a7, a8, a9] F := by
  unfold p_law_0_6
  walk_at "fwx"
  exact h
variable {ns : List Int}
theorem l0_7 (hn : ∀ n ∈ ns, 0 ≤ n ∧ n ≤ 255) (h : ∀ a7, F.nx [a0, a1, a2, a3, some (.int (markF ns)), a5, some (.lst (ns.map D.int)), a7, a8, a9]) : p_law_0_7 [a0, a1, a2, a3, some (.int 2166136261), a5, some (.lst (ns.map D.int)), a7, a8, a9] F := by
  unfold p_law_0_7 p_law_0_7_0
  show ∃ d, _
  refine ⟨_, rfl, _, rfl, ?_⟩
  exact due_go ns _ _ ⟨by decide, by decide⟩ hn h
theorem lenOk_lst (hl : ns.length ≤ 40) (x : D) (hx : itemsD x = some (ns.map D.int)) : lenOk x := by
  intro xs e
  rw [hx] at e
  cases e
  rw [List.length_map]
  omega
theorem byte_ints (hn : ∀ n ∈ ns, 0 ≤ n ∧ n ≤ 255) : ((ns.map D.int).all fun x => inR x 0 255) = true := by
  rw [List.all_map, List.all_eq_true]
  intro n hm
  show (decide _ && decide _) = true
  simp [hn n hm]
theorem mark_key {q : D → Prop} {x : EX → Prop} (hl : ns.length ≤ 30) (hn : ∀ n ∈ ns, 0 ≤ n ∧ n ≤ 255) (d : D) (hd : d = .lst (ns.map D.int) ∨ d = .tup (ns.map D.int)) (hq : q (.int (markF ns))) : F_mark_of [d] q x := by
  have hi : itemsD d = some (ns.map D.int) := by rcases hd with rfl | rfl <;> rfl
  have hp : pd d = true := by rcases hd with rfl | rfl <;> exact (ints_pd ns).1
  refine ⟨d, rfl, okM_pd hp, lenOk_lst (by omega) d hi, fun ms e hm => ?_, fun z => ?_⟩
  · rw [hi] at e
    have : ns = ms := by
      have := Option.some.inj e
      exact (List.map_inj_right fun _ _ z => by cases z; rfl).mp this
    subst this
    exact hq
  · unfold byteB at z
    rw [hi] at z
    have z : ((ns.map D.int).all fun x => inR x 0 255) = false := z
    rw [byte_ints hn] at z
    cases z
theorem l0_8 (hl : ns.length ≤ 30) (hn : ∀ n ∈ ns, 0 ≤ n ∧ n ≤ 255) (h : F.nx [a0, a1, a2, a3, some (.int (markF ns)), a5, some (.lst (ns.map D.int)), a7, a8, a9]) :
    p_law_0_8 [a0, a1, a2, a3, some (.int (markF ns)), a5, some (.lst (ns.map D.int)), a7, a8, a9] F := by
  have mb := markF_nn ns 2166136261 ⟨by decide, by decide⟩ hn
  have mb : 0 ≤ markF ns ∧ markF ns < 4294967296 := mb
  have ro : ReprOk (.int (markF ns)) := reprOk_int (by omega)
  unfold p_law_0_8 perm_1_0
  walk_at "fwx"
  refine mark_key hl hn _ (.inl rfl) ?_
  refine ⟨ro, ro, ?_⟩
  simp only [decide_true, Bool.not_true, Bool.false_eq_true, if_false]
  refine ⟨_, ⟨_, _, rfl, rfl, rfl⟩, ?_⟩
  refine mark_key hl hn _ (.inr rfl) ?_
  refine ⟨_, ⟨⟨rfl, Nat.zero_le _⟩, ⟨rfl, Nat.zero_le _⟩, rfl⟩, _, rfl, ?_⟩
  have he : eqd (.int (markF ns)) (.int (markF ns)) = true := by
    rw [eqd_int]
    exact decide_eq_true rfl
  rw [he]
  exact h
theorem l0_9_0 {d : D} (ok : OkM d) (lo : lenOk d) (nb : byteB d = false) (h : F.nx [a0, a1, a2, a3, a4, some (.err "BadBytes" [("at", .non)]), a6, a7, some d, a9]) : p_law_0_9_0 [a0, a1, a2, a3, a4, a5, a6, a7, some d, a9] F := by
  unfold p_law_0_9_0 mCaught
  walk_at "fwx"
  refine ⟨d, rfl, ok, lo, fun ms e hm => ?_, fun _ => ⟨by decide, h⟩⟩
  unfold byteB at nb
  rw [e] at nb
  have nb : ((ms.map D.int).all fun x => inR x 0 255) = false := nb
  rw [byte_ints hm] at nb
  cases nb
theorem l0_9_1 (h : F.nx [a0, a1, a2, a3, a4, some (.err "BadBytes" [("at", .non)]), a6, a7, a8, a9]) : p_law_0_9_1 [a0, a1, a2, a3, a4, some (.err "BadBytes" [("at", .non)]), a6, a7, a8, a9] F := by
  unfold p_law_0_9_1 mIsC mExF
  walk_at "fwx"
  have hs : sub "BadBytes" "BadBytes" = true := by decide +kernel
  refine .inr ⟨_, _, rfl, by decide, ?_⟩
  simp only [hs, Bool.not_true, Bool.false_eq_true, if_false]
  refine ⟨_, _, rfl, by decide, _, rfl, _, ⟨rfl, rfl⟩, _, rfl, ?_⟩
  exact h
theorem okM_flat {d : D} (ne : isErr d = false) (ni : itemsD d = none) (nl : (isLstB d || isTupB d) = false) : OkM d := ⟨ne, (fun xs e => by rw [ni] at e; cases e), fun z => by rw [nl] at z; cases z⟩
theorem pds_app : ∀ (xs ys : List D), pds xs = true → pds ys = true → pds (xs ++ ys) = true
  | [], ys, _, h => h
  | x :: xs, ys, h, k => by
    have := pds_cons h
    show (pd x && pds (xs ++ ys)) = true
    rw [this.1, pds_app xs ys this.2 k]
    rfl
theorem l0_9 (hl : ns.length ≤ 30) (h : ∀ a5 a8, F.nx [a0, a1, a2, a3, a4, a5, some (.lst (ns.map D.int)), a7, a8, a9]) : p_law_0_9 [a0, a1, a2, a3, a4, a5, some (.lst (ns.map D.int)), a7, a8, a9] F := by
  unfold p_law_0_9
  walk_at "fwx"
  refine ⟨by rw [List.length_map]; omega, by rw [List.length_map]; omega, ?_⟩
  refine forGo_inv (I := fun δ => ∃ a5 a8, δ = [a0, a1, a2, a3, a4, a5, some (.lst (ns.map D.int)), a7, a8, a9]) _ _ ⟨_, _, rfl⟩ ?_ ?_
  · rintro d δ k hd ⟨a5, a8, rfl⟩ hk
    have big : ∀ y : D, pd y = true → inR y 0 255 = false → OkM (.lst (ns.map D.int ++ [y])) ∧ lenOk (.lst (ns.map D.int ++ [y])) ∧ byteB (.lst (ns.map D.int ++ [y])) = false := by
      intro y hy hn
      refine ⟨okM_pd (pds_app _ _ (ints_pd ns).1 (by show (pd y && true) = true; rw [hy]; rfl)), fun xs e => ?_, ?_⟩
      · cases e
        rw [List.length_append, List.length_map, List.length_singleton]
        omega
      · show ((ns.map D.int ++ [y]).all fun x => inR x 0 255) = false
        rw [List.all_append]
        simp [hn]
    have one : ∀ x : D, x = .lst [] ∨ True := fun _ => .inr trivial
    obtain ⟨ok, lo, nb⟩ : OkM d ∧ lenOk d ∧ byteB d = false := by
      simp only [List.mem_cons, List.not_mem_nil, or_false] at hd
      have small : ∀ xs : List D, xs.length = 1 → pds xs = true → (xs.all fun x => inR x 0 255) = false → (OkM (.lst xs) ∧ lenOk (.lst xs) ∧ byteB (.lst xs) = false) ∧ (OkM (.tup xs) ∧ lenOk (.tup xs) ∧ byteB (.tup xs) = false) := by
        intro xs h1 h2 h3
        exact ⟨⟨okM_pd h2, (fun ys e => by cases e; omega), h3⟩, okM_pd h2, (fun ys e => by cases e; omega), h3⟩
      rcases hd with rfl | rfl | rfl | rfl | rfl | rfl | rfl | rfl | rfl | rfl | rfl
      · exact ⟨okM_flat rfl rfl rfl, fun xs e => (by cases e), rfl⟩
      · exact ⟨okM_flat rfl rfl rfl, fun xs e => (by cases e), rfl⟩
      · exact ⟨okM_flat rfl rfl rfl, fun xs e => (by cases e), rfl⟩
      · exact ⟨okM_flat rfl rfl rfl, fun xs e => (by cases e), rfl⟩
      · exact (small [.int 256] rfl rfl (by decide)).1
      · exact (small [.int (-1)] rfl rfl (by decide)).2
      · exact (small [.bl true] rfl rfl (by decide)).1
      · exact (small [.non] rfl rfl (by decide)).2
      · exact (small [.str "0"] rfl (by decide +kernel) (by decide)).1
      · exact big .non rfl rfl
      · exact big (.int 256) rfl rfl
    walk_at "fwx"
    exact l0_9_0 ok lo nb (l0_9_1 (hk _ ⟨_, _, rfl⟩))
  · rintro δ ⟨a5, a8, rfl⟩
    exact h _ _
end
theorem pu_law (ns : List Int) (hl : ns.length ≤ 16777216) : m_law (some (.scr ns) :: some .drw :: List.replicate 8 none) { nx := fun _ => False, rt := fun d => d = .bl true } := by
  unfold m_law p_law_0
  walk_at "fwx"
  simp only [fLen_scr]
  walk_at "fwx"
  refine ⟨?_, ?_, ?_⟩
  · split <;> omega
  · split <;> omega
  refine forGo_inv (I := fun δ => ∃ a2 a3 a4 a5 a6 a7 a8 a9, δ = [some (.scr ns), some .drw, a2, a3, a4, a5, a6, a7, a8, a9]) _ _ ⟨_, _, _, _, _, _, _, _, rfl⟩ ?_ ?_
  · rintro d δ k hd ⟨a2, a3, a4, a5, a6, a7, a8, a9, rfl⟩ hk
    walk_at "fwx"
    refine l0_0 fun n n0 n1 => l0_1 (l0_2 n0 n1 (l0_3 (l0_4 (l0_5 fun ms hl hm => ?_))))
    dsimp only
    refine l0_6 ?_
    dsimp only
    refine l0_7 hm fun b7 => ?_
    dsimp only
    refine l0_8 hl hm ?_
    dsimp only
    exact l0_9 hl fun b5 b8 => hk _ ⟨_, _, _, _, _, _, _, _, rfl⟩
  · rintro δ ⟨a2, a3, a4, a5, a6, a7, a8, a9, rfl⟩
    walk_at "fwx"
end K02
namespace K02
open PySem PySem.Spec PyProof.Rows L2 Fw
theorem at_law {w : World} {K : PySem.W.Frag} {h : Heap} {mg : Str → Option Value} {f : Addr} (X : K.In h) (G : h.Ns mainGlobals mg) (hfa : mg ("law" : Str) = some (.ref f)) (c : Fw.SaysY fa fn tf ex h K) :
    LawAtG PySem.Challenge.rw_firstwrong_k02_rows_of_bytes w K (L2.CX (PySem.Challenge.rw_firstwrong_k02_rows_of_bytes).prog w) (6 + 1) 63 "script" mg f h := by
  have T : Ty K mg := ty_of X G c
  have e := hfa.symm.trans T.g_law
  have e : f = He.fAd K ("law", none) := by
    have := Option.some.inj e
    cases this
    rfl
  subst e
  obtain ⟨fd0, F0⟩ := T.d_law
  have b := FunD.bindsA (ps := ["script"]) F0 fun _ _ _ _ _ _ us hl => match us, hl with | [_], _ => rfl
  refine ⟨fd0, [He.cT K ("law", none)], spLaw K, ?_, fun s v => b s [v] rfl, ?_, ?_⟩
  · intro p hp
    rw [List.mem_singleton.mp hp]
    exact ⟨c.empty _ (List.mem_singleton.mpr rfl), c.out _ (List.mem_singleton.mpr rfl), PySem.W.codeHd_of_K X (c.hd _ (List.mem_singleton.mpr rfl))⟩
  · intro H a ns hl hT hS
    refine ⟨a, ns, rfl, hS, by omega, ?_, fun _ => rfl⟩
    intro p hp
    rw [List.mem_singleton.mp hp]
    exact LamX.TabS.nil (hT _ (List.mem_singleton.mpr rfl))
  · intro base _ _ TB
    exact law_fd (P := (PySem.Challenge.rw_firstwrong_k02_rows_of_bytes).prog) (w := w) (base := base) F0 T (TB _ (List.mem_singleton.mpr rfl)) fun ns hl => pu_law ns hl
end K02
open PySem PySem.W PySem.Calls PyProof.Rows
set_option maxRecDepth 100000 in
set_option maxHeartbeats 0 in
theorem PySem.Challenge.cw_firstwrong_k02_rows_of_bytes_holds : PySem.Challenge.rw_firstwrong_k02_rows_of_bytes.Holds := by
  w_on; o_law
  refine HandSHeadRun.head_any (r := OpenLaw.row PySem.Challenge.rw_firstwrong_k02_rows_of_bytes) (q := view (OpenLaw.row PySem.Challenge.rw_firstwrong_k02_rows_of_bytes).prog [K02.lawAt]) (H := K02.hk) (ob := K02.ob) (M := 20000) (loose := K02.loose) (d := HandSHeadRun.topDef (OpenLaw.row PySem.Challenge.rw_firstwrong_k02_rows_of_bytes).prog K02.lawAt) (kwd := []) K02.ob_eq
    (by kernel_rfl) (fun s => by kernel_rfl) K02.run (by kernel_rfl) (by kernel_rfl) (by kernel_rfl) (by rfl) (by first | assumption | decide +kernel) (by decide +kernel) ⟨rfl, rfl, rfl, rfl, rfl, by decide +kernel⟩ ?hw ?hc
  case hw => w_witness2
  case hc =>
    refine Fw.walk_ofG (l := PySem.Challenge.rw_firstwrong_k02_rows_of_bytes) (n := 63) (k := 6 + 1) (x := "script") (CX := fun w => L2.CX (PySem.Challenge.rw_firstwrong_k02_rows_of_bytes).prog w) rfl (by decide) (by kernel_rfl) ⟨rfl, by decide, by decide⟩ ?F ?cx
    case F =>
      intro w mg fa h Y G hmg0
      obtain ⟨K, KX, c⟩ := Y
      have hmg : mg ("law" : PySem.Str) = some (.ref fa) := by
        have e : (HandSHeadRun.topDef (OpenLaw.row PySem.Challenge.rw_firstwrong_k02_rows_of_bytes).prog K02.lawAt).name = ("law" : PySem.Str) := by kernel_rfl
        rw [← e]
        exact hmg0
      exact ⟨K, KX, K02.at_law KX G hmg c⟩
    case cx =>
      intro w H s e s' h
      obtain ⟨a, B, H', cls, d, _, _, _, _, _, _, _, h⟩ := h
      exact h.elim
