import PyProof.Rows.All
import Wide.All
import OpenK.AllK
import Wide.FinOn
import HandS.ForMost
import HandS.More
import HandS.Codes
import HandS.Defaults
import HandS.Property
import HandS.ClsMeth
import HandS.ExcIs
import HandS.RaiseMore
import HandS.ForExc
import HandS.IsInst
import HandS.DeepEq
import HandS.Deep
import HandS.StrMore
import HandS.SortKw
import HandS.Style
import KE.DatumOrd
import HandS.List
import HandS.Steps
import HandS.Iter
import HandS.Wide
import HandS.Walk
import PySem.Challenge.RW_viewloom_k30_best_rising_rows
set_option Elab.async false
set_option linter.all false
set_option maxRecDepth 100000
set_option maxHeartbeats 4000000
namespace VL
open PySem PySem.Spec PyProof.Rows L2

/-! ### defs, methods, classes, as callers see them -/
structure Cal (P : Program) (w : World) (K : PySem.W.Frag) (mg : Str → Option Value) (base : Heap) (k : Nat) (x : Str) (sp : Sp) : Prop where
  ex : ∃ (f : Addr) (fd : FuncData) (ps : List Str), FnOk P w K mg base CX0 k f fd ps sp ∧ mg x = some (.ref f) ∧ PySem.W.keepIn K (.ref f) = true ∧ Binds K fd ps []
structure Met (P : Program) (w : World) (K : PySem.W.Frag) (mg : Str → Option Value) (base : Heap) (k : Nat) (C : Addr) (m : Str) (sp : Sp) : Prop where
  ex : ∃ (f : Addr) (fd : FuncData) (ps : List Str), Cls K C ∧ Meth K C m f ∧ FnOk P w K mg base CX0 k f fd ps sp ∧ Binds K fd ps []
structure Mak (P : Program) (w : World) (K : PySem.W.Frag) (mg : Str → Option Value) (base : Heap) (k : Nat) (x : Str) (C : Addr) (sp : Sp) : Prop where
  ex : ∃ (f : Addr) (fd : FuncData) (ps : List Str), Mk K C f ∧ FnOk P w K mg base CX0 k f fd ps sp ∧ mg x = some (.ref C) ∧ Binds K fd ps []
section
variable {X : Cx} {k j : Nat} {C : Addr} {x m : Str} {sp : Sp} {p pos apos : Pos} {e o : Expr} {es : List Expr} {ta : TE} {t : TA}
theorem pe_c (c : Cal X.prog X.w X.K X.mg X.base k x sp) (hr : Room j X.A) (hk : k ≤ j) (hg : Gl X x) (ha : PA X (e :: es) t)
    (hdb : (x == ("__debug__" : Str)) = false := by decide) (he : starEach (e :: es) X.env = (false, eval e X.env) :: starEach es X.env := by rfl) (hpl : (backTo pos (starEach es X.env)).any (·.1) = false := by rfl) :
    PE X (.Call (.Name x p) (e :: es) [] pos) (tCall sp [] E0 t) := by
  obtain ⟨f, fd, ps, F, hm, kp, b⟩ := c.ex
  exact pe_call F (hr.mono hk) hg hm kp b .nil pass0 ha hdb he hpl
theorem pe_mk (c : Mak X.prog X.w X.K X.mg X.base k x C sp) (hr : Room j X.A) (hk : k + 1 ≤ j) (hg : Gl X x) (ha : PA X (e :: es) t)
    (hdb : (x == ("__debug__" : Str)) = false := by decide) (he : starEach (e :: es) X.env = (false, eval e X.env) :: starEach es X.env := by rfl) (hpl : (backTo pos (starEach es X.env)).any (·.1) = false := by rfl) :
    PE X (.Call (.Name x p) (e :: es) [] pos) (tMake C sp [] E0 t) := by
  obtain ⟨f, fd, ps, M, F, hm, b⟩ := c.ex
  exact pe_make M F (hr.mono hk) hg hm b .nil pass0 ha hdb he hpl
theorem pe_mk0 (c : Mak X.prog X.w X.K X.mg X.base k x C sp) (hr : Room j X.A) (hk : k + 1 ≤ j) (hg : Gl X x) (hdb : (x == ("__debug__" : Str)) = false := by decide) :
    PE X (.Call (.Name x p) [] [] pos) (tMake C sp [] E0 tNil) := by
  obtain ⟨f, fd, ps, M, F, hm, b⟩ := c.ex
  exact pe_make0 M F (hr.mono hk) hg hm b .nil pass0 hdb
theorem pe_mt {pl : Sem Bool} (c : Met X.prog X.w X.K X.mg X.base k C m sp) (hr : Room j X.A) (hk : k ≤ j) (he : PE X o ta) (ha : PA X (e :: es) t)
    (hst : starEach (e :: es) X.env = (false, eval e X.env) :: starEach es X.env := by rfl) (hpl : (backTo pos (starEach es X.env)).any (·.1) = false := by rfl)
    (ht : eval (.Call (.Attribute o m apos) (e :: es) [] pos) X.env = (do
      let ov ← eval o X.env
      standAt apos.atName
      let (f, first) ← holding [ov] (getMethod ov m pl)
      callWith pos f first (backTo pos (starEach (e :: es) X.env)) (backToKw pos (keywordEach [] X.env))) := by rfl) :
    PE X (.Call (.Attribute o m apos) (e :: es) [] pos) (tMeth C m sp [] E0 ta t) := by
  obtain ⟨f, fd, ps, hc, hm, F, b⟩ := c.ex
  exact pe_meth (pl := pl) he hc hm F (hr.mono hk) b .nil pass0 ha hst hpl ht
theorem pe_mt0 {pl : Sem Bool} (c : Met X.prog X.w X.K X.mg X.base k C m sp) (hr : Room j X.A) (hk : k ≤ j) (he : PE X o ta)
    (ht : eval (.Call (.Attribute o m apos) [] [] pos) X.env = (do
      let ov ← eval o X.env
      standAt apos.atName
      let (f, first) ← holding [ov] (getMethod ov m pl)
      callWith pos f first (backTo pos (starEach [] X.env)) (backToKw pos (keywordEach [] X.env))) := by rfl) :
    PE X (.Call (.Attribute o m apos) [] [] pos) (tMeth C m sp [] E0 ta tNil) := by
  obtain ⟨f, fd, ps, hc, hm, F, b⟩ := c.ex
  exact pe_meth0 (pl := pl) he hc hm F (hr.mono hk) b .nil pass0 ht
end

/-! ### what the text has -/
def DefE (K : PySem.W.Frag) (mg : Str → Option Value) (x : Str) (st : Stmt) (ps : List Str) : Prop := ∃ (f : Addr) (fd : FuncData), Fun K x x st f fd ∧ mg x = some (.ref f) ∧ Binds K fd ps []
def MethE (K : PySem.W.Frag) (C : Addr) (x qual : Str) (st : Stmt) (ps : List Str) : Prop := ∃ (f : Addr) (fd : FuncData), Fun K x qual st f fd ∧ Meth K C x f ∧ Binds K fd ps []
def InitE (K : PySem.W.Frag) (mg : Str → Option Value) (cn : Str) (C : Addr) (qual : Str) (st : Stmt) (ps : List Str) : Prop := ∃ (f : Addr) (fd : FuncData), Fun K "__init__" qual st f fd ∧ Mk K C f ∧ mg cn = some (.ref C) ∧ Binds K fd ps []
/-- a global name of the module has the value v -/
abbrev GV (mg : Str → Option Value) (x : Str) (v : V) : Prop := ∃ u, mg x = some u ∧ RelV v u
section
variable {P : Program} {w : World} {K : PySem.W.Frag} {mg : Str → Option Value} {base : Heap}
theorem cal_of {x : Str} {st : Stmt} {ps N : List Str} {k : Nat} {sp : Sp} (D : DefE K mg x st ps) (S : FnScope N ps (defScope st)) (len : ∀ vs H Q E, sp vs H Q E → vs.length = ps.length)
    (hbody : ∀ (f : Addr) (cdv : Value) (A : Around) (outer : List Env) (s : Shared) (H : Hp) (vs : List V) (Q : VK) (E : XK), Room k (A.deeper (envOfC x (defScope st) s.heap.objs.size f cdv)) → sp vs H Q E →
      ∃ t, PSs (cxOf CX0 P w K mg base N x (defScope st) f cdv A outer s H E).nox (defBody st) t ∧ t { nx := fun _ H' => Q .non H', rt := Q } (start N vs) H) : Cal P w K mg base (k + 1) x sp := by
  obtain ⟨f, fd, F, hm, b⟩ := D
  exact ⟨f, fd, ps, F.ok S len (hbody f), hm, F.kp, b⟩
theorem met_of {C : Addr} {x qual : Str} {st : Stmt} {ps N : List Str} {k : Nat} {sp : Sp} (D : MethE K C x qual st ps) (c : Cls K C) (S : FnScope N ps (defScope st)) (len : ∀ vs H Q E, sp vs H Q E → vs.length = ps.length)
    (hbody : ∀ (f : Addr) (cdv : Value) (A : Around) (outer : List Env) (s : Shared) (H : Hp) (vs : List V) (Q : VK) (E : XK), Room k (A.deeper (envOfC qual (defScope st) s.heap.objs.size f cdv)) → sp vs H Q E →
      ∃ t, PSs (cxOf CX0 P w K mg base N qual (defScope st) f cdv A outer s H E).nox (defBody st) t ∧ t { nx := fun _ H' => Q .non H', rt := Q } (start N vs) H) : Met P w K mg base (k + 1) C x sp := by
  obtain ⟨f, fd, F, hm, b⟩ := D
  exact ⟨f, fd, ps, c, hm, F.ok S len (hbody f), b⟩
theorem mak_of {C : Addr} {cn qual : Str} {st : Stmt} {ps N : List Str} {k : Nat} {sp : Sp} (D : InitE K mg cn C qual st ps) (S : FnScope N ps (defScope st)) (len : ∀ vs H Q E, sp vs H Q E → vs.length = ps.length)
    (hbody : ∀ (f : Addr) (cdv : Value) (A : Around) (outer : List Env) (s : Shared) (H : Hp) (vs : List V) (Q : VK) (E : XK), Room k (A.deeper (envOfC qual (defScope st) s.heap.objs.size f cdv)) → sp vs H Q E →
      ∃ t, PSs (cxOf CX0 P w K mg base N qual (defScope st) f cdv A outer s H E).nox (defBody st) t ∧ t { nx := fun _ H' => Q .non H', rt := Q } (start N vs) H) : Mak P w K mg base (k + 1) cn C sp := by
  obtain ⟨f, fd, F, M, hm, b⟩ := D
  exact ⟨f, fd, ps, M, F.ok S len (hbody f), hm, b⟩
end
theorem ps_str_loc : True := trivial
end VL

set_option Elab.async false
set_option linter.all false
set_option maxRecDepth 100000
set_option maxHeartbeats 4000000
namespace VL
open PySem PySem.Spec PyProof.Rows L2

/-! ### what the text has: methods with keyword-only parameters, properties, written tuples, own exceptions without a text of their own -/
def WrT (K : PySem.W.Frag) (a : Addr) (xs : List V) : Prop := ∃ (o : Obj) (its : Array Value) (n : Nat), K.lookup a = some o ∧ o.cls = .type "tuple" ∧ o.data = .seq its n ∧ its.size ≤ sizeLine ∧ Vals xs its.toList ∧ o.dict = none
abbrev catG {α : Type} (us ws : List α) : List α := us ++ ws
def MethKE (K : PySem.W.Frag) (C : Addr) (x qual : Str) (st : Stmt) (ps : List Str) (n : Nat) (ks : List Str) : Prop :=
  ∃ (f : Addr) (fd : FuncData), Fun K x qual st f fd ∧ Meth K C x f ∧ KBn K fd ps n ks catG catG
def PropE (K : PySem.W.Frag) (C : Addr) (x qual : Str) (st : Stmt) : Prop := ∃ (p g : Addr) (fd : FuncData), PropOf K C x p g ∧ Fun K x qual st g fd ∧ Binds K fd ["self"] []
structure ExT (K : PySem.W.Frag) (mg : Str → Option Value) (x : Str) (D : Addr) : Prop where
  g : mg x = some (.ref D)
  xx : PySem.W.excIn K D [.type "ValueError", .type "Exception", .type "BaseException", .type "object"] "ValueError.__new__" = true
  kp : PySem.W.keepIn K (.ref D) = true
  bP : PySem.W.subIn K (.ref D) (.type "BaseException") = some true
  tP : PySem.W.typeIn K (.ref D) = some (.type "type")
  em : PySem.W.exmOne K (.ref D) (.ref D) = some true
  ec : ExcC K D
theorem fun_kbn {K : PySem.W.Frag} {x qual : Str} {st : Stmt} {f : Addr} {fd : FuncData} {ps : List Str} (F : Fun K x qual st f fd) (n : Nat) (ks : List Str)
    (h : ∀ (kV doc pm : Value) (an : Option Addr) (cdv ct : Value) (us ws : List Value), us.length = n → ws.length = ks.length → bindArgs (PySem.W.fnOf x qual (defArgs st) (defBody st) (defScope st) .none kV doc pm an cdv ct) ⟨us, ks.zip ws⟩ = pure (ps.zip (us ++ ws))) :
    KBn K fd ps n ks catG catG := by
  obtain ⟨oc, od, kV, doc, pm, an, cdv, ct, osl, rfl, lk, hcd⟩ := F.ex
  exact ⟨fun s us ws X l1 l2 => .of_eq (h kV doc pm an cdv ct us ws l1 l2), fun r1 r2 => r1.append r2⟩
/-! ### as callers see them -/
structure MetK (P : Program) (w : World) (K : PySem.W.Frag) (mg : Str → Option Value) (base : Heap) (k : Nat) (C : Addr) (m : Str) (sp : Sp) (n : Nat) (ks : List Str) (gV : List V → List V → List V) : Prop where
  ex : ∃ (f : Addr) (fd : FuncData) (ps : List Str) (g : List Value → List Value → List Value), Cls K C ∧ Meth K C m f ∧ FnOk P w K mg base CX0 k f fd ps sp ∧ KBn K fd ps n ks g gV
structure Pro (P : Program) (w : World) (K : PySem.W.Frag) (mg : Str → Option Value) (base : Heap) (k : Nat) (C : Addr) (x : Str) (sp : Sp) : Prop where
  ex : ∃ (p g : Addr) (fd : FuncData), Cls K C ∧ PropOf K C x p g ∧ FnOk P w K mg base CX0 k g fd ["self"] sp ∧ Binds K fd ["self"] []
/-- o.m(.., k = v, ..): n is one more than the values written -/
def tMethK (C : Addr) (m : Str) (sp : Sp) (n kn : Nat) (gV : List V → List V → List V) (ta : TE) (t tk : TA) : TE := fun σ H Q => ta σ H fun x H1 => ∃ a dx fs, x = .ref a ∧ H1 a = some (.ins C dx fs) ∧ fs.lookup m = none ∧ t σ H1 fun vs H2 => tk σ H2 fun zs H3 => vs.length + 1 = n ∧ zs.length = kn ∧ sp (gV (.ref a :: vs) zs) H3 Q E0
section
variable {X : Cx} {k j n : Nat} {C : Addr} {m x : Str} {ks : List Str} {sp : Sp} {pos apos : Pos} {e o : Expr} {es : List Expr} {kws : List Keyword} {ta : TE} {t tk : TA} {gV : List V → List V → List V}
theorem pe_mtK {pl : Sem Bool} (c : MetK X.prog X.w X.K X.mg X.base k C m sp n ks gV) (hr : Room j X.A) (hk : k ≤ j) (he : PE X o ta) (ha : PA X (e :: es) t) (hkw : PK X kws tk)
    (hall : (backToKw pos (keywordEach kws X.env)).all (·.1.isSome) = true := by rfl) (hks : (backToKw pos (keywordEach kws X.env)).filterMap (·.1) = ks := by rfl)
    (hst : starEach (e :: es) X.env = (false, eval e X.env) :: starEach es X.env := by rfl)
    (hpl : ((backTo pos (starEach (e :: es) X.env)).any (·.1) || (backToKw pos (keywordEach kws X.env)).any (·.1.isNone)) = false := by rfl)
    (ht : eval (.Call (.Attribute o m apos) (e :: es) kws pos) X.env = (do
      let ov ← eval o X.env
      standAt apos.atName
      let (f, first) ← holding [ov] (getMethod ov m pl)
      callWith pos f first (backTo pos (starEach (e :: es) X.env)) (backToKw pos (keywordEach kws X.env))) := by rfl) :
    PE X (.Call (.Attribute o m apos) (e :: es) kws pos) (tMethK C m sp n ks.length gV ta t tk) := by
  obtain ⟨f, fd, ps, g, hc, hm, F, b⟩ := c.ex
  refine ⟨fun pins s σ H Q I h => ?_⟩
  refine PySem.W.methodCall_KW (pl := pl) (thn (he.run pins s σ H _ I h) fun u s1 ⟨x, H1, I1, rx, a, dx, fs, ex, ea, l, q⟩ => ?_) ht
  subst ex
  obtain rfl : u = Value.ref a := rx
  refine getmeth_ok I1 ea hc hm l ?_
  refine PySem.W.callWith_KW (first := [.ref a]) (h₀ := X.base) I.ok.mod.kin hm.kp hall (thn (ha.run pos pins s1 σ H1 _ I1 q) fun us s2 ⟨vs, H2, I2, r, q2⟩ => ?_) hpl hst
  refine thn (hkw.run pos pins s2 σ H2 _ I2 q2) fun ws s3 ⟨zs, H3, I3, rz, l1, l2, q3⟩ => ⟨I3.kIn, ?_⟩
  rw [hks]
  exact run_fnN (us := .ref a :: us) (vs := .ref a :: vs) F (hr.mono hk) b pass0 I3 (.cons rfl r) rz l1 l2 q3
theorem pe_mtK0 {pl : Sem Bool} (c : MetK X.prog X.w X.K X.mg X.base k C m sp n ks gV) (hr : Room j X.A) (hk : k ≤ j) (he : PE X o ta) (hkw : PK X kws tk)
    (hall : (backToKw pos (keywordEach kws X.env)).all (·.1.isSome) = true := by rfl) (hks : (backToKw pos (keywordEach kws X.env)).filterMap (·.1) = ks := by rfl)
    (hpl : ((backTo pos (starEach [] X.env)).any (·.1) || (backToKw pos (keywordEach kws X.env)).any (·.1.isNone)) = false := by rfl)
    (ht : eval (.Call (.Attribute o m apos) [] kws pos) X.env = (do
      let ov ← eval o X.env
      standAt apos.atName
      let (f, first) ← holding [ov] (getMethod ov m pl)
      callWith pos f first (backTo pos (starEach [] X.env)) (backToKw pos (keywordEach kws X.env))) := by rfl) :
    PE X (.Call (.Attribute o m apos) [] kws pos) (tMethK C m sp n ks.length gV ta tNil tk) := by
  obtain ⟨f, fd, ps, g, hc, hm, F, b⟩ := c.ex
  refine ⟨fun pins s σ H Q I h => ?_⟩
  refine PySem.W.methodCall_KW (pl := pl) (thn (he.run pins s σ H _ I h) fun u s1 ⟨x, H1, I1, rx, a, dx, fs, ex, ea, l, q⟩ => ?_) ht
  subst ex
  obtain rfl : u = Value.ref a := rx
  refine getmeth_ok I1 ea hc hm l ?_
  refine PySem.W.callWith_KW0 (first := [.ref a]) (h₀ := X.base) I.ok.mod.kin hm.kp hall ?_ hpl
  refine thn (hkw.run pos pins s1 σ H1 _ I1 q) fun ws s3 ⟨zs, H3, I3, rz, l1, l2, q3⟩ => ⟨I3.kIn, ?_⟩
  rw [hks]
  exact run_fnN (us := [.ref a]) (vs := [.ref a]) F (hr.mono hk) b pass0 I3 (.cons rfl .nil) rz l1 l2 q3
theorem pe_pr (c : Pro X.prog X.w X.K X.mg X.base k C x sp) (hr : Room j X.A) (hk : k + 1 ≤ j) (he : PE X e ta) (hab : attributeBase e x X.env (eval e X.env) = eval e X.env := by rfl) : PE X (.Attribute e x pos) (tProp C sp [] E0 ta) := by
  obtain ⟨p, g, fd, hc, hp, F, b⟩ := c.ex
  exact pe_prop he hc hp F (hr.mono hk) b .nil pass0 hab
end
section
variable {P : Program} {w : World} {K : PySem.W.Frag} {mg : Str → Option Value} {base : Heap}
theorem metK_of {C : Addr} {x qual : Str} {st : Stmt} {ps ks N : List Str} {k n : Nat} {sp : Sp} (D : MethKE K C x qual st ps n ks) (c : Cls K C) (S : FnScope N ps (defScope st)) (len : ∀ vs H Q E, sp vs H Q E → vs.length = ps.length)
    (hbody : ∀ (f : Addr) (cdv : Value) (A : Around) (outer : List Env) (s : Shared) (H : Hp) (vs : List V) (Q : VK) (E : XK), Room k (A.deeper (envOfC qual (defScope st) s.heap.objs.size f cdv)) → sp vs H Q E →
      ∃ t, PSs (cxOf CX0 P w K mg base N qual (defScope st) f cdv A outer s H E).nox (defBody st) t ∧ t { nx := fun _ H' => Q .non H', rt := Q } (start N vs) H) : MetK P w K mg base (k + 1) C x sp n ks catG := by
  obtain ⟨f, fd, F, hm, b⟩ := D
  exact ⟨f, fd, ps, _, c, hm, F.ok S len (hbody f), b⟩
theorem pro_of {C : Addr} {x qual : Str} {st : Stmt} {N : List Str} {k : Nat} {sp : Sp} (D : PropE K C x qual st) (c : Cls K C) (S : FnScope N ["self"] (defScope st)) (len : ∀ vs H Q E, sp vs H Q E → vs.length = 1)
    (hbody : ∀ (f : Addr) (cdv : Value) (A : Around) (outer : List Env) (s : Shared) (H : Hp) (vs : List V) (Q : VK) (E : XK), Room k (A.deeper (envOfC qual (defScope st) s.heap.objs.size f cdv)) → sp vs H Q E →
      ∃ t, PSs (cxOf CX0 P w K mg base N qual (defScope st) f cdv A outer s H E).nox (defBody st) t ∧ t { nx := fun _ H' => Q .non H', rt := Q } (start N vs) H) : Pro P w K mg base (k + 1) C x sp := by
  obtain ⟨p, g, fd, hp, F, b⟩ := D
  exact ⟨p, g, fd, c, hp, F.ok S len (hbody g), b⟩
end
end VL

set_option Elab.async false
set_option linter.all false
set_option maxRecDepth 100000
set_option maxHeartbeats 4000000
namespace VL
open PySem PySem.Spec PyProof.Rows L2
/-! ### rules whose readings speak of K, with K told: within comprehensions and except suites -/
theorem u65 {A : Around} {k : Nat} (r : Room k A) : A.units + 65 < cLine := by have := r.un; omega
section
variable {X : Cx} {K : PySem.W.Frag} {e o : Expr} {f : Str} {pos : Pos} {ta : TE}
theorem pe_fldS (hK : X.K = K) (he : PE X e ta) (hb : attributeBase e f X.env (eval e X.env) = eval e X.env) : PE X (.Attribute e f pos) (tFld K ta f) := by subst hK; exact pe_fld he hb
theorem pe_conS (hK : X.K = K) (he : PE X e ta) (hb : attributeBase e f X.env (eval e X.env) = eval e X.env) : PE X (.Attribute e f pos) (tCon K ta f) := by subst hK; exact pe_con he hb
theorem pe_cvalS (hK : X.K = K) (he : PE X e ta) (hb : attributeBase e f X.env (eval e X.env) = eval e X.env := by rfl) : PE X (.Attribute e f pos) (ClX.tCVal K ta f) := by subst hK; exact ClX.pe_cval he hb
theorem ix_listS (hK : X.K = K) : IxR X (rIxL K) := by subst hK; exact ix_list
theorem ix_tupS (hK : X.K = K) : IxR X (rIxT K) := by subst hK; exact ix_tup
theorem sl_listS (hK : X.K = K) : SlR X (rSlL K) := by subst hK; exact sl_list
theorem sl_tupS (hK : X.K = K) : SlR X (rSlT K) := by subst hK; exact sl_tup
theorem op_in_seqS (hK : X.K = K) : OpR X (compareOp .In) (rIn K false) := by subst hK; exact op_in_seq
theorem op_notIn_seqS (hK : X.K = K) : OpR X (compareOp .NotIn) (rIn K true) := by subst hK; exact op_notIn_seq
theorem call_len_seqS (hK : X.K = K) : CallR X (.builtin "len") (fun xs H Q => ∃ p ys, xs = [.ref p] ∧ (SqL K H p ys ∨ SqT K H p ys) ∧ Q (.int ys.length) H) := by subst hK; exact call_len_seq
theorem call_list_ofS (hK : X.K = K) : CallR X (.type "list") (fun xs H Q => ∃ p ys, xs = [.ref p] ∧ (SqL K H p ys ∨ SqT K H p ys) ∧ ∀ l, H l = none → Q (.ref l) (upd H l (.lst ys))) := by subst hK; exact call_list_of
theorem call_isiS (hK : X.K = K) : CallR X (.builtin "isinstance") (rIsi K) := by subst hK; exact call_isi
theorem op_eqDS (hK : X.K = K) (hu : X.A.units + 64 < cLine) : OpR X (compareOp .Eq) (rEqD K) := by subst hK; exact op_eqD hu
theorem op_neDS (hK : X.K = K) (hu : X.A.units + 64 < cLine) : OpR X (compareOp .NotEq) (rNeD K) := by subst hK; exact op_neD hu
theorem cr_maxS (hK : X.K = K) (hc : X.calm = true) : CallR X (.builtin "max") (rMax K) := by subst hK; exact cr_max hc
theorem cr_minS (hK : X.K = K) (hc : X.calm = true) : CallR X (.builtin "min") (rMin K) := by subst hK; exact cr_min hc
theorem op_inDS (hK : X.K = K) (hu : X.A.units + 65 < cLine) : OpR X (compareOp .In) (rInD K) := by subst hK; exact op_inD hu
theorem pt_truthS (hK : X.K = K) (ha : PE X e ta) (he : ∀ whole, isTrue e X.env whole = (do let v ← whole; standAt e.pos; holding [v] (truthy v))) :
    PT X e (fun σ H Q => ta σ H fun x H' => ∃ k, TruV K x H' k ∧ Q k H') := by subst hK; exact pt_truth ha he
theorem pi_listS {tg : Expr} (hK : X.K = K) (hl : PE X e ta) : PI X tg e (iList K ta) := by subst hK; exact pi_list hl
theorem pi_tupS {tg : Expr} (hK : X.K = K) (hl : PE X e ta) : PI X tg e (iTup K ta) := by subst hK; exact pi_tup hl
theorem pg_tupS {es : List Expr} {k : Nat} {t : TGs} {n : Nat} (hK : X.K = K) (hc : X.calm = true) (h : PGs X es t)
    (hn : (assignEach es X.env).length = n := by rfl) (hst : (assignEach es X.env).findIdx? (·.1) = none := by rfl) : PG X (.Tuple es k pos) (gTup K n t) := by subst hK; exact pg_tup hc h hn hst
end
end VL

set_option Elab.async false
set_option linter.all false
set_option maxRecDepth 100000
set_option maxHeartbeats 4000000
namespace VL
open PySem PySem.Spec PyProof.Rows L2

/-! ### texts as lists of signs -/
abbrev TX (l : List Nat) : Str := ⟨l.toArray⟩
theorem TX_tl (l : List Nat) : (TX l).cps.toList = l := by simp
theorem TX_len (l : List Nat) : (TX l).length = l.length := by simp [Str.length]
theorem TX_cat (a b : List Nat) : TX a ++ TX b = TX (a ++ b) := SX.S_cat a b
theorem TX_inj {a b : List Nat} (h : TX a = TX b) : a = b := SX.S_inj h
theorem vstr_TX {a b : List Nat} : decide (V.str (TX a) = V.str (TX b)) = decide (a = b) := by
  by_cases e : a = b
  · subst e; simp
  · have : ¬ V.str (TX a) = V.str (TX b) := fun q => e (TX_inj (V.str.inj q))
    rw [decide_eq_false this, decide_eq_false e]
theorem one_eq {c d : Nat} : decide (V.str (TX [c]) = V.str (TX [d])) = decide (c = d) := by
  rw [vstr_TX]
  by_cases e : c = d
  · subst e; simp
  · simp [e]
/-- the sign at a place -/
theorem at_mid {pre r : List Nat} {c : Nat} {i : Int} (hi : i = (pre.length : Int)) : atI (TX (pre ++ c :: r)).cps.toList i = some c := by
  subst hi
  rw [TX_tl]
  unfold atI ixN
  rw [if_pos (by omega), if_pos (by simp; omega)]
  show (pre ++ c :: r)[(pre.length : Int).toNat]? = _
  rw [Int.toNat_natCast]
  simp
theorem getD_TX (l : List Nat) (v : Nat) : (TX l).cps.getD v 0 = l.getD v 0 := by
  simp only [Array.getD, List.getD_eq_getElem?_getD]
  by_cases h : v < l.length
  · rw [dif_pos (by simpa using h)]
    simp [h]
  · rw [dif_neg (by simpa using h), List.getElem?_eq_none (by omega)]
    rfl
theorem lt_one {c d : Nat} : ([c] < [d]) ↔ c < d := by
  constructor
  · intro h
    cases h with
    | rel h => exact h
    | cons h => cases h
  · intro h
    exact .rel h
/-- s.startswith(y, i) -/
theorem starts_at {pre R y : List Nat} {i : Int} (hi : i = (pre.length : Int)) : Txt.startswith3 (TX (pre ++ R)) (TX y) i = (R.take y.length == y) := by
  subst hi
  have e : fromIndex (TX (pre ++ R)).length (pre.length : Int) = pre.length := by
    unfold fromIndex
    rw [if_neg (by omega)]
    omega
  unfold Txt.startswith3
  rw [e, StrLaws.subAt_eq]
  have h1 : (TX (pre ++ R)).cps.toList.drop pre.length = R := by simp
  rw [h1, TX_len, TX_len]
  show (decide (pre.length + y.length ≤ (pre ++ R).length) && (R.take y.length == (TX y).cps.toList)) = _
  rw [TX_tl, List.length_append]
  by_cases h : y.length ≤ R.length
  · rw [decide_eq_true (by omega)]
    rfl
  · rw [decide_eq_false (by omega)]
    have : (R.take y.length == y) = false := by
      refine beq_eq_false_iff_ne.mpr fun q => h ?_
      have := congrArg List.length q
      rw [List.length_take] at this
      omega
    rw [this]
    rfl
/-- s.find("\n", i) -/
theorem find_nl {pre c r : List Nat} {d : Nat} {i : Int} (hi : i = (pre.length : Int)) (hc : d ∉ c) : Txt.find3 (TX (pre ++ (c ++ d :: r))) (TX [d]) i = ((pre.length + c.length : Nat) : Int) := by
  subst hi
  have e : fromIndex (TX (pre ++ (c ++ d :: r))).length (pre.length : Int) = pre.length := by
    unfold fromIndex
    rw [if_neg (by omega)]
    omega
  have hg : ∀ v, v < (pre ++ (c ++ d :: r)).length → (TX (pre ++ (c ++ d :: r))).cps.getD v 0 = (pre ++ (c ++ d :: r)).getD v 0 := fun v _ => getD_TX _ v
  have hat : (pre ++ (c ++ d :: r)).getD (pre.length + c.length) 0 = d := by simp [List.getD_eq_getElem?_getD]
  have hlt : pre.length + c.length < (pre ++ (c ++ d :: r)).length := by rw [List.length_append, List.length_append, List.length_cons]; omega
  rcases StrLaws.find3_spec (TX (pre ++ (c ++ d :: r))) d (pre.length : Int) with ⟨_, h2⟩ | ⟨k, h1, h2, h3, h4, h5⟩
  · rw [e, TX_len] at h2
    exact absurd (by rw [hg _ hlt]; exact hat) (h2 (pre.length + c.length) (by omega) hlt)
  · rw [e] at h2 h5
    rw [TX_len] at h3
    rw [h1]
    have hk : k = pre.length + c.length := by
      rcases Nat.lt_trichotomy k (pre.length + c.length) with q | q | q
      · exfalso
        rw [hg k h3] at h4
        have e3 : (pre ++ (c ++ d :: r)).getD k 0 = c.getD (k - pre.length) 0 := by
          rw [List.getD_eq_getElem?_getD, List.getD_eq_getElem?_getD, List.getElem?_append_right h2, List.getElem?_append_left (by omega)]
        rw [e3] at h4
        apply hc
        have hlt2 : k - pre.length < c.length := by omega
        rw [List.getD_eq_getElem?_getD, List.getElem?_eq_getElem hlt2] at h4
        have h4 : c[k - pre.length] = d := h4
        rw [← h4]
        exact List.getElem_mem hlt2
      · exact q
      · exfalso
        exact h5 (pre.length + c.length) (by omega) q (by rw [hg _ hlt]; exact hat)
    rw [hk]
/-- s[i:j] -/
theorem cut_mid {pre m r : List Nat} {i j : Int} (hi : i = (pre.length : Int)) (hj : j = ((pre.length + m.length : Nat) : Int)) : cutS (TX (pre ++ (m ++ r))) (some i) (some j) = TX m := by
  subst hi hj
  unfold cutS
  rw [TX_len, HT.sIx_nat, HT.sIx_nat, TX_tl]
  have e1 : min pre.length (pre ++ (m ++ r)).length = pre.length := by simp
  have e2 : min (pre.length + m.length) (pre ++ (m ++ r)).length = pre.length + m.length := by simp
  rw [e1, e2]
  refine congrArg TX ?_
  rw [List.drop_left, Nat.add_sub_cancel_left, List.take_left]

/-! ### rows -/
def rws : List Nat → List Nat → List (List Nat)
  | acc, [] => [acc]
  | acc, c :: r => if c = 10 then acc :: rws [] r else rws (acc ++ [c]) r
theorem spl_rws : ∀ (l acc : List Nat), TL.spl [10] 0 acc l = rws acc l
  | [], acc => by rw [TL.spl_nil]; rfl
  | c :: r, acc => by
    unfold rws
    by_cases h : c = 10
    · subst h
      rw [if_pos rfl, TL.spl_hit (by rfl)]
      exact congrArg (acc :: ·) (spl_rws r [])
    · rw [if_neg h, TL.spl_miss (by
        show TL.pre [10] (c :: r) = false
        unfold TL.pre
        simp [h])]
      exact spl_rws r _
theorem rws_ne : ∀ (l acc : List Nat), rws acc l ≠ []
  | [], acc => by unfold rws; simp
  | c :: r, acc => by
    unfold rws
    split
    · simp
    · exact rws_ne r _
def lnOf (l : List Nat) : Nat := (rws [] l).length
def clOf (l : List Nat) : Nat := ((rws [] l).getLast (rws_ne _ _)).length
theorem rws_plain : ∀ (l acc m : List Nat), 10 ∉ m → ∃ fr la, rws acc l = fr ++ [la] ∧ rws acc (l ++ m) = fr ++ [la ++ m]
  | [], acc, m, h => by
    refine ⟨[], acc, rfl, ?_⟩
    show rws acc m = [acc ++ m]
    induction m generalizing acc with
    | nil => rw [List.append_nil]; rfl
    | cons c m ih =>
      have hc : c ≠ 10 := fun e => h (by rw [e]; exact List.mem_cons_self)
      unfold rws
      rw [if_neg hc, ih _ fun e => h (List.mem_cons_of_mem _ e), List.append_assoc]
      rfl
  | c :: r, acc, m, h => by
    rw [List.cons_append]
    unfold rws
    by_cases hc : c = 10
    · rw [if_pos hc, if_pos hc]
      obtain ⟨fr, la, e1, e2⟩ := rws_plain r [] m h
      exact ⟨acc :: fr, la, by rw [e1]; rfl, by rw [e2]; rfl⟩
    · rw [if_neg hc, if_neg hc]
      exact rws_plain r _ m h
theorem rws_nl : ∀ (l acc : List Nat), rws acc (l ++ [10]) = rws acc l ++ [[]]
  | [], acc => by
    show rws acc [10] = [acc] ++ [[]]
    unfold rws
    rw [if_pos rfl]
    rfl
  | c :: r, acc => by
    rw [List.cons_append]
    unfold rws
    split
    · rw [rws_nl r []]; rfl
    · exact rws_nl r _
theorem getLast_of {α : Type} {l fr : List α} {la : α} (h : l ≠ []) (e : l = fr ++ [la]) : l.getLast h = la := by
  subst e
  simp
theorem ln_plain (l m : List Nat) (h : 10 ∉ m) : lnOf (l ++ m) = lnOf l := by
  obtain ⟨fr, la, e1, e2⟩ := rws_plain l [] m h
  unfold lnOf
  rw [e1, e2]
  simp
theorem cl_plain (l m : List Nat) (h : 10 ∉ m) : clOf (l ++ m) = clOf l + m.length := by
  obtain ⟨fr, la, e1, e2⟩ := rws_plain l [] m h
  unfold clOf
  rw [getLast_of _ e1, getLast_of _ e2, List.length_append]
theorem ln_nl (l : List Nat) : lnOf (l ++ [10]) = lnOf l + 1 := by
  unfold lnOf
  rw [rws_nl]
  simp
theorem cl_nl (l : List Nat) : clOf (l ++ [10]) = 0 := by
  unfold clOf
  rw [getLast_of _ (rws_nl l [])]
  rfl
theorem cl_le : ∀ l : List Nat, clOf l ≤ l.length := by
  intro l
  have : ∀ (l acc : List Nat), ((rws acc l).getLast (rws_ne _ _)).length ≤ acc.length + l.length := by
    intro l
    induction l with
    | nil => intro acc; simp [rws]
    | cons c r ih =>
      intro acc
      by_cases hc : c = 10
      · have e : rws acc (c :: r) = acc :: rws [] r := by
          show (if c = 10 then _ else _) = _
          rw [if_pos hc]
        have e2 : (rws acc (c :: r)).getLast (rws_ne _ _) = (rws [] r).getLast (rws_ne _ _) := by
          simp only [e]
          exact List.getLast_cons (rws_ne _ _)
        rw [e2]
        have := ih []
        simp at this ⊢
        omega
      · have e : rws acc (c :: r) = rws (acc ++ [c]) r := by
          show (if c = 10 then _ else _) = _
          rw [if_neg hc]
        have e2 : (rws acc (c :: r)).getLast (rws_ne _ _) = (rws (acc ++ [c]) r).getLast (rws_ne _ _) := by simp only [e]
        rw [e2]
        have := ih (acc ++ [c])
        simp at this ⊢
        omega
  have := this l []
  simpa [clOf] using this
/-- row = source.split("\n"): how many, and the last one's length -/
theorem split_rows (l : List Nat) : Txt.split (TX l) (TX [10]) = (rws [] l).map TX := by
  have := SX.split_S (a := l) (b := [10]) (by simp) (by decide)
  rw [spl_rws] at this
  exact this
theorem rows_last (l : List Nat) : ∃ la : List Nat, atI ((rws [] l).map fun r => V.str (TX r)) (-1) = some (.str (TX la)) ∧ la.length = clOf l := by
  refine ⟨(rws [] l).getLast (rws_ne _ _), ?_, rfl⟩
  have hp : 0 < (rws [] l).length := List.length_pos_iff.mpr (rws_ne _ _)
  unfold atI ixN
  rw [if_neg (by decide), if_pos (by rw [List.length_map]; omega)]
  show ((rws [] l).map fun r => V.str (TX r))[_]? = _
  have e : (-1 + (((rws [] l).map fun r => V.str (TX r)).length : Int)).toNat = (rws [] l).length - 1 := by rw [List.length_map]; omega
  rw [e, List.getElem?_map, List.getElem?_eq_getElem (by omega), List.getLast_eq_getElem]
  rfl

/-! ### signs -/
def isLet (c : Nat) : Bool := (decide (97 ≤ c) && decide (c ≤ 122)) || (decide (65 ≤ c) && decide (c ≤ 90))
def isDig (c : Nat) : Bool := decide (48 ≤ c) && decide (c ≤ 57)
def isWs (c : Nat) : Bool := isLet c || isDig c || decide (c = 95)
end VL

set_option Elab.async false
set_option linter.all false
set_option maxRecDepth 100000
set_option maxHeartbeats 4000000
namespace VL
open PySem PySem.Spec PyProof.Rows L2
/-! ### max(xs, default=d), xs < ys, of numbers -/
theorem maxOf_int : ∀ (y : Int) (ys : List Int), PySem.W.maxOf y ys ∈ y :: ys ∧ ∀ z ∈ y :: ys, z ≤ PySem.W.maxOf y ys
  | y, [] => ⟨List.mem_cons_self, fun z hz => by rw [List.mem_singleton.mp hz]; exact Int.le_refl _⟩
  | y, x :: ys => by
    obtain ⟨h1, h2⟩ := maxOf_int (if decide (y < x) = true then x else y) ys
    have e : PySem.W.maxOf y (x :: ys) = PySem.W.maxOf (if decide (y < x) = true then x else y) ys := rfl
    rw [e]
    by_cases q : y < x
    · rw [if_pos (decide_eq_true q)] at h1 h2 ⊢
      refine ⟨List.mem_cons_of_mem _ h1, fun z hz => ?_⟩
      rcases List.mem_cons.mp hz with rfl | hz
      · have := h2 x List.mem_cons_self
        omega
      · exact h2 z hz
    · rw [if_neg (by simpa using q)] at h1 h2 ⊢
      refine ⟨?_, fun z hz => ?_⟩
      · rcases List.mem_cons.mp h1 with h | h
        · rw [h]; exact List.mem_cons_self
        · exact List.mem_cons_of_mem _ (List.mem_cons_of_mem _ h)
      · rcases List.mem_cons.mp hz with rfl | hz
        · exact h2 _ List.mem_cons_self
        · rcases List.mem_cons.mp hz with rfl | hz
          · have := h2 y List.mem_cons_self
            omega
          · exact h2 z (List.mem_cons_of_mem _ hz)
theorem holdAll_ints {h : Heap} : ∀ {us : List Value} {ns : List Int}, IntsAre us ns → PySem.W.HoldAll h us ns
  | _, _, .nil => ⟨[], .nil⟩
  | _, _, .cons n t r => by
    obtain ⟨as, q⟩ := holdAll_ints (h := h) r
    exact ⟨[] ++ as, .cons (.int n t) q⟩
def rMaxD (K : PySem.W.Frag) : List V → List V → Hp → VK → Prop := fun vs zs H Q => ∃ (a : Addr) (ns : List Int) (d : Int), vs = [V.ref a] ∧ zs = [.int d] ∧ SqL K H a (ns.map V.int) ∧ (ns = [] → Q (.int d) H) ∧ ∀ m, m ∈ ns → (∀ y, y ∈ ns → y ≤ m) → Q (.int m) H
def rLtL (K : PySem.W.Frag) : R2 := fun x y H Q => ∃ (a b : Addr) (ns ms : List Int), x = .ref a ∧ y = .ref b ∧ SqL K H a (ns.map V.int) ∧ SqL K H b (ms.map V.int) ∧ Q (.bl (PySem.W.listLt ns ms)) H
section
variable {X : Cx}
theorem cr_maxDef (hc : X.calm = true) (hu : X.A.units + 1 < cLine) : CallRK X (.builtin "max") [Str.ofString "default"] (rMaxD X.K) := by
  intro pins s σ H vs zs us ws Q I r rz h
  obtain ⟨a, ns, d, rfl, rfl, hs, q0, q⟩ := h
  obtain ⟨its, rv, hl, _⟩ := I.list hs
  obtain rfl := Vals.ref1 r
  obtain ⟨w1, rfl, t, rfl⟩ := vals1 rz
  refine PySem.W.max_list_datum_default (vs := its.toArray) (xs := ns) (I.ok.hd hc) hl.isList (holdAll_ints rv.ints) (by show X.A.units + 1 + 0 < cLine; omega) (fun e h' tk hk => ?_) (fun y ys i v h' tk e hi hv hk => ?_)
  · exact ⟨.int d, H, I.kept hk, ⟨_, rfl⟩, q0 e⟩
  · obtain ⟨as, rd⟩ := hv
    obtain ⟨h1, h2⟩ := maxOf_int y ys
    generalize PySem.W.maxOf y ys = m at rd h1 h2
    have rd' : Reads h' v (.int m) as := rd
    cases rd' with
    | int i t => exact ⟨.int m, H, I.kept hk, ⟨_, rfl⟩, q m (by rw [e]; exact h1) (by rw [e]; exact h2)⟩
theorem op_ltL (hu : X.A.units + 1 < cLine) : OpR X (compareOp .Lt) (rLtL X.K) := by
  intro pins s σ H x y v u Q I rx ry h
  obtain ⟨a, b, ns, ms, rfl, rfl, ha, hb, q⟩ := h
  cases rx
  cases ry
  obtain ⟨ia, ra, hla, _⟩ := I.list ha
  obtain ⟨ib, rb, hlb, _⟩ := I.list hb
  obtain ⟨as, pa⟩ := holdAll_ints (h := s.heap) ra.ints
  obtain ⟨bs, pb⟩ := holdAll_ints (h := s.heap) rb.ints
  obtain ⟨oa, na, ga, ca, _, da⟩ := hla
  obtain ⟨ob, nb, gb, cb, _, db⟩ := hlb
  refine PySem.W.lt_datum (x := ns) (y := ms) ⟨a :: as, .list ga ca da pa⟩ ⟨b :: bs, .list gb cb db pb⟩ (by show X.A.units + (0 + 1) < cLine; omega) ?_
  exact ⟨.bl _, H, I, rfl, q⟩
end
end VL

set_option Elab.async false
set_option linter.all false
set_option maxRecDepth 100000
set_option maxHeartbeats 4000000
/-! xs[a:c] = ys of a list, where c may lie behind its end -/
namespace L2
open PySem PySem.Spec PyProof.Rows
section
variable {prog : Program} {w : World} {A : Around} {E : Value → Shared → Prop} {s : Shared}
theorem cut_bounds {a c n : Nat} (ha : a ≤ n) (hac : a ≤ c) : sliceBounds (some (a : Int)) (some (c : Int)) none n = ((a : Int), ((min c n : Nat) : Int), 1) := by
  have k1 : ¬ ((a : Int) < 0) := by omega
  have k2 : ¬ ((c : Int) < 0) := by omega
  simp only [sliceBounds, Option.getD_none, k1, k2, if_false, show (1 : Int) > 0 by decide, if_true]
  refine Prod.ext ?_ (Prod.ext ?_ rfl)
  · show max 0 (min (a : Int) n) = a
    omega
  · show max 0 (min (c : Int) n) = ((min c n : Nat) : Int)
    omega
theorem put_slice {p q sl : Addr} {old new : Array Value} {n m : Nat} {vl vu : Value} {a c : Nat} {R : Unit → Shared → Prop} (hp : s.heap.get? p = some { cls := .type "list", data := .seq old n }) (hq : s.heap.get? q = some { cls := .type "list", data := .seq new m }) (pq : p ≠ q)
    (hsl : s.heap.IsSliceOf sl vl vu .none) (pl : IsPart vl (some (a : Int))) (pu : IsPart vu (some (c : Int))) (ha : a ≤ old.size) (hac : a ≤ c) (hz : old.size + new.size ≤ sizeLine)
    (k : R () { s with heap := s.heap.update p (Obj.mapSeq fun xs => xs.extract 0 a ++ new ++ xs.extract (min c old.size) xs.size) }) : wpAny (model prog w) A (setItem (.ref p) (.ref sl) (.ref q)) R E s := by
  rcases Nat.lt_or_ge old.size c with z | z
  · have lp : s.heap.IsList p old := PySem.IsL.isList hp
    have lq : s.heap.IsList q new := PySem.IsL.isList hq
    obtain ⟨o, g, gc, gd⟩ := id hsl
    have ty : s.TypeIs (.ref sl) "slice" := ⟨o, g, gc⟩
    have other : Builtin.List.listSameRef (.ref p) (.ref q) = false := beq_eq_false_iff_ne.mpr pq
    unfold setItem
    refine wpAny_holding (wpAny_bind (wpAny_sequenceKey lp.typeIs (by decide) ?_))
    refine wpAny_bind (wpAny_callSpecial?_slot (name := Str.ofString "__setitem__") lp.typeIs slot_list_setitem (wpAny_call_entry slot_list_setitem lp.typeIs entry_list_setitem ?_ (args_list_setitem _ _ _)))
    have sub : ∀ {Q' : _ → Shared → Prop} {E' : Value → Shared → Prop}, Q' none s → wpAny (model prog w) A.in1 (Builtin.List.listSubscript? (.ref sl)) Q' E' s := fun {Q' E'} hq' => by
      unfold Builtin.List.listSubscript?
      refine wpAny_bind (wpAny_specialOf ty slice_no_index ?_)
      simp only [Option.isNone_none, if_true]
      exact wpAny_pure hq'
    have parts : ∀ {Q' : _ → Shared → Prop} {E' : Value → Shared → Prop}, Q' (rawPart (some (a : Int)), rawPart (some (c : Int)), rawPart none) s → wpAny (model prog w) A.in1 (Builtin.List.listSliceParts (.ref sl)) Q' E' s := fun {Q' E'} hq' => by
      rw [listSliceParts_eq]
      refine wpAny_bind (wpAny_field g gd (x := .none) rfl (wpAny_bind (wpAny_listPart .none ?_)))
      rw [if_neg (by simp [rawPart, rawInt])]
      refine wpAny_bind (wpAny_field g gd (x := vl) rfl (wpAny_bind (wpAny_listPart pl ?_)))
      exact wpAny_bind (wpAny_field g gd (x := vu) rfl (wpAny_bind (wpAny_listPart pu (wpAny_pure hq'))))
    have all : ∀ {Q' : _ → Shared → Prop} {E' : Value → Shared → Prop}, Q' new s → wpAny (model prog w) A.in1 (Builtin.List.listAllItems (.ref q) "must assign iterable to extended slice") Q' E' s := fun {Q' E'} hq' => by
      unfold Builtin.List.listAllItems
      refine wpAny_bind (wpAny_typeOf lq.typeIs ?_)
      rw [if_pos (by decide)]
      unfold Builtin.List.listItems
      exact wpAny_bind (wpAny_seqItems hq rfl (wpAny_pure hq'))
    have own : ∀ {Q' : _ → Shared → Prop} {E' : Value → Shared → Prop}, Q' old s → wpAny (model prog w) A.in1 (Builtin.List.listItems (.ref p)) Q' E' s := fun {Q' E'} hq' => by
      unfold Builtin.List.listItems
      exact wpAny_bind (wpAny_seqItems hp rfl (wpAny_pure hq'))
    have long : Builtin.List.listTooLong (old.size + new.size) = false := notLongL hz
    have mm : (max (a : Int) ((min c old.size : Nat) : Int)).toNat = min c old.size := by omega
    show wpAny _ _ (Builtin.List.listSubscript? (.ref sl) >>= _) _ _ s
    refine wpAny_bind (sub ?_)
    show wpAny _ _ (typeOf (.ref sl) >>= _) _ _ s
    refine wpAny_bind (wpAny_typeOf ty ?_)
    rw [if_neg (by decide)]
    refine wpAny_bind (parts ?_)
    dsimp only
    rw [if_neg (by rw [other]; exact Bool.false_ne_true)]
    refine wpAny_bind (all ?_)
    refine wpAny_bind (own ?_)
    rw [sliceIndices_raw (some (a : Int)) (some (c : Int)) none old.size (by simp), cut_bounds ha hac]
    refine wpAny_bind (wpAny_pure ?_)
    dsimp only
    rw [if_pos (by decide)]
    refine wpAny_bind (wpAny_rule ?_)
    rw [if_neg (by rw [long]; exact Bool.false_ne_true)]
    have fit : ((fun xs : Array Value => xs.extract 0 a ++ new ++ xs.extract (min c old.size) xs.size) old).size ≤ sizeLine + 1 := by
      simp only [Array.size_append, Array.size_extract]
      omega
    rw [mm, Int.toNat_natCast]
    show wpAny _ _ (updateSeq p (fun xs => xs.extract 0 a ++ new ++ xs.extract (min c old.size) xs.size) >>= _) _ _ s
    refine wpAny_bind (wpAny_updateSeq (hz := by omega) (_hz' := fit) hp rfl ?_)
    refine wpAny_bind (wpAny_letGo ?_)
    exact wpAny_pure ⟨.none, rfl, wpAny_pure k⟩
  · have e : min c old.size = c := Nat.min_eq_left z
    rw [e] at k
    exact setItem_slice hp hq pq hsl pl pu hac z hz k
end
section
variable {X : Cx} {o : Expr} {lo hi : Option Expr} {to : TE} {tl th : TO} {p2 pos : Pos}
/-- o[lo:hi] = v -/
def gSlc (to : TE) (tl th : TO) : TG := fun v σ H Q => to σ H fun x H1 => tl σ H1 fun l H2 => th σ H2 fun u H3 => ∃ (p q : Addr) (xs ys : List V) (a c : Nat), x = .ref p ∧ v = .ref q ∧ l = some (a : Int) ∧ u = some (c : Int) ∧ H3 p = some (.lst xs) ∧ H3 q = some (.lst ys) ∧ p ≠ q ∧ a ≤ xs.length ∧ a ≤ c ∧ xs.length + ys.length ≤ sizeLine ∧ Q σ (upd H3 p (.lst (xs.take a ++ ys ++ xs.drop c)))
theorem pg_slc (ho : PE X o to) (hl : PO X lo tl) (hu : PO X hi th)
    (ha : ∀ v, assign (.Subscript o (.Slice lo hi none p2) pos) X.env v = (do
      let ov ← holding [v] (eval o X.env)
      let iv ← holding [v, ov] (eval (.Slice lo hi none p2) X.env)
      standAt pos
      holding [v, ov, iv] (setItem ov iv v)
      release [iv, v, ov] []) := by intro _; rfl) : PG X (.Subscript o (.Slice lo hi none p2) pos) (gSlc to tl th) := by
  refine ⟨fun pins s σ H v u Q I r h => ?_⟩
  rw [ha]
  refine wpAny_bind (wpAny_holding (thn (ho.run pins s σ H _ I h) fun ov s1 ⟨x, H1, I1, r1, q1⟩ => ?_))
  refine wpAny_bind (wpAny_holding (wpAny_Slice (thn (hl.run pins s1 σ H1 _ I1 q1) fun vl s2 ⟨l, H2, I2, pl, q2⟩ => thn (hu.run pins s2 σ H2 _ I2 q2) fun vu s3 ⟨w, H3, I3, pu, q3⟩ => ?_)))
  rw [evalPart_none]
  refine wpAny_pure ?_
  have I4 : Inv X pins σ H3 { s3 with heap := s3.heap.push { cls := .type "slice", data := .fields #[vl, vu, .none] } } := I3.kept (t' := s3.toks) fun b ob g => Heap.get?_push_of_some _ g
  obtain ⟨p, q, xs, ys, a, c, rfl, rfl, rfl, rfl, hp, hq, pq, hac, hcc, hz, k⟩ := q3
  cases r1
  cases r
  obtain ⟨z1, its, n, rr, e1, g1⟩ := I4.lstM hp
  obtain ⟨z2, jts, m, rq, e2, g2⟩ := I4.lstM hq
  refine wpAny_bind (wpAny_standAt (wpAny_bind (wpAny_holding (put_slice g1 g2 pq (Heap.IsSliceOf.new ..) pl pu (by rw [List.size_toArray]; omega) hcc (by rw [List.size_toArray, List.size_toArray]; omega) ?_))))
  refine wpAny_release ⟨σ, _, I4.lset (its' := its.take a ++ jts ++ its.drop c) (t' := _) hp g1 ?_ (Vals.append (Vals.append (rr.take _) rq) (rr.drop _)) ?_, k⟩
  · show its.toArray.extract 0 a ++ jts.toArray ++ its.toArray.extract (min c its.toArray.size) its.toArray.size = _
    rw [splice_eq]
    have dd : its.drop (min c its.toArray.size) = its.drop c := by
      rw [List.size_toArray]
      rcases Nat.le_total c its.length with z | z
      · rw [Nat.min_eq_left z]
      · rw [Nat.min_eq_right z, List.drop_of_length_le z, List.drop_of_length_le (Nat.le_refl _)]
    rw [dd]
  · rw [List.length_append, List.length_append, List.length_take, List.length_drop]
    omega
end
end L2

set_option Elab.async false
set_option linter.all false
set_option maxRecDepth 100000
set_option maxHeartbeats 4000000
namespace VL
/-! ### longest rising rows: the mathematics -/
abbrev Ln := List (Int × Nat)
def mxg (lt : Int → Int → Bool) (x : Int) : Ln → Nat
  | [] => 0
  | e :: r => if lt x e.1 = true then max e.2 (mxg lt x r) else mxg lt x r
def lisg (lt : Int → Int → Bool) : List Int → Ln
  | [] => []
  | x :: xs => (x, mxg lt x (lisg lt xs) + 1) :: lisg lt xs
def bestL : Ln → Nat
  | [] => 0
  | e :: r => max e.2 (bestL r)
abbrev Ris (lt : Int → Int → Bool) (r : List Int) : Prop := r.Pairwise fun x y => lt x y = true
section
variable {lt : Int → Int → Bool}
theorem lisg_fst : ∀ xs : List Int, (lisg lt xs).map (·.1) = xs
  | [] => rfl
  | x :: xs => by show x :: (lisg lt xs).map (·.1) = x :: xs; rw [lisg_fst xs]
theorem lisg_len (xs : List Int) : (lisg lt xs).length = xs.length := by rw [← List.length_map (f := (·.1)), lisg_fst]
theorem lisg_pos : ∀ {xs : List Int} {e : Int × Nat}, e ∈ lisg lt xs → 1 ≤ e.2
  | [], e, h => by cases h
  | x :: xs, e, h => by
    rcases List.mem_cons.mp h with rfl | h
    · exact Nat.le_add_left 1 _
    · exact lisg_pos h
theorem mxg_le {x : Int} : ∀ {L : Ln} {e : Int × Nat}, e ∈ L → lt x e.1 = true → e.2 ≤ mxg lt x L
  | [], e, h, _ => by cases h
  | a :: L, e, h, hl => by
    unfold mxg
    rcases List.mem_cons.mp h with rfl | h
    · rw [if_pos hl]
      exact Nat.le_max_left _ _
    · have := mxg_le h hl
      split
      · exact Nat.le_trans this (Nat.le_max_right _ _)
      · exact this
theorem mxg_ex {x : Int} : ∀ {L : Ln}, mxg lt x L = 0 ∨ ∃ e ∈ L, lt x e.1 = true ∧ e.2 = mxg lt x L
  | [] => .inl rfl
  | a :: L => by
    unfold mxg
    split
    · rename_i h
      rcases Nat.le_total a.2 (mxg lt x L) with q | q
      · rw [Nat.max_eq_right q]
        rcases mxg_ex (x := x) (L := L) with z | ⟨e, he, z1, z2⟩
        · exact .inl z
        · exact .inr ⟨e, List.mem_cons_of_mem _ he, z1, z2⟩
      · rw [Nat.max_eq_left q]
        exact .inr ⟨a, List.mem_cons_self, h, rfl⟩
    · rcases mxg_ex (x := x) (L := L) with z | ⟨e, he, z1, z2⟩
      · exact .inl z
      · exact .inr ⟨e, List.mem_cons_of_mem _ he, z1, z2⟩
theorem bestL_le : ∀ {L : Ln} {e : Int × Nat}, e ∈ L → e.2 ≤ bestL L
  | [], e, h => by cases h
  | a :: L, e, h => by
    unfold bestL
    rcases List.mem_cons.mp h with rfl | h
    · exact Nat.le_max_left _ _
    · exact Nat.le_trans (bestL_le h) (Nat.le_max_right _ _)
theorem bestL_ex : ∀ {L : Ln}, bestL L = 0 ∨ ∃ e ∈ L, e.2 = bestL L
  | [] => .inl rfl
  | a :: L => by
    unfold bestL
    rcases Nat.le_total a.2 (bestL L) with q | q
    · rw [Nat.max_eq_right q]
      rcases bestL_ex (L := L) with z | ⟨e, he, z⟩
      · exact .inl z
      · exact .inr ⟨e, List.mem_cons_of_mem _ he, z⟩
    · rw [Nat.max_eq_left q]
      exact .inr ⟨a, List.mem_cons_self, rfl⟩
/-- a rising row that begins with x is no longer than is told of x -/
theorem row_le : ∀ {xs r : List Int} {x : Int}, (x :: r).Sublist xs → Ris lt (x :: r) → ∃ e ∈ lisg lt xs, e.1 = x ∧ r.length + 1 ≤ e.2
  | [], r, x, h, _ => by cases h
  | y :: xs, r, x, h, hr => by
    rcases List.sublist_cons_iff.mp h with h | ⟨r', e, h⟩
    · obtain ⟨e, he, h1, h2⟩ := row_le h hr
      exact ⟨e, List.mem_cons_of_mem _ he, h1, h2⟩
    · injection e with e1 e2
      subst e1
      subst e2
      refine ⟨_, List.mem_cons_self, rfl, ?_⟩
      show r.length + 1 ≤ mxg lt x (lisg lt xs) + 1
      cases r with
      | nil => exact Nat.succ_le_succ (Nat.zero_le _)
      | cons z r =>
        have hr' := List.pairwise_cons.mp hr
        obtain ⟨e, he, h1, h2⟩ := row_le h hr'.2
        have := mxg_le (lt := lt) (x := x) he (by rw [h1]; exact hr'.1 z List.mem_cons_self)
        rw [List.length_cons]
        omega
/-- the row that is told of x -/
theorem row_ex : ∀ {xs : List Int} {e : Int × Nat}, e ∈ lisg lt xs → (∀ a b c, lt a b = true → lt b c = true → lt a c = true) → ∃ r, (e.1 :: r).Sublist xs ∧ Ris lt (e.1 :: r) ∧ r.length + 1 = e.2
  | [], e, h, _ => by cases h
  | y :: xs, e, h, tr => by
    rcases List.mem_cons.mp h with rfl | h
    · rcases mxg_ex (lt := lt) (x := y) (L := lisg lt xs) with z | ⟨f, hf, z1, z2⟩
      · exact ⟨[], List.Sublist.cons₂ _ (List.nil_sublist _), List.pairwise_singleton _ _, by show 0 + 1 = mxg lt y (lisg lt xs) + 1; rw [z]⟩
      · obtain ⟨r, h1, h2, h3⟩ := row_ex hf tr
        refine ⟨f.1 :: r, List.Sublist.cons₂ _ h1, List.pairwise_cons.mpr ⟨fun a ha => ?_, h2⟩, by show (f.1 :: r).length + 1 = mxg lt y (lisg lt xs) + 1; rw [← z2, ← h3]; rfl⟩
        rcases List.mem_cons.mp ha with rfl | ha
        · exact z1
        · exact tr _ _ _ z1 ((List.pairwise_cons.mp h2).1 a ha)
    · obtain ⟨r, h1, h2⟩ := row_ex h tr
      exact ⟨r, List.Sublist.cons _ h1, h2⟩
theorem best_le {xs r : List Int} (h : r.Sublist xs) (hr : Ris lt r) : r.length ≤ bestL (lisg lt xs) := by
  cases r with
  | nil => exact Nat.zero_le _
  | cons x r =>
    obtain ⟨e, he, _, h2⟩ := row_le h hr
    exact Nat.le_trans h2 (bestL_le he)
theorem best_ex (tr : ∀ a b c, lt a b = true → lt b c = true → lt a c = true) (xs : List Int) : ∃ r, r.Sublist xs ∧ Ris lt r ∧ r.length = bestL (lisg lt xs) := by
  rcases bestL_ex (L := lisg lt xs) with z | ⟨e, he, z⟩
  · exact ⟨[], List.nil_sublist _, .nil, z.symm⟩
  · obtain ⟨r, h1, h2, h3⟩ := row_ex he tr
    exact ⟨e.1 :: r, h1, h2, by rw [← z, ← h3]; rfl⟩
end
abbrev ltI (x y : Int) : Bool := decide (x < y)
abbrev gtI (x y : Int) : Bool := decide (y < x)
theorem ltI_tr : ∀ a b c, ltI a b = true → ltI b c = true → ltI a c = true := fun a b c h1 h2 => decide_eq_true (Int.lt_trans (of_decide_eq_true h1) (of_decide_eq_true h2))
theorem gtI_tr : ∀ a b c, gtI a b = true → gtI b c = true → gtI a c = true := fun a b c h1 h2 => decide_eq_true (Int.lt_trans (of_decide_eq_true h2) (of_decide_eq_true h1))
/-- told from the front or from the end, the longest is as long -/
theorem best_rev (xs : List Int) : bestL (lisg gtI xs.reverse) = bestL (lisg ltI xs) := by
  apply Nat.le_antisymm
  · obtain ⟨r, h1, h2, h3⟩ := best_ex gtI_tr xs.reverse
    rw [← h3, ← List.length_reverse]
    refine best_le ?_ ?_
    · have := h1.reverse
      rw [List.reverse_reverse] at this
      exact this
    · exact List.pairwise_reverse.mpr h2
  · obtain ⟨r, h1, h2, h3⟩ := best_ex ltI_tr xs
    rw [← h3, ← List.length_reverse]
    refine best_le h1.reverse ?_
    exact List.pairwise_reverse.mpr h2
/-- of the numbers from y on that are y or greater -/
theorem best_rest {y : Int} {t : List Int} (hy : y ∉ t) : bestL (lisg ltI (y :: t.filter fun z => decide (y ≤ z))) = mxg ltI y (lisg ltI t) + 1 := by
  apply Nat.le_antisymm
  · obtain ⟨r, h1, h2, h3⟩ := best_ex ltI_tr (y :: t.filter fun z => decide (y ≤ z))
    rw [← h3]
    have key : ∀ r' : List Int, r'.Sublist (t.filter fun z => decide (y ≤ z)) → Ris ltI r' → r'.length ≤ mxg ltI y (lisg ltI t) := fun r' s q => by
      have s2 : r'.Sublist t := s.trans List.filter_sublist
      cases r' with
      | nil => exact Nat.zero_le _
      | cons a r' =>
        obtain ⟨e, he, e1, e2⟩ := row_le s2 q
        refine Nat.le_trans e2 (mxg_le he ?_)
        have ha : a ∈ t.filter fun z => decide (y ≤ z) := s.subset List.mem_cons_self
        have h4 := of_decide_eq_true (List.mem_filter.mp ha).2
        have h5 : a ≠ y := fun z => hy (by rw [← z]; exact (List.mem_filter.mp ha).1)
        rw [e1]
        exact decide_eq_true (by omega)
    rcases List.sublist_cons_iff.mp h1 with h | ⟨r', e, h⟩
    · exact Nat.le_trans (key r h h2) (Nat.le_succ _)
    · subst e
      rw [List.length_cons]
      exact Nat.succ_le_succ (key r' h (List.pairwise_cons.mp h2).2)
  · rcases mxg_ex (lt := ltI) (x := y) (L := lisg ltI t) with z | ⟨f, hf, z1, z2⟩
    · rw [z]
      exact best_le (r := [y]) (List.Sublist.cons₂ _ (List.nil_sublist _)) (List.pairwise_singleton _ _)
    · obtain ⟨r, h1, h2, h3⟩ := row_ex hf ltI_tr
      rw [← z2, ← h3]
      have all : ∀ a ∈ f.1 :: r, y < a := fun a ha => by
        have q := of_decide_eq_true z1
        rcases List.mem_cons.mp ha with rfl | ha
        · exact q
        · have := of_decide_eq_true ((List.pairwise_cons.mp h2).1 a ha)
          omega
      refine best_le (r := y :: f.1 :: r) (List.Sublist.cons₂ _ ?_) (List.pairwise_cons.mpr ⟨fun a ha => decide_eq_true (all a ha), h2⟩)
      have := h1.filter fun z => decide (y ≤ z)
      rwa [List.filter_eq_self.mpr fun a ha => decide_eq_true (by have := all a ha; omega)] at this
/-! ### the greatest first numbers of rows of each length -/
structure Fst (L : Ln) (F : List Int) : Prop where
  ds : ∀ (j k : Nat) (a b : Int), j < k → F[j]? = some a → F[k]? = some b → b < a
  ex : ∀ (k : Nat) (a : Int), F[k]? = some a → ∃ e ∈ L, e.1 = a ∧ k + 1 ≤ e.2
  le : ∀ e ∈ L, e.2 ≤ F.length ∧ ∀ (k : Nat) (a : Int), k < e.2 → F[k]? = some a → e.1 ≤ a
theorem Fst.nil : Fst [] [] := ⟨fun j k a b _ h => by simp at h, fun k a h => by simp at h, fun e h => by cases h⟩
/-- how many are greater -/
structure Cnt (F : List Int) (x : Int) (c : Nat) : Prop where
  le : c ≤ F.length
  up : ∀ (k : Nat) (a : Int), k < c → F[k]? = some a → x < a
  dn : ∀ (k : Nat) (a : Int), c ≤ k → F[k]? = some a → a ≤ x
theorem Fst.cnt {L : Ln} {F : List Int} (P : Fst L F) {x : Int} {c : Nat} (C : Cnt F x c) : c = mxg ltI x L := by
  apply Nat.le_antisymm
  · rcases Nat.eq_zero_or_pos c with z | z
    · rw [z]; exact Nat.zero_le _
    · have hc : c - 1 < F.length := by have := C.le; omega
      have h1 := List.getElem?_eq_getElem hc
      obtain ⟨e, he, e1, e2⟩ := P.ex _ _ h1
      have h2 := C.up _ _ (by omega) h1
      have := mxg_le (lt := ltI) (x := x) he (by rw [e1]; exact decide_eq_true h2)
      omega
  · rcases mxg_ex (lt := ltI) (x := x) (L := L) with z | ⟨e, he, z1, z2⟩
    · rw [z]; exact Nat.zero_le _
    · rw [← z2]
      have z1 := of_decide_eq_true z1
      rcases Nat.lt_or_ge c e.2 with q | q
      · exfalso
        have hc : c < F.length := by have := (P.le e he).1; omega
        have h1 := List.getElem?_eq_getElem hc
        have h2 := C.dn _ _ (Nat.le_refl _) h1
        have h3 := (P.le e he).2 _ _ q h1
        omega
      · exact q
def putN (F : List Int) (c : Nat) (x : Int) : List Int := F.take c ++ [x] ++ F.drop (c + 1)
theorem putN_get {F : List Int} {c : Nat} {x : Int} (hc : c ≤ F.length) (k : Nat) : (putN F c x)[k]? = if k = c then some x else F[k]? := by
  unfold putN
  have hl : (F.take c).length = c := by rw [List.length_take]; omega
  by_cases h1 : k < c
  · rw [if_neg (by omega), List.append_assoc, List.getElem?_append_left (by omega), List.getElem?_take, if_pos h1]
  · by_cases h2 : k = c
    · rw [if_pos h2, List.append_assoc, List.getElem?_append_right (by omega), hl, h2, Nat.sub_self]
      rfl
    · rw [if_neg h2, List.getElem?_append_right (by rw [List.length_append, hl]; simp; omega), List.length_append, hl, List.getElem?_drop]
      congr 1
      simp
      omega
theorem putN_len {F : List Int} {c : Nat} {x : Int} (hc : c ≤ F.length) : (putN F c x).length = max F.length (c + 1) := by
  unfold putN
  rw [List.length_append, List.length_append, List.length_take, List.length_drop]
  simp
  omega
theorem Fst.put {L : Ln} {F : List Int} (P : Fst L F) {x : Int} {c : Nat} (C : Cnt F x c) : Fst ((x, c + 1) :: L) (putN F c x) := by
  have g := putN_get (x := x) C.le
  refine ⟨fun j k a b hjk h1 h2 => ?_, fun k a h => ?_, fun e he => ⟨?_, fun k a hk h => ?_⟩⟩
  · rw [g] at h1 h2
    by_cases e1 : j = c
    · rw [if_pos e1] at h1
      rw [if_neg (by omega)] at h2
      have := Option.some.inj h1
      have hc : c < F.length := by
        rcases Nat.lt_or_ge k F.length with q | q
        · omega
        · rw [List.getElem?_eq_none q] at h2; cases h2
      have h3 := List.getElem?_eq_getElem hc
      have h4 := C.dn _ _ (Nat.le_refl _) h3
      have h5 := P.ds c k _ _ (by omega) h3 h2
      omega
    · rw [if_neg e1] at h1
      by_cases e2 : k = c
      · rw [if_pos e2] at h2
        have h3 := C.up _ _ (by omega) h1
        have := Option.some.inj h2
        omega
      · rw [if_neg e2] at h2
        exact P.ds j k a b hjk h1 h2
  · rw [g] at h
    by_cases e : k = c
    · rw [if_pos e] at h
      exact ⟨_, List.mem_cons_self, Option.some.inj h, by rw [e]; exact Nat.le_refl _⟩
    · rw [if_neg e] at h
      obtain ⟨e, he, h2⟩ := P.ex _ _ h
      exact ⟨e, List.mem_cons_of_mem _ he, h2⟩
  · rw [putN_len C.le]
    rcases List.mem_cons.mp he with rfl | he
    · exact Nat.le_max_right _ _
    · exact Nat.le_trans (P.le e he).1 (Nat.le_max_left _ _)
  · rw [g] at h
    by_cases ek : k = c
    · rw [if_pos ek] at h
      have ea := Option.some.inj h
      rcases List.mem_cons.mp he with rfl | he
      · show x ≤ a
        omega
      · have hc : c < F.length := by have := (P.le e he).1; omega
        have h3 := List.getElem?_eq_getElem hc
        have h4 := C.dn _ _ (Nat.le_refl _) h3
        have h5 := (P.le e he).2 c _ (by omega) h3
        omega
    · rw [if_neg ek] at h
      rcases List.mem_cons.mp he with rfl | he
      · have hk' : k < c + 1 := hk
        have := C.up _ _ (by omega) h
        show x ≤ a
        omega
      · exact (P.le e he).2 k a hk h
/-! ### the row that is chosen -/
def okL (last : Option Int) (x : Int) : Bool := match last with | none => true | some y => decide (y < x)
def grd (last : Option Int) (m : Nat) : Ln → List Int
  | [] => []
  | e :: r => if e.2 = m ∧ okL last e.1 = true then e.1 :: grd (some e.1) (m - 1) r else grd last m r
theorem grd_sub : ∀ (L : Ln) (last : Option Int) (m : Nat), (grd last m L).Sublist (L.map (·.1))
  | [], _, _ => List.Sublist.slnil
  | e :: r, last, m => by
    unfold grd
    split
    · exact List.Sublist.cons₂ _ (grd_sub r _ _)
    · exact List.Sublist.cons _ (grd_sub r _ _)
theorem grd_ris : ∀ (L : Ln) (last : Option Int) (m : Nat), Ris ltI (grd last m L) ∧ ∀ a ∈ grd last m L, okL last a = true
  | [], _, _ => ⟨.nil, fun a h => by cases h⟩
  | e :: r, last, m => by
    unfold grd
    split
    · rename_i h
      obtain ⟨h1, h2⟩ := grd_ris r (some e.1) (m - 1)
      refine ⟨List.pairwise_cons.mpr ⟨fun a ha => h2 a ha, h1⟩, fun a ha => ?_⟩
      rcases List.mem_cons.mp ha with rfl | ha
      · exact h.2
      · have h3 : e.1 < a := of_decide_eq_true (h2 a ha)
        have h4 := h.2
        unfold okL at h4 ⊢
        cases last with
        | none => rfl
        | some y =>
          dsimp only at h4 ⊢
          have := of_decide_eq_true h4
          exact decide_eq_true (by omega)
    · exact grd_ris r last m
/-- it has the length that was missing -/
theorem grd_len : ∀ (xs : List Int) (last : Option Int) (m : Nat), (m = 0 ∨ ∃ e ∈ lisg ltI xs, e.2 = m ∧ okL last e.1 = true) → (grd last m (lisg ltI xs)).length = m
  | [], last, m, h => by
    rcases h with h | ⟨e, he, _⟩
    · rw [h]; rfl
    · cases he
  | x :: xs, last, m, h => by
    show (if mxg ltI x (lisg ltI xs) + 1 = m ∧ okL last x = true then x :: grd (some x) (m - 1) (lisg ltI xs) else grd last m (lisg ltI xs)).length = m
    split
    · rename_i q
      rw [List.length_cons, grd_len xs (some x) (m - 1)]
      · omega
      · rcases mxg_ex (lt := ltI) (x := x) (L := lisg ltI xs) with z | ⟨f, hf, z1, z2⟩
        · exact .inl (by omega)
        · exact .inr ⟨f, hf, by omega, z1⟩
    · rename_i q
      refine grd_len xs last m ?_
      rcases h with h | ⟨e, he, h1, h2⟩
      · exact .inl h
      · rcases List.mem_cons.mp he with rfl | he
        · exact absurd ⟨h1, h2⟩ q
        · exact .inr ⟨e, he, h1, h2⟩
theorem grd_best (xs : List Int) : (grd none (bestL (lisg ltI xs)) (lisg ltI xs)).length = bestL (lisg ltI xs) := by
  refine grd_len xs none _ ?_
  rcases bestL_ex (L := lisg ltI xs) with z | ⟨e, he, z⟩
  · exact .inl z
  · exact .inr ⟨e, he, z, rfl⟩
end VL

set_option Elab.async false
set_option linter.all false
set_option maxRecDepth 100000
set_option maxHeartbeats 4000000
namespace VL
/-! ### where the chosen members stand -/
def grdP (i : Nat) (last : Option Int) (m : Nat) : Ln → List Nat
  | [] => []
  | e :: r => if e.2 = m ∧ okL last e.1 = true then i :: grdP (i + 1) (some e.1) (m - 1) r else grdP (i + 1) last m r
theorem grdP_ge : ∀ (L : Ln) (i : Nat) (last : Option Int) (m : Nat), ∀ p ∈ grdP i last m L, i ≤ p ∧ p < i + L.length
  | [], _, _, _, p, h => by cases h
  | e :: r, i, last, m, p, h => by
    unfold grdP at h
    rw [List.length_cons]
    split at h
    · rcases List.mem_cons.mp h with rfl | h
      · omega
      · have := grdP_ge r _ _ _ p h
        omega
    · have := grdP_ge r _ _ _ p h
      omega
theorem grdP_inc : ∀ (L : Ln) (i : Nat) (last : Option Int) (m : Nat), (grdP i last m L).Pairwise (· < ·)
  | [], _, _, _ => .nil
  | e :: r, i, last, m => by
    unfold grdP
    split
    · exact List.pairwise_cons.mpr ⟨fun p hp => by have := (grdP_ge r _ _ _ p hp).1; omega, grdP_inc r _ _ _⟩
    · exact grdP_inc r _ _ _
/-- the members are those at the places -/
theorem grdP_at : ∀ (L X : Ln) (i : Nat) (last : Option Int) (m : Nat), X.length = i → (grdP i last m L).map (fun p => (X ++ L)[p]?.map (·.1)) = (grd last m L).map some
  | [], _, _, _, _, _ => rfl
  | e :: r, X, i, last, m, hX => by
    unfold grdP grd
    have hX2 : (X ++ [e]).length = i + 1 := by rw [List.length_append, hX]; rfl
    have app : X ++ e :: r = (X ++ [e]) ++ r := by simp
    split
    · rw [List.map_cons, List.map_cons]
      congr 1
      · rw [List.getElem?_append_right (by omega), hX, Nat.sub_self]
        rfl
      · rw [app]
        exact grdP_at r (X ++ [e]) (i + 1) _ _ hX2
    · rw [app]
      exact grdP_at r (X ++ [e]) (i + 1) _ _ hX2
/-- between two chosen places nothing could be taken: `last` is the member ahead, the k-th still lacks m - k -/
theorem grdP_gap : ∀ (L X : Ln) (i : Nat) (last : Option Int) (m : Nat), X.length = i → ∀ (k p j : Nat) (e : Int × Nat), (grdP i last m L)[k]? = some p → j < p → (if k = 0 then i ≤ j else ∀ q, (grdP i last m L)[k - 1]? = some q → q < j) → (X ++ L)[j]? = some e →
    ¬ (e.2 + k = m ∧ okL (if k = 0 then last else ((grd last m L)[k - 1]?)) e.1 = true)
  | [], _, _, _, _, _, k, p, j, e, h, _, _, _ => by simp [grdP] at h
  | a :: r, X, i, last, m, hX, k, p, j, e, h, hjp, hlo, he => by
    have hX2 : (X ++ [a]).length = i + 1 := by rw [List.length_append, hX]; rfl
    have app : X ++ a :: r = (X ++ [a]) ++ r := by simp
    rw [app] at he
    unfold grdP at h hlo
    unfold grd
    split at h
    · rename_i q
      rw [if_pos q]
      rw [if_pos q] at hlo
      cases k with
      | zero =>
        simp at h
        simp at hlo
        omega
      | succ k =>
        rw [List.getElem?_cons_succ] at h
        rw [if_neg (by omega)] at hlo ⊢
        have ih := grdP_gap r (X ++ [a]) (i + 1) (some a.1) (m - 1) hX2 k p j e h hjp
        cases k with
        | zero =>
          have h2 := hlo i rfl
          have := ih (by rw [if_pos rfl]; omega) he
          rw [if_pos rfl] at this
          intro z
          refine this ⟨by omega, ?_⟩
          exact z.2
        | succ k =>
          have := ih (by
            rw [if_neg (by omega)]
            intro q hq
            refine hlo q ?_
            show (i :: grdP (i + 1) (some a.1) (m - 1) r)[k + 1]? = some q
            rw [List.getElem?_cons_succ]
            exact hq) he
          rw [if_neg (by omega)] at this
          intro z
          refine this ⟨by omega, ?_⟩
          have z2 := z.2
          rw [show k + 1 + 1 - 1 = k + 1 from rfl, List.getElem?_cons_succ] at z2
          exact z2
    · rename_i q
      rw [if_neg q]
      rw [if_neg q] at hlo
      by_cases ej : k = 0 ∧ j = i
      · obtain ⟨rfl, rfl⟩ := ej
        rw [← app, List.getElem?_append_right (by omega), hX, Nat.sub_self] at he
        have : a = e := Option.some.inj he
        subst this
        rw [if_pos rfl]
        intro z
        exact q ⟨by omega, z.2⟩
      · refine grdP_gap r (X ++ [a]) (i + 1) last m hX2 k p j e h hjp ?_ he
        by_cases e0 : k = 0
        · rw [if_pos e0] at hlo ⊢
          have : j ≠ i := fun z => ej ⟨e0, z⟩
          omega
        · rw [if_neg e0] at hlo ⊢
          exact hlo
end VL

set_option Elab.async false
set_option linter.all false
set_option maxRecDepth 100000
set_option maxHeartbeats 4000000
namespace VL
/-! ### of all rows as long, the one whose members stand first; all choices as numbers -/
def lexN : List Nat → List Nat → Bool
  | [], [] => false
  | [], _ :: _ => true
  | _ :: _, [] => false
  | x :: xs, y :: ys => if x = y then lexN xs ys else decide (x < y)
theorem lexN_tri : ∀ {a b : List Nat}, a.length = b.length → lexN a b = false → lexN b a = false → a = b
  | [], [], _, _, _ => rfl
  | [], _ :: _, h, _, _ => by cases h
  | _ :: _, [], h, _, _ => by cases h
  | x :: xs, y :: ys, h, h1, h2 => by
    unfold lexN at h1 h2
    by_cases e : x = y
    · subst e
      rw [if_pos rfl] at h1 h2
      rw [lexN_tri (Nat.succ.inj h) h1 h2]
    · rw [if_neg e] at h1
      rw [if_neg (fun z => e z.symm)] at h2
      have := of_decide_eq_false h1
      have := of_decide_eq_false h2
      omega
/-- places i .. of L: rising places whose members rise, all above last -/
def Fits (L : Ln) (i : Nat) (last : Option Int) : List Nat → Prop
  | [] => True
  | p :: P => i ≤ p ∧ ∃ e, L[p - i]? = some e ∧ okL last e.1 = true ∧ Fits (L.drop (p - i + 1)) (p + 1) (some e.1) P
theorem fits_row : ∀ {P : List Nat} {xs : List Int} {i : Nat} {last : Option Int}, Fits (lisg ltI xs) i last P → ∃ r : List Int, r.length = P.length ∧ r.Sublist xs ∧ Ris ltI r ∧ (∀ a ∈ r, okL last a = true) ∧ ∀ p P', P = p :: P' → ∀ e, (lisg ltI xs)[p - i]? = some e → r.head? = some e.1
  | [], xs, i, last, _ => by
    refine ⟨[], rfl, List.nil_sublist _, List.Pairwise.nil, ?_, ?_⟩
    · intro a h
      cases h
    · intro p P' h
      cases h
  | p :: P, xs, i, last, h => by
    obtain ⟨h1, e, h2, h3, h4⟩ := h
    have hd : ∀ (X : List Int) (j : Nat), (lisg ltI X).drop j = lisg ltI (X.drop j) := fun X => by
      induction X with
      | nil => intro j; cases j <;> rfl
      | cons x X ih =>
        intro j
        cases j with
        | zero => rfl
        | succ j => exact ih j
    rw [hd] at h4
    obtain ⟨r, r1, r2, r3, r4, _⟩ := fits_row h4
    have hx : xs[p - i]? = some e.1 := by
      have : ((lisg ltI xs).map (·.1))[p - i]? = xs[p - i]? := by rw [lisg_fst]
      rw [← this, List.getElem?_map, h2]
      rfl
    obtain ⟨hl, ex⟩ := List.getElem?_eq_some_iff.mp hx
    refine ⟨e.1 :: r, by rw [List.length_cons, List.length_cons, r1], ?_, List.pairwise_cons.mpr ⟨fun a ha => r4 a ha, r3⟩, fun a ha => ?_, fun q Q' hq e' he' => ?_⟩
    · have : (e.1 :: xs.drop (p - i + 1)).Sublist xs := by
        have := List.drop_sublist (p - i) xs
        rw [List.drop_eq_getElem_cons hl, ex] at this
        exact this
      exact (List.Sublist.cons₂ _ r2).trans this
    · rcases List.mem_cons.mp ha with rfl | ha
      · exact h3
      · have q1 : e.1 < a := of_decide_eq_true (r4 a ha)
        unfold okL at h3 ⊢
        cases last with
        | none => rfl
        | some y =>
          have := of_decide_eq_true h3
          exact decide_eq_true (by omega)
    · injection hq with hq1 hq2
      subst hq1
      rw [h2] at he'
      cases he'
      rfl
theorem grdP_len : ∀ (L : Ln) (i : Nat) (last : Option Int) (m : Nat), (grdP i last m L).length = (grd last m L).length
  | [], _, _, _ => rfl
  | e :: r, i, last, m => by
    unfold grdP grd
    split
    · rw [List.length_cons, List.length_cons, grdP_len]
    · exact grdP_len _ _ _ _
/-- none stands ahead of it -/
theorem grdP_first : ∀ (xs : List Int) (i : Nat) (last : Option Int) (m : Nat), (∀ e ∈ lisg ltI xs, okL last e.1 = true → e.2 ≤ m) → ∀ P : List Nat, Fits (lisg ltI xs) i last P → P.length = m → lexN P (grdP i last m (lisg ltI xs)) = false
  | [], i, last, m, _, P, hP, hl => by
    cases P with
    | nil => rfl
    | cons p P =>
      obtain ⟨_, e, h, _⟩ := hP
      cases h
  | x :: xs, i, last, m, hm, P, hP, hl => by
    have tailm : ∀ e ∈ lisg ltI xs, okL last e.1 = true → e.2 ≤ m := fun e he => hm e (List.mem_cons_of_mem _ he)
    show lexN P (if mxg ltI x (lisg ltI xs) + 1 = m ∧ okL last x = true then i :: grdP (i + 1) (some x) (m - 1) (lisg ltI xs) else grdP (i + 1) last m (lisg ltI xs)) = false
    cases P with
    | nil =>
      have m0 : m = 0 := hl.symm
      subst m0
      rw [if_neg (by omega)]
      exact grdP_first xs (i + 1) last 0 tailm [] trivial rfl
    | cons p P =>
      have hP0 := hP
      obtain ⟨h1, e, h2, h3, h4⟩ := hP
      by_cases hp : p = i
      · subst hp
        rw [Nat.sub_self] at h2 h4
        have ee : e = (x, mxg ltI x (lisg ltI xs) + 1) := (Option.some.inj h2).symm
        subst ee
        obtain ⟨r, r1, r2, r3, _, r5⟩ := fits_row hP0
        cases r with
        | nil => cases r1
        | cons a r =>
          have ha : a = x := by
            have := r5 p P rfl (x, mxg ltI x (lisg ltI xs) + 1) (by rw [Nat.sub_self]; rfl)
            exact Option.some.inj this
          subst ha
          have le1 := hm _ List.mem_cons_self h3
          have le2 : (a :: r).length ≤ mxg ltI a (lisg ltI xs) + 1 := by
            have t4 := h4
            obtain ⟨r', s1, s2, s3, s4, _⟩ := fits_row (xs := xs) (i := p + 1) (last := some a) t4
            have : r'.length ≤ mxg ltI a (lisg ltI xs) := by
              cases r' with
              | nil => exact Nat.zero_le _
              | cons b r' =>
                obtain ⟨f, hf, f1, f2⟩ := row_le s2 s3
                have := mxg_le (lt := ltI) (x := a) hf (by rw [f1]; exact s4 b List.mem_cons_self)
                rw [List.length_cons]
                omega
            rw [r1, List.length_cons]
            omega
          have lm : (a :: r).length = m := r1.trans hl
          have eq : mxg ltI a (lisg ltI xs) + 1 = m := by
            have le1' : mxg ltI a (lisg ltI xs) + 1 ≤ m := le1
            omega
          rw [if_pos ⟨eq, h3⟩]
          unfold lexN
          rw [if_pos rfl]
          refine grdP_first xs (p + 1) (some a) (m - 1) (fun e he ok => ?_) P h4 ?_
          · have := mxg_le (lt := ltI) (x := a) he ok
            omega
          · rw [List.length_cons] at hl
            omega
      · split
        · unfold lexN
          rw [if_neg hp]
          exact decide_eq_false (by omega)
        · refine grdP_first xs (i + 1) last m tailm (p :: P) ?_ hl
          have e1 : p - i = (p - (i + 1)) + 1 := by omega
          refine ⟨by omega, e, ?_, h3, ?_⟩
          · have h2' : ((x, mxg ltI x (lisg ltI xs) + 1) :: lisg ltI xs)[p - i]? = some e := h2
            rw [e1, List.getElem?_cons_succ] at h2'
            exact h2'
          · have h4' : Fits (((x, mxg ltI x (lisg ltI xs) + 1) :: lisg ltI xs).drop (p - i + 1)) (p + 1) (some e.1) P := h4
            rw [e1, List.drop_succ_cons] at h4'
            exact h4'
/-- every choice of n members is a number below 2 ^ n -/
theorem bits_ex : ∀ (n : Nat) (f : Nat → Bool), ∃ c, c < 2 ^ n ∧ ∀ k, k < n → (c / 2 ^ k % 2 = 1 ↔ f k = true)
  | 0, f => ⟨0, by decide, fun k h => absurd h (Nat.not_lt_zero _)⟩
  | n + 1, f => by
    obtain ⟨c, h1, h2⟩ := bits_ex n fun k => f (k + 1)
    refine ⟨2 * c + if f 0 = true then 1 else 0, ?_, fun k hk => ?_⟩
    · rw [Nat.pow_succ]
      split <;> omega
    · cases k with
      | zero =>
        rw [Nat.pow_zero, Nat.div_one]
        split
        · rename_i q
          rw [q]
          constructor
          · intro _; rfl
          · intro _; omega
        · rename_i q
          constructor
          · intro z; omega
          · intro z; exact absurd z q
      | succ k =>
        have e : (2 * c + if f 0 = true then 1 else 0) / 2 ^ (k + 1) = c / 2 ^ k := by
          rw [Nat.pow_succ, Nat.mul_comm (2 ^ k) 2, ← Nat.div_div_eq_div_mul]
          congr 1
          split <;> omega
        rw [e]
        exact h2 k (by omega)
end VL

set_option Elab.async false
set_option linter.all false
set_option maxRecDepth 100000
set_option maxHeartbeats 4000000
namespace VL
open PySem PySem.Spec PyProof.Rows L2

def top (i : Nat) : Stmt := PySem.Challenge.pw_viewloom_k30_best_rising_rows.main.body.getD i (.Pass ⟨0, 0, 0, 0⟩)
theorem Rn.u1 {A : Around} {k : Nat} (r : Room k A) : A.units + 1 < cLine := by have := r.un; omega
theorem mt_indexS {X : Cx} {K : PySem.W.Frag} (hK : X.K = K) : MtR X "list.index" (rIndex K) := by subst hK; exact mt_index
abbrev s_best_row : Stmt := top 1
abbrev s_lengths_from : Stmt := top 2
abbrev s_count_above : Stmt := top 3
abbrev s__law_cell : Stmt := top 5
abbrev s__law_start : Stmt := top 6
abbrev s__law_digit : Stmt := top 7
abbrev s__law_lengths : Stmt := top 8
abbrev s__law_rises : Stmt := top 9
abbrev s__law_all : Stmt := top 10
abbrev s__law_right : Stmt := top 11
abbrev s_law : Stmt := top 12
structure Ad where
  u0 : Unit
structure Txt (K : PySem.W.Frag) (w : World) (mg : Str → Option Value) (C : Ad) : Prop where
  z_abs : mg "abs" = none
  z_int : mg "int" = none
  z_isinstance : mg "isinstance" = none
  z_len : mg "len" = none
  z_list : mg "list" = none
  z_max : mg "max" = none
  z_min : mg "min" = none
  z_range : mg "range" = none
  z_reversed : mg "reversed" = none
  z_zip : mg "zip" = none
  d_best_row : DefE K mg "best_row" s_best_row ["numbers"]
  d_lengths_from : DefE K mg "lengths_from" s_lengths_from ["numbers"]
  d_count_above : DefE K mg "count_above" s_count_above ["firsts", "number"]
  d__law_cell : DefE K mg "_law_cell" s__law_cell ["script", "k"]
  d__law_start : DefE K mg "_law_start" s__law_start ["cell", "k"]
  d__law_digit : DefE K mg "_law_digit" s__law_digit ["state", "many"]
  d__law_lengths : DefE K mg "_law_lengths" s__law_lengths ["numbers"]
  d__law_rises : DefE K mg "_law_rises" s__law_rises ["row"]
  d__law_all : DefE K mg "_law_all" s__law_all ["numbers"]
  d__law_right : DefE K mg "_law_right" s__law_right ["numbers", "row"]
end VL

set_option Elab.async false
set_option linter.all false
set_option maxRecDepth 100000
set_option maxHeartbeats 4000000
namespace VL
open PySem PySem.Spec PyProof.Rows L2
theorem Sm.new {t : Addr} {o : HO} {H : Hp} (h : H t = none) : Same H (upd H t o) := fun b u e => by rw [upd_ne (ne_of_none e h)]; exact e
theorem at_i {F : List Int} {k : Nat} {a : Int} (h : F[k]? = some a) : atI (F.map V.int) (k : Int) = some (.int a) := by
  have hk : k < F.length := by
    rcases Nat.lt_or_ge k F.length with q | q
    · exact q
    · rw [List.getElem?_eq_none q] at h; cases h
  unfold atI ixN
  rw [if_pos (by omega), if_pos (by rw [List.length_map]; omega), Int.toNat_natCast]
  show (F.map V.int)[k]? = _
  rw [List.getElem?_map, h]
  rfl
def lensV (L : Ln) : List V := L.map fun e => V.int (e.2 : Int)
def spCount : Sp := fun vs H Q _ => ∃ (f : Addr) (F : List Int) (x : Int), vs = [.ref f, .int x] ∧ H f = some (.lst (F.map V.int)) ∧ (∀ (j k : Nat) (a b : Int), j < k → F[j]? = some a → F[k]? = some b → b < a) ∧ F.length ≤ 1000 ∧ ∀ c : Nat, Cnt F x c → Q (.int (c : Int)) H
def spLens : Sp := fun vs H Q _ => ∃ (n : Addr) (ns : List Int), vs = [.ref n] ∧ H n = some (.lst (ns.map V.int)) ∧ ns.length ≤ 500 ∧ ∀ l H', Same H H' → H l = none → H' l = some (.lst (lensV (lisg ltI ns))) → Q (.ref l) H'
def spBest : Sp := fun vs H Q _ => ∃ (n : Addr) (ns : List Int), vs = [.ref n] ∧ H n = some (.lst (ns.map V.int)) ∧ ns.length ≤ 500 ∧ ∀ r H', Same H H' → H r = none → H' r = some (.lst ((grd none (bestL (lisg ltI ns)) (lisg ltI ns)).map V.int)) → Q (.ref r) H'
section
variable {P : Program} {w : World} {K : PySem.W.Frag} {mg : Str → Option Value} {base : Heap} {C : Ad}
theorem sc_count_above : FnScope ["firsts", "number", "low", "high", "middle"] ["firsts", "number"] (defScope s_count_above) := ⟨rfl, rfl, rfl, by decide +kernel, rfl, by decide +kernel, by decide +kernel⟩
theorem ok_count (T : Txt K w mg C) : Cal P w K mg base 1 "count_above" spCount := by
  refine cal_of T.d_count_above sc_count_above (fun vs H Q E h => ?_) (fun f cdv A outer s H vs Q E hr h => ?_)
  · obtain ⟨f, F, x, rfl, _⟩ := h
    rfl
  · obtain ⟨f, F, x, rfl, hf, ds, hl, k⟩ := h
    refine ⟨_, (pss_cons (ps_set (i := 2) sc_count_above.nd rfl (Or.inl rfl) pe_int) (pss_cons (ps_set (i := 3) sc_count_above.nd rfl (Or.inl rfl) (pe_callB call_len_seq (by rfl) T.z_len PySem.boot_len (pa_cons (pv 0) pa_nil))) (pss_cons (ps_while PassesOwn.never (pt_cmpR op_lt (pv 2) (pv 3) (nomark _)) (pss_cons (ps_set (i := 4) sc_count_above.nd rfl (Or.inl rfl) (pe_op op_fdiv (pe_op op_add (pv 2) (pv 3)) pe_int)) (pss_one (ps_if (pt_cmpR op_gt (pe_ix ix_list (pv 0) (pv 4) (fun _ _ => rfl)) (pv 1) (nomark _)) (pss_one (ps_set (i := 2) sc_count_above.nd rfl (Or.inl rfl) (pe_op op_add (pv 4) pe_int))) (pss_one (ps_set (i := 3) sc_count_above.nd rfl (Or.inl rfl) (pv 4))))))) (pss_one (ps_ret (pv 2)))))), ?_⟩
    refine ⟨_, rfl, f, _, rfl, .inl (SqL.of hf), ?_⟩
    refine ⟨fun m σ H' => ∃ (lo hi : Nat) (y : Option V), m = hi - lo ∧ lo ≤ hi ∧ hi ≤ F.length ∧ (∀ (k : Nat) (a : Int), k < lo → F[k]? = some a → x < a) ∧ (∀ (k : Nat) (a : Int), hi ≤ k → F[k]? = some a → a ≤ x) ∧ H' = H ∧ σ = [some (.ref f), some (.int x), some (.int (lo : Int)), some (.int (hi : Int)), y],
      ⟨_, 0, F.length, none, rfl, Nat.zero_le _, Nat.le_refl _, fun k a h => absurd h (Nat.not_lt_zero _), fun k a h e => (by rw [List.getElem?_eq_none h] at e; cases e), rfl, (by rw [List.length_map]; rfl)⟩, ?_⟩
    rintro m σ H1 ⟨lo, hi, y, rfl, h1, h2, up, dn, eH, rfl⟩
    subst H1
    refine ⟨_, rfl, _, rfl, _, _, rfl, rfl, _, rfl, ?_⟩
    refine ite2 (fun q => ?_) (fun q => ?_)
    · have q' : lo < hi := by have := of_decide_eq_true q; omega
      have em : ((lo : Int) + (hi : Int)) / 2 = (((lo + hi) / 2 : Nat) : Int) := by omega
      have hm : (lo + hi) / 2 < F.length := by omega
      have hg := List.getElem?_eq_getElem hm
      refine ⟨fun σ' H' => ∃ m', m' < hi - lo ∧ ∃ (lo hi : Nat) (y : Option V), m' = hi - lo ∧ lo ≤ hi ∧ hi ≤ F.length ∧ (∀ (k : Nat) (a : Int), k < lo → F[k]? = some a → x < a) ∧ (∀ (k : Nat) (a : Int), hi ≤ k → F[k]? = some a → a ≤ x) ∧ H' = H ∧ σ' = [some (.ref f), some (.int x), some (.int (lo : Int)), some (.int (hi : Int)), y], fun σ' H' z => z, ?_⟩
      refine ⟨_, rfl, _, rfl, _, _, rfl, rfl, _, _, rfl, rfl, ⟨by decide, by decide⟩, ?_⟩
      dsimp only
      rw [em]
      refine ⟨_, rfl, _, rfl, f, _, _, .int F[(lo + hi) / 2], rfl, rfl, SqL.of hf, at_i hg, _, rfl, _, _, rfl, rfl, _, rfl, ?_⟩
      refine ite2 (fun z => ?_) (fun z => ?_)
      · have z' : x < F[(lo + hi) / 2] := of_decide_eq_true z
        refine ⟨_, rfl, _, _, rfl, rfl, ?_⟩
        refine ⟨hi - ((lo + hi) / 2 + 1), by omega, (lo + hi) / 2 + 1, hi, _, rfl, by omega, h2, fun k a hk e => ?_, dn, rfl, rfl⟩
        by_cases e1 : k = (lo + hi) / 2
        · subst e1
          rw [hg] at e
          rw [← Option.some.inj e]
          exact z'
        · have := ds k _ _ _ (by omega) e hg
          omega
      · have z' : ¬ x < F[(lo + hi) / 2] := fun w => z (decide_eq_true w)
        refine ⟨_, rfl, ?_⟩
        refine ⟨(lo + hi) / 2 - lo, by omega, lo, (lo + hi) / 2, _, rfl, by omega, by omega, up, fun k a hk e => ?_, rfl, rfl⟩
        by_cases e1 : k = (lo + hi) / 2
        · subst e1
          rw [hg] at e
          rw [← Option.some.inj e]
          omega
        · have := ds _ k _ _ (by omega) hg e
          omega
    · have q' : ¬ lo < hi := fun z => q (decide_eq_true (by show (lo : Int) < (hi : Int); omega))
      have e : lo = hi := by omega
      subst e
      refine ⟨_, rfl, ?_⟩
      exact k lo ⟨h2, up, dn⟩
theorem sc_lengths_from : FnScope ["numbers", "lengths", "firsts", "number", "length"] ["numbers"] (defScope s_lengths_from) := ⟨rfl, rfl, rfl, by decide +kernel, rfl, by decide +kernel, by decide +kernel⟩
theorem ok_lens (T : Txt K w mg C) : Cal P w K mg base 2 "lengths_from" spLens := by
  have Gcount_above : Cal P w K mg base 1 "count_above" spCount := ok_count T
  refine cal_of T.d_lengths_from sc_lengths_from (fun vs H Q E h => ?_) (fun f cdv A outer s H vs Q E hr h => ?_)
  · obtain ⟨n, ns, rfl, _⟩ := h
    rfl
  · obtain ⟨n, ns, rfl, hn, hl, k⟩ := h
    refine ⟨_, (pss_cons (ps_set (i := 1) sc_lengths_from.nd rfl (Or.inl rfl) (pe_lst pa_nil)) (pss_cons (ps_set (i := 2) sc_lengths_from.nd rfl (Or.inl rfl) (pe_lst pa_nil)) (pss_cons (ps_for PassesOwn.never rfl (pi_reversed (by rfl) T.z_reversed (pa_cons (pv 0) pa_nil)) (pg_name (i := 3) sc_lengths_from.nd rfl (Or.inl rfl)) (pss_cons (ps_set (i := 4) sc_lengths_from.nd rfl (Or.inl rfl) (pe_c Gcount_above hr (by decide) (by rfl) (pa_cons (pv 2) (pa_cons (pv 3) pa_nil)))) (pss_cons (ps_asg (pe_lst (pa_cons (pv 3) pa_nil)) (pg_slc (pv 2) (po_some (pv 4)) (po_some (pe_op op_add (pv 4) pe_int)))) (pss_one (ps_expr (pe_bm PySem.F.plainAttrs_list PySem.F.slot_list_append PySem.F.type_list_append mt_append (pv 1) (pa_cons (pe_op op_add (pv 4) pe_int) pa_nil))))))) (pss_one (ps_ret (pe_revL (pv 1))))))), ?_⟩
    refine ⟨by show 0 ≤ sizeLine; decide, fun l hl1 => ?_⟩
    refine ⟨by show 0 ≤ sizeLine; decide, fun fs hfs => ?_⟩
    have lf : l ≠ fs := fun z => by rw [z, ← z, upd_same] at hfs; cases hfs
    have fsn : H fs = none := by rw [upd_ne lf.symm] at hfs; exact hfs
    have nl : n ≠ l := ne_of_none hn hl1
    have nf : n ≠ fs := ne_of_none hn fsn
    refine ⟨_, rfl, n, _, rfl, SqL.of (by rw [upd_ne nf, upd_ne nl]; exact hn), ?_⟩
    refine for_it (walk_rev (K := K) (a := n) (xs := ns.map V.int)) (fun i σ H' => ∃ (S F : List Int) (y1 y2 : Option V), ns.drop (ns.length - i) = S ∧ Same H H' ∧ H' l = some (.lst (lensV (lisg ltI S).reverse)) ∧ H' fs = some (.lst (F.map V.int)) ∧ Fst (lisg ltI S) F ∧ σ = [some (.ref n), some (.ref l), some (.ref fs), y1, y2])
      ⟨[], [], none, none, (by rw [Nat.sub_zero, List.drop_length]), (Sm.new hl1).trans (Sm.new hfs), (by rw [upd_ne lf, upd_same]; rfl), upd_same, Fst.nil, rfl⟩ (fun i σ H' _ ⟨S, F, y1, y2, _, s1, _⟩ => SqL.of (s1 _ _ hn)) ?_ ?_
    · rintro i x σ H1 H2 hi ⟨S, F, y1, y2, eS, s1, h1, h2, P1, rfl⟩ ⟨rfl, hx⟩
      have hi' : i < ns.length := by rw [List.length_map] at hi; exact hi
      have hk : ns.length - 1 - i < ns.length := by omega
      have ex : x = .int ns[ns.length - 1 - i] := by
        rw [List.length_map, List.getElem?_map, List.getElem?_eq_getElem hk] at hx
        exact (Option.some.inj hx).symm
      subst ex
      have eS2 : ns.drop (ns.length - (i + 1)) = ns[ns.length - 1 - i] :: S := by
        rw [← eS]
        have e1 : ns.length - (i + 1) = ns.length - 1 - i := by omega
        have e2 : ns.length - i = ns.length - 1 - i + 1 := by omega
        rw [e1, e2]
        exact List.drop_eq_getElem_cons hk
      generalize ns[ns.length - 1 - i] = z at eS2
      have hS : S.length = i := by rw [← eS, List.length_drop]; omega
      have hF : F.length ≤ i := by
        rcases Nat.eq_zero_or_pos F.length with q | q
        · omega
        · have h3 := List.getElem?_eq_getElem (show F.length - 1 < F.length by omega)
          obtain ⟨e, he, _, h4⟩ := P1.ex _ _ h3
          obtain ⟨r, r1, _, r3⟩ := row_ex he ltI_tr
          have := r1.length_le
          rw [List.length_cons] at this
          omega
      refine ⟨_, rfl, _, rfl, fs, F, z, rfl, h2, P1.ds, by omega, fun c Cn => ?_⟩
      have ec := P1.cnt Cn
      refine ⟨_, rfl, by show 1 ≤ sizeLine; decide, fun q hq => ?_⟩
      have lq : l ≠ q := ne_of_none h1 hq
      have fq : fs ≠ q := ne_of_none h2 hq
      refine ⟨_, rfl, _, rfl, _, rfl, _, rfl, _, _, rfl, rfl, _, rfl, fs, q, _, _, c, c + 1, rfl, rfl, rfl, rfl, (by rw [upd_ne fq]; exact h2), upd_same, fq, (by rw [List.length_map]; exact Cn.le), Nat.le_succ _, ?_, ?_⟩
      · rw [List.length_map]
        show F.length + 1 ≤ sizeLine
        have : 1000 < sizeLine := by decide
        omega
      · have lfs : l ≠ fs := by
          obtain ⟨y, hy⟩ : ∃ y, y = H2 := ⟨_, rfl⟩
          exact lf
        refine ⟨_, rfl, .inl ⟨rfl, _, SqL.of (by rw [upd_ne lf, upd_ne lq]; exact h1)⟩, _, rfl, _, _, rfl, rfl, l, _, _, rfl, rfl, (by rw [upd_ne lf, upd_ne lq]; exact h1), ?_, ?_⟩
        · unfold lensV
          rw [List.length_map, List.length_reverse, lisg_len, hS]
          exact small1000 (by omega)
        · refine ⟨z :: S, putN F c z, _, _, eS2, fun b o e => ?_, ?_, ?_, ?_, rfl⟩
          · rw [upd_ne (ne_of_none e hl1), upd_ne (ne_of_none e fsn), upd_ne (ne_of_none (s1 _ _ e) hq)]
            exact s1 _ _ e
          · rw [upd_same]
            show some (HO.lst (_ ++ [_])) = _
            unfold lensV
            show _ = some (HO.lst ((((z, mxg ltI z (lisg ltI S) + 1) :: lisg ltI S).reverse).map _))
            rw [List.reverse_cons, List.map_append, ← ec]
            rfl
          · rw [upd_ne lf.symm, upd_same]
            unfold putN
            rw [List.map_append, List.map_append, List.map_take, List.map_drop]
            rfl
          · show Fst ((z, mxg ltI z (lisg ltI S) + 1) :: lisg ltI S) _
            rw [← ec]
            exact P1.put Cn
    · rintro σ H1 ⟨S, F, y1, y2, eS, s1, h1, h2, P1, rfl⟩
      rw [List.length_map, Nat.sub_self, List.drop_zero] at eS
      subst eS
      refine ⟨_, rfl, l, _, rfl, SqL.of h1, fun p hp => ?_⟩
      refine k p _ (s1.trans (Sm.new hp)) (s1.free hp) ?_
      rw [upd_same]
      unfold lensV
      rw [List.map_reverse, List.reverse_reverse]
theorem atI_last {α : Type} {xs : List α} {x : α} : atI (xs ++ [x]) (-1) = some x := by
  unfold atI ixN
  rw [if_neg (by decide), if_pos (by rw [List.length_append]; simp; omega)]
  show (xs ++ [x])[_]? = _
  have e : (-1 + ((xs ++ [x]).length : Int)).toNat = xs.length := by rw [List.length_append]; simp; omega
  rw [e]
  simp
theorem best_is {L : Ln} {m : Int} (h1 : m ∈ L.map fun e => (e.2 : Int)) (h2 : ∀ y ∈ L.map (fun e => (e.2 : Int)), y ≤ m) : m = (bestL L : Int) := by
  obtain ⟨e, he, rfl⟩ := List.mem_map.mp h1
  have h3 := bestL_le he
  rcases bestL_ex (L := L) with z | ⟨f, hf, z⟩
  · omega
  · have := h2 _ (List.mem_map.mpr ⟨f, hf, rfl⟩)
    omega
theorem sc_best_row : FnScope ["numbers", "lengths", "row", "missing", "number", "length"] ["numbers"] (defScope s_best_row) := ⟨rfl, rfl, rfl, by decide +kernel, rfl, by decide +kernel, by decide +kernel⟩
theorem ok_best (T : Txt K w mg C) : Cal P w K mg base 3 "best_row" spBest := by
  have Glengths_from : Cal P w K mg base 2 "lengths_from" spLens := ok_lens T
  refine cal_of T.d_best_row sc_best_row (fun vs H Q E h => ?_) (fun f cdv A outer s H vs Q E hr h => ?_)
  · obtain ⟨n, ns, rfl, _⟩ := h
    rfl
  · obtain ⟨n, ns, rfl, hn, hl, k⟩ := h
    refine ⟨_, (pss_cons (ps_set (i := 1) sc_best_row.nd rfl (Or.inl rfl) (pe_c Glengths_from hr (by decide) (by rfl) (pa_cons (pv 0) pa_nil))) (pss_cons (ps_set (i := 2) sc_best_row.nd rfl (Or.inl rfl) (pe_lst pa_nil)) (pss_cons (ps_set (i := 3) sc_best_row.nd rfl (Or.inl rfl) (pe_callBK (cr_maxDef rfl (Rn.u1 hr)) (by rfl) T.z_max (by decide +kernel) (pa_cons (pv 1) pa_nil) (pk_cons pe_int pk_nil))) (pss_cons (ps_for PassesOwn.never rfl (pi_zip (by rfl) T.z_zip (pa_cons (pv 0) (pa_cons (pv 1) pa_nil))) (pg_tup rfl (pgs_cons (pg_name (i := 4) sc_best_row.nd rfl (Or.inl rfl)) (pgs_cons (pg_name (i := 5) sc_best_row.nd rfl (Or.inl rfl)) pgs_nil))) (pss_one (ps_if (PW.pt (pw_and (pt_cmpR op_eq (pv 5) (pv 3) (nomark _)) (pw_and1 (PW.pt (pw_or (pt_not (pt_truth (pv 2) (fun _ => rfl))) (pw_or1 (pt_cmpR op_gt (pv 4) (pe_ix ix_list (pv 2) (pe_un un_neg pe_int) (fun _ _ => rfl)) (nomark _)))))))) (pss_cons (ps_expr (pe_bm PySem.F.plainAttrs_list PySem.F.slot_list_append PySem.F.type_list_append mt_append (pv 2) (pa_cons (pv 4) pa_nil))) (pss_one (ps_aug (i := 3) sc_best_row.nd rfl (Or.inl rfl) pe_int ip_sub))) pss_nil))) (pss_one (ps_ret (pv 2))))))), ?_⟩
    refine ⟨_, rfl, n, ns, rfl, hn, hl, fun l H1 s1 nl h1 => ?_⟩
    refine ⟨by show 0 ≤ sizeLine; decide, fun r hr1 => ?_⟩
    have lr : l ≠ r := ne_of_none h1 hr1
    have nr : H r = none := s1.free hr1
    have s2 : Same H (upd H1 r (.lst [])) := s1.trans (Sm.new hr1)
    have h2 : upd H1 r (.lst []) l = some (.lst (lensV (lisg ltI ns))) := by rw [upd_ne lr]; exact h1
    have h3 : upd H1 r (.lst []) r = some (.lst []) := upd_same
    generalize upd H1 r (.lst []) = H2 at s2 h2 h3 ⊢
    have eV : lensV (lisg ltI ns) = ((lisg ltI ns).map fun e => (e.2 : Int)).map V.int := by
      unfold lensV
      rw [List.map_map]
      rfl
    have hL : (lisg ltI ns).length = ns.length := lisg_len ns
    have fst : ∀ i (hi : i < (lisg ltI ns).length), (lisg ltI ns)[i].1 = ns[i]'(by omega) := fun i hi => by
      have : ((lisg ltI ns).map (·.1))[i]? = ns[i]? := by rw [lisg_fst]
      rw [List.getElem?_map, List.getElem?_eq_getElem hi, List.getElem?_eq_getElem (by omega)] at this
      exact Option.some.inj this
    refine ⟨_, rfl, l, (lisg ltI ns).map fun e => (e.2 : Int), 0, rfl, rfl, SqL.of (by rw [← eV]; exact h2), fun e => ?_, fun m hm hall => ?_⟩
    · have em : (0 : Int) = (bestL (lisg ltI ns) : Int) := by
        rw [List.map_eq_nil_iff.mp e]
        rfl
      refine ⟨_, rfl, _, rfl, n, l, _, _, rfl, SqL.of (s2 _ _ hn), SqL.of h2, ?_⟩
      refine for_it (walk_zip (K := K) (n := ns.length) (a := n) (b := l) (xs := ns.map V.int) (ys := lensV (lisg ltI ns)) (by unfold lensV; rw [List.length_map, List.length_map, hL, Nat.min_self])) (fun i σ H' => ∃ (rw_ : List Int) (mi : Nat) (y1 y2 : Option V), Same H H' ∧ H' l = some (.lst (lensV (lisg ltI ns))) ∧ H' r = some (.lst (rw_.map V.int)) ∧ rw_.length ≤ i ∧ grd none (bestL (lisg ltI ns)) (lisg ltI ns) = rw_ ++ grd rw_.getLast? mi ((lisg ltI ns).drop i) ∧ σ = [some (.ref n), some (.ref l), some (.ref r), some (.int (mi : Int)), y1, y2])
        ⟨[], bestL (lisg ltI ns), none, none, s2, h2, h3, Nat.le_refl _, rfl, (by rw [← em]; rfl)⟩ (fun i σ H' _ ⟨_, _, _, _, s3, h4, _⟩ => ⟨SqL.of (s3 _ _ hn), SqL.of h4⟩) ?_ ?_
      · rintro i x σ H3 H4 hi ⟨rw_, mi, y1, y2, s3, h4, h5, hlen, hg, rfl⟩ ⟨T_, x1, x2, rfl, nT, rfl, hx1, hx2⟩
        have hiL : i < (lisg ltI ns).length := by omega
        have hx1 : (ns.map V.int)[i]? = some x1 := hx1
        have hx2 : (lensV (lisg ltI ns))[i]? = some x2 := hx2
        have ex1 : x1 = .int (lisg ltI ns)[i].1 := by
          rw [List.getElem?_map, List.getElem?_eq_getElem hi] at hx1
          rw [fst i hiL]
          exact (Option.some.inj hx1).symm
        have ex2 : x2 = .int ((lisg ltI ns)[i].2 : Int) := by
          unfold lensV at hx2
          rw [List.getElem?_map, List.getElem?_eq_getElem hiL] at hx2
          exact (Option.some.inj hx2).symm
        subst ex1
        subst ex2
        have dr : (lisg ltI ns).drop i = (lisg ltI ns)[i] :: (lisg ltI ns).drop (i + 1) := List.drop_eq_getElem_cons hiL
        have pos : 1 ≤ (lisg ltI ns)[i].2 := lisg_pos (List.getElem_mem hiL)
        generalize (lisg ltI ns)[i] = e at dr pos
        rw [dr] at hg
        have hg' : grd none (bestL (lisg ltI ns)) (lisg ltI ns) = rw_ ++ if e.2 = mi ∧ okL rw_.getLast? e.1 = true then e.1 :: grd (some e.1) (mi - 1) ((lisg ltI ns).drop (i + 1)) else grd rw_.getLast? mi ((lisg ltI ns).drop (i + 1)) := hg
        have Tr : r ≠ T_ := ne_of_none h5 nT
        have Tl : l ≠ T_ := ne_of_none h4 nT
        have s4 : Same H (upd H3 T_ (.tup [.int e.1, .int (e.2 : Int)])) := s3.trans (Sm.new nT)
        refine ⟨_, _, rfl, SqT.of upd_same, rfl, _, _, rfl, _, _, rfl, rfl, ?_⟩
        have h4' : upd H3 T_ (.tup [.int e.1, .int (e.2 : Int)]) l = some (.lst (lensV (lisg ltI ns))) := by rw [upd_ne Tl]; exact h4
        have h5' : upd H3 T_ (.tup [.int e.1, .int (e.2 : Int)]) r = some (.lst (rw_.map V.int)) := by rw [upd_ne Tr]; exact h5
        generalize upd H3 T_ (.tup [.int e.1, .int (e.2 : Int)]) = H5 at s4 h4' h5' ⊢
        refine ⟨_, rfl, _, rfl, rfl, _, rfl, ?_⟩
        refine ite2 (fun q => ?_) (fun q => ?_)
        · have q1 : e.2 = mi := by
            have := of_decide_eq_true q
            injection this with this
            omega
          -- taken
          have take : okL rw_.getLast? e.1 = true → (∃ (rw_2 : List Int) (mi_2 : Nat), grd none (bestL (lisg ltI ns)) (lisg ltI ns) = rw_2 ++ grd rw_2.getLast? mi_2 ((lisg ltI ns).drop (i + 1)) ∧ rw_2 = rw_ ++ [e.1] ∧ mi_2 = mi - 1) := fun ok => ⟨rw_ ++ [e.1], mi - 1, by
            rw [hg', if_pos ⟨q1, ok⟩, List.getLast?_append, List.append_assoc]
            rfl, rfl, rfl⟩
          have body : okL rw_.getLast? e.1 = true → (H5 r = some (.lst (rw_.map V.int)) ∧ (rw_.map V.int).length < sizeLine ∧ ∃ (rw_2 : List Int) (mi_2 : Nat) (y1 y2 : Option V), Same H (upd H5 r (.lst (rw_.map V.int ++ [.int e.1]))) ∧ upd H5 r (.lst (rw_.map V.int ++ [.int e.1])) l = some (.lst (lensV (lisg ltI ns))) ∧ upd H5 r (.lst (rw_.map V.int ++ [.int e.1])) r = some (.lst (rw_2.map V.int)) ∧ rw_2.length ≤ i + 1 ∧ grd none (bestL (lisg ltI ns)) (lisg ltI ns) = rw_2 ++ grd rw_2.getLast? mi_2 ((lisg ltI ns).drop (i + 1)) ∧ [some (V.ref n), some (.ref l), some (.ref r), some (.int ((mi : Int) - 1)), some (.int e.1), some (.int (e.2 : Int))] = [some (.ref n), some (.ref l), some (.ref r), some (.int (mi_2 : Int)), y1, y2]) := fun ok => by
            obtain ⟨rw2, mi2, g1, rfl, rfl⟩ := take ok
            refine ⟨h5', by rw [List.length_map]; exact small1000 (by omega), rw_ ++ [e.1], mi - 1, some (.int e.1), some (.int (e.2 : Int)), fun b o z => by rw [upd_ne (ne_of_none z nr)]; exact s4 _ _ z, by rw [upd_ne lr]; exact h4', by rw [upd_same, List.map_append]; rfl, by rw [List.length_append]; exact Nat.succ_le_succ hlen, g1, ?_⟩
            have : (mi : Int) - 1 = ((mi - 1 : Nat) : Int) := by omega
            rw [this]
          refine ⟨_, rfl, !(rw_.map V.int).isEmpty, .inl ⟨_, SqL.of h5', rfl⟩, ?_⟩
          refine ite2 (fun z => ?_) (fun z => ?_)
          · have er : rw_ = [] := by
              cases rw_ with
              | nil => rfl
              | cons a b => exact absurd z (by simp)
            obtain ⟨b1, b2, b3⟩ := body (by rw [er]; rfl)
            refine iteT ?_
            refine ⟨_, rfl, .inl ⟨rfl, _, SqL.of b1⟩, _, rfl, r, _, _, rfl, rfl, b1, b2, ?_⟩
            exact ⟨_, rfl, _, _, rfl, rfl, b3⟩
          · obtain ⟨ys, y, er⟩ : ∃ ys y, rw_ = ys ++ [y] := by
              rcases List.eq_nil_or_concat rw_ with h | ⟨ys, y, h⟩
              · rw [h] at z
                exact absurd rfl z
              · exact ⟨ys, y, by rw [h, List.concat_eq_append]⟩
            have hat : atI (rw_.map V.int) (-1) = some (.int y) := by
              rw [er, List.map_append]
              exact atI_last
            have ol : okL rw_.getLast? e.1 = decide (y < e.1) := by
              rw [er, List.getLast?_append]
              rfl
            refine ⟨_, rfl, _, rfl, 1, rfl, r, _, _, _, rfl, rfl, SqL.of h5', hat, _, _, rfl, rfl, _, rfl, ?_⟩
            refine ite2 (fun t => ?_) (fun t => ?_)
            · obtain ⟨b1, b2, b3⟩ := body (ol.trans t)
              refine ⟨_, rfl, .inl ⟨rfl, _, SqL.of b1⟩, _, rfl, r, _, _, rfl, rfl, b1, b2, ?_⟩
              exact ⟨_, rfl, _, _, rfl, rfl, b3⟩
            · refine ⟨rw_, mi, _, _, s4, h4', h5', Nat.le_succ_of_le hlen, ?_, rfl⟩
              rw [hg', if_neg (fun w => t (ol.symm.trans w.2))]
        · have q1 : ¬ e.2 = mi := fun w => q (by rw [w]; exact decide_eq_true rfl)
          refine iteF ?_
          refine ⟨rw_, mi, _, _, s4, h4', h5', Nat.le_succ_of_le hlen, ?_, rfl⟩
          rw [hg', if_neg (fun w => q1 w.1)]
      · rintro σ H3 ⟨rw_, mi, y1, y2, s3, h4, h5, hlen, hg, rfl⟩
        refine ⟨_, rfl, ?_⟩
        rw [← hL, List.drop_length] at hg
        have hg2 : grd none (bestL (lisg ltI ns)) (lisg ltI ns) = rw_ := by rw [hg]; exact List.append_nil _
        refine k r H3 s3 nr ?_
        rw [hg2]
        exact h5
    · have em : m = (bestL (lisg ltI ns) : Int) := best_is hm hall
      refine ⟨_, rfl, _, rfl, n, l, _, _, rfl, SqL.of (s2 _ _ hn), SqL.of h2, ?_⟩
      refine for_it (walk_zip (K := K) (n := ns.length) (a := n) (b := l) (xs := ns.map V.int) (ys := lensV (lisg ltI ns)) (by unfold lensV; rw [List.length_map, List.length_map, hL, Nat.min_self])) (fun i σ H' => ∃ (rw_ : List Int) (mi : Nat) (y1 y2 : Option V), Same H H' ∧ H' l = some (.lst (lensV (lisg ltI ns))) ∧ H' r = some (.lst (rw_.map V.int)) ∧ rw_.length ≤ i ∧ grd none (bestL (lisg ltI ns)) (lisg ltI ns) = rw_ ++ grd rw_.getLast? mi ((lisg ltI ns).drop i) ∧ σ = [some (.ref n), some (.ref l), some (.ref r), some (.int (mi : Int)), y1, y2])
        ⟨[], bestL (lisg ltI ns), none, none, s2, h2, h3, Nat.le_refl _, rfl, (by rw [← em]; rfl)⟩ (fun i σ H' _ ⟨_, _, _, _, s3, h4, _⟩ => ⟨SqL.of (s3 _ _ hn), SqL.of h4⟩) ?_ ?_
      · rintro i x σ H3 H4 hi ⟨rw_, mi, y1, y2, s3, h4, h5, hlen, hg, rfl⟩ ⟨T_, x1, x2, rfl, nT, rfl, hx1, hx2⟩
        have hiL : i < (lisg ltI ns).length := by omega
        have hx1 : (ns.map V.int)[i]? = some x1 := hx1
        have hx2 : (lensV (lisg ltI ns))[i]? = some x2 := hx2
        have ex1 : x1 = .int (lisg ltI ns)[i].1 := by
          rw [List.getElem?_map, List.getElem?_eq_getElem hi] at hx1
          rw [fst i hiL]
          exact (Option.some.inj hx1).symm
        have ex2 : x2 = .int ((lisg ltI ns)[i].2 : Int) := by
          unfold lensV at hx2
          rw [List.getElem?_map, List.getElem?_eq_getElem hiL] at hx2
          exact (Option.some.inj hx2).symm
        subst ex1
        subst ex2
        have dr : (lisg ltI ns).drop i = (lisg ltI ns)[i] :: (lisg ltI ns).drop (i + 1) := List.drop_eq_getElem_cons hiL
        have pos : 1 ≤ (lisg ltI ns)[i].2 := lisg_pos (List.getElem_mem hiL)
        generalize (lisg ltI ns)[i] = e at dr pos
        rw [dr] at hg
        have hg' : grd none (bestL (lisg ltI ns)) (lisg ltI ns) = rw_ ++ if e.2 = mi ∧ okL rw_.getLast? e.1 = true then e.1 :: grd (some e.1) (mi - 1) ((lisg ltI ns).drop (i + 1)) else grd rw_.getLast? mi ((lisg ltI ns).drop (i + 1)) := hg
        have Tr : r ≠ T_ := ne_of_none h5 nT
        have Tl : l ≠ T_ := ne_of_none h4 nT
        have s4 : Same H (upd H3 T_ (.tup [.int e.1, .int (e.2 : Int)])) := s3.trans (Sm.new nT)
        refine ⟨_, _, rfl, SqT.of upd_same, rfl, _, _, rfl, _, _, rfl, rfl, ?_⟩
        have h4' : upd H3 T_ (.tup [.int e.1, .int (e.2 : Int)]) l = some (.lst (lensV (lisg ltI ns))) := by rw [upd_ne Tl]; exact h4
        have h5' : upd H3 T_ (.tup [.int e.1, .int (e.2 : Int)]) r = some (.lst (rw_.map V.int)) := by rw [upd_ne Tr]; exact h5
        generalize upd H3 T_ (.tup [.int e.1, .int (e.2 : Int)]) = H5 at s4 h4' h5' ⊢
        refine ⟨_, rfl, _, rfl, rfl, _, rfl, ?_⟩
        refine ite2 (fun q => ?_) (fun q => ?_)
        · have q1 : e.2 = mi := by
            have := of_decide_eq_true q
            injection this with this
            omega
          -- taken
          have take : okL rw_.getLast? e.1 = true → (∃ (rw_2 : List Int) (mi_2 : Nat), grd none (bestL (lisg ltI ns)) (lisg ltI ns) = rw_2 ++ grd rw_2.getLast? mi_2 ((lisg ltI ns).drop (i + 1)) ∧ rw_2 = rw_ ++ [e.1] ∧ mi_2 = mi - 1) := fun ok => ⟨rw_ ++ [e.1], mi - 1, by
            rw [hg', if_pos ⟨q1, ok⟩, List.getLast?_append, List.append_assoc]
            rfl, rfl, rfl⟩
          have body : okL rw_.getLast? e.1 = true → (H5 r = some (.lst (rw_.map V.int)) ∧ (rw_.map V.int).length < sizeLine ∧ ∃ (rw_2 : List Int) (mi_2 : Nat) (y1 y2 : Option V), Same H (upd H5 r (.lst (rw_.map V.int ++ [.int e.1]))) ∧ upd H5 r (.lst (rw_.map V.int ++ [.int e.1])) l = some (.lst (lensV (lisg ltI ns))) ∧ upd H5 r (.lst (rw_.map V.int ++ [.int e.1])) r = some (.lst (rw_2.map V.int)) ∧ rw_2.length ≤ i + 1 ∧ grd none (bestL (lisg ltI ns)) (lisg ltI ns) = rw_2 ++ grd rw_2.getLast? mi_2 ((lisg ltI ns).drop (i + 1)) ∧ [some (V.ref n), some (.ref l), some (.ref r), some (.int ((mi : Int) - 1)), some (.int e.1), some (.int (e.2 : Int))] = [some (.ref n), some (.ref l), some (.ref r), some (.int (mi_2 : Int)), y1, y2]) := fun ok => by
            obtain ⟨rw2, mi2, g1, rfl, rfl⟩ := take ok
            refine ⟨h5', by rw [List.length_map]; exact small1000 (by omega), rw_ ++ [e.1], mi - 1, some (.int e.1), some (.int (e.2 : Int)), fun b o z => by rw [upd_ne (ne_of_none z nr)]; exact s4 _ _ z, by rw [upd_ne lr]; exact h4', by rw [upd_same, List.map_append]; rfl, by rw [List.length_append]; exact Nat.succ_le_succ hlen, g1, ?_⟩
            have : (mi : Int) - 1 = ((mi - 1 : Nat) : Int) := by omega
            rw [this]
          refine ⟨_, rfl, !(rw_.map V.int).isEmpty, .inl ⟨_, SqL.of h5', rfl⟩, ?_⟩
          refine ite2 (fun z => ?_) (fun z => ?_)
          · have er : rw_ = [] := by
              cases rw_ with
              | nil => rfl
              | cons a b => exact absurd z (by simp)
            obtain ⟨b1, b2, b3⟩ := body (by rw [er]; rfl)
            refine iteT ?_
            refine ⟨_, rfl, .inl ⟨rfl, _, SqL.of b1⟩, _, rfl, r, _, _, rfl, rfl, b1, b2, ?_⟩
            exact ⟨_, rfl, _, _, rfl, rfl, b3⟩
          · obtain ⟨ys, y, er⟩ : ∃ ys y, rw_ = ys ++ [y] := by
              rcases List.eq_nil_or_concat rw_ with h | ⟨ys, y, h⟩
              · rw [h] at z
                exact absurd rfl z
              · exact ⟨ys, y, by rw [h, List.concat_eq_append]⟩
            have hat : atI (rw_.map V.int) (-1) = some (.int y) := by
              rw [er, List.map_append]
              exact atI_last
            have ol : okL rw_.getLast? e.1 = decide (y < e.1) := by
              rw [er, List.getLast?_append]
              rfl
            refine ⟨_, rfl, _, rfl, 1, rfl, r, _, _, _, rfl, rfl, SqL.of h5', hat, _, _, rfl, rfl, _, rfl, ?_⟩
            refine ite2 (fun t => ?_) (fun t => ?_)
            · obtain ⟨b1, b2, b3⟩ := body (ol.trans t)
              refine ⟨_, rfl, .inl ⟨rfl, _, SqL.of b1⟩, _, rfl, r, _, _, rfl, rfl, b1, b2, ?_⟩
              exact ⟨_, rfl, _, _, rfl, rfl, b3⟩
            · refine ⟨rw_, mi, _, _, s4, h4', h5', Nat.le_succ_of_le hlen, ?_, rfl⟩
              rw [hg', if_neg (fun w => t (ol.symm.trans w.2))]
        · have q1 : ¬ e.2 = mi := fun w => q (by rw [w]; exact decide_eq_true rfl)
          refine iteF ?_
          refine ⟨rw_, mi, _, _, s4, h4', h5', Nat.le_succ_of_le hlen, ?_, rfl⟩
          rw [hg', if_neg (fun w => q1 w.1)]
      · rintro σ H3 ⟨rw_, mi, y1, y2, s3, h4, h5, hlen, hg, rfl⟩
        refine ⟨_, rfl, ?_⟩
        rw [← hL, List.drop_length] at hg
        have hg2 : grd none (bestL (lisg ltI ns)) (lisg ltI ns) = rw_ := by rw [hg]; exact List.append_nil _
        refine k r H3 s3 nr ?_
        rw [hg2]
        exact h5
end
end VL

set_option Elab.async false
set_option linter.all false
set_option maxRecDepth 100000
set_option maxHeartbeats 4000000
namespace VL
open PySem PySem.Spec PyProof.Rows L2
/-- a state of drawing -/
def StB (H : Hp) (a : Addr) : Prop := ∃ z : Int, H a = some (.lst [.int z])
def Kq (a : Addr) (H H' : Hp) : Prop := ∀ b o, H b = some o → b ≠ a → H' b = some o
def spLaw (K : PySem.W.Frag) : Sp := fun vs H Q _ => ∃ (a : Addr) (ns : List Int), vs = [.ref a] ∧ SqL K H a (ns.map V.int) ∧ ns.length ≤ 63 ∧ ∀ H', Q (.bl true) H'
def spCellB (K : PySem.W.Frag) : Sp := fun vs H Q _ => ∃ (a : Addr) (ns : List Int) (j : Int), vs = [.ref a, .int j] ∧ SqL K H a (ns.map V.int) ∧ 0 ≤ j ∧ ∀ z, Q (.int z) H
def spStartB : Sp := fun vs H Q _ => ∃ c k : Int, vs = [.int c, .int k] ∧ ∀ p H', H p = none → Same H H' → StB H' p → Q (.ref p) H'
def spDigitB : Sp := fun vs H Q _ => ∃ (a : Addr) (m : Int), vs = [.ref a, .int m] ∧ StB H a ∧ 0 < m ∧ m < 1000 ∧ ∀ r H', StB H' a → Kq a H H' → 0 ≤ r → r < m → Q (.int r) H'
def spRises : Sp := fun vs H Q _ => ∃ (a : Addr) (ns : List Int), vs = [.ref a] ∧ H a = some (.lst (ns.map V.int)) ∧ ns.length ≤ 1000 ∧ ∀ b : Bool, (b = true ↔ Ris ltI ns) → Q (.bl b) H
theorem map_int_atB {ns : List Int} {j : Int} (h0 : 0 ≤ j) (h1 : j < (ns.length : Int)) : ∃ z, atI (ns.map V.int) j = some (.int z) := by
  have hj : j.toNat < ns.length := by omega
  refine ⟨ns[j.toNat], ?_⟩
  unfold atI ixN
  rw [if_pos h0, if_pos (by rw [List.length_map]; exact h1)]
  show (ns.map V.int)[j.toNat]? = _
  rw [List.getElem?_map, List.getElem?_eq_getElem hj]
  rfl
theorem log_lt {i : Int} (h0 : 0 ≤ i) (h1 : i < 618970019642690137449562111) : i.natAbs.log2 < 1000 := by
  rcases Nat.eq_zero_or_pos i.natAbs with z | z
  · rw [z]; decide
  · exact (Nat.log2_lt (by omega)).mpr (Nat.lt_of_lt_of_le (show i.natAbs < 2 ^ 90 by omega) (Nat.pow_le_pow_right (by decide) (by decide)))
theorem ris_iff {ns : List Int} : Ris ltI ns ↔ ∀ k (h : k + 1 < ns.length), ns[k] < ns[k + 1] := by
  constructor
  · intro h k hk
    exact of_decide_eq_true (List.pairwise_iff_getElem.mp h k (k + 1) (by omega) hk (by omega))
  · intro h
    refine List.pairwise_iff_getElem.mpr fun i j hi hj hij => decide_eq_true ?_
    induction j with
    | zero => omega
    | succ j ih =>
      have h2 := h j hj
      by_cases e : i = j
      · subst e
        exact h2
      · have := ih (by omega) (by omega)
        omega
section
variable {P : Program} {w : World} {K : PySem.W.Frag} {mg : Str → Option Value} {base : Heap} {C : Ad}
theorem sc__law_cell : FnScope ["script", "k"] ["script", "k"] (defScope s__law_cell) := ⟨rfl, rfl, rfl, by decide +kernel, rfl, by decide +kernel, by decide +kernel⟩
theorem ok_cell (T : Txt K w mg C) : Cal P w K mg base 1 "_law_cell" (spCellB K) := by
  refine cal_of T.d__law_cell sc__law_cell (fun vs H Q E h => ?_) (fun f cdv A outer s H vs Q E hr h => ?_)
  · obtain ⟨a, ns, j, rfl, _⟩ := h
    rfl
  · obtain ⟨a, ns, j, rfl, hS, h0, k⟩ := h
    refine ⟨_, (pss_cons (ps_if (pt_cmpR op_lt (pv 1) (pe_callB call_len_seq (by rfl) T.z_len PySem.boot_len (pa_cons (pv 0) pa_nil)) (nomark _)) (pss_one (ps_ret (pe_ix ix_list (pv 0) (pv 1) (fun _ _ => rfl)))) pss_nil) (pss_one (ps_ret pe_int))), ?_⟩
    refine ⟨_, rfl, _, rfl, a, _, rfl, .inl hS, _, _, rfl, rfl, _, rfl, ?_⟩
    refine ite2 (fun q => ?_) (fun q => ?_)
    · have q' := of_decide_eq_true q
      rw [List.length_map] at q'
      obtain ⟨z, hz⟩ := map_int_atB h0 q'
      exact ⟨_, rfl, _, rfl, a, _, j, _, rfl, rfl, hS, hz, k z⟩
    · exact k 0
theorem sc__law_start : FnScope ["cell", "k", "prime", "mixed"] ["cell", "k"] (defScope s__law_start) := ⟨rfl, rfl, rfl, by decide +kernel, rfl, by decide +kernel, by decide +kernel⟩
theorem ok_start (T : Txt K w mg C) : Cal P w K mg base 1 "_law_start" spStartB := by
  refine cal_of T.d__law_start sc__law_start (fun vs H Q E h => ?_) (fun f cdv A outer s H vs Q E hr h => ?_)
  · obtain ⟨c, k, rfl, _⟩ := h
    rfl
  · obtain ⟨c, j, rfl, k⟩ := h
    refine ⟨_, (pss_cons (ps_set (i := 2) sc__law_start.nd rfl (Or.inl rfl) pe_int) (pss_cons (ps_if (pt_chain op_lt op_lt (pe_un un_neg pe_int) (pv 0) pe_int) (pss_cons (ps_set (i := 3) sc__law_start.nd rfl (Or.inl rfl) (pe_op op_mod (pe_callTy call_int1 (by rfl) T.z_int (by decide +kernel) (pa_cons (pe_op op_add (pe_op op_mul (pv 0) pe_int) (pe_op op_mul (pe_op op_add (pv 1) pe_int) pe_int)) pa_nil)) (pv 2))) (pss_one (ps_ret (pe_lst (pa_cons (pe_op op_mod (pe_callTy call_int1 (by rfl) T.z_int (by decide +kernel) (pa_cons (pe_op op_add (pe_op op_add (pe_op op_mulW (pv 3) (pv 3)) (pe_op op_mul pe_int (pv 3))) (pv 1)) pa_nil)) (pv 2)) pa_nil))))) pss_nil) (pss_one (ps_ret (pe_lst (pa_cons (pe_callB call_abs (by rfl) T.z_abs (by decide +kernel) (pa_cons (pv 0) pa_nil)) pa_nil)))))), ?_⟩
    have last : ∀ (x : Int) (o : Prop → Prop), (1 ≤ sizeLine ∧ ∀ p, H p = none → Q (.ref p) (upd H p (.lst [.int x]))) := fun x _ => ⟨by decide, fun p hp => k p _ hp (Sm.new hp) ⟨_, upd_same⟩⟩
    refine ⟨1000000000000000000, rfl, _, rfl, _, _, rfl, rfl, _, rfl, ?_⟩
    refine ite2 (fun q => ?_) (fun q => ?_)
    · refine ⟨_, _, rfl, rfl, _, rfl, ?_⟩
      refine ite2 (fun q2 => ?_) (fun q2 => ?_)
      · refine ⟨_, rfl, _, _, rfl, rfl, .inr ⟨by decide, by decide⟩, _, rfl, _, _, rfl, rfl, _, _, rfl, rfl, .inr ⟨by decide, by decide⟩, _, _, rfl, rfl, .inl ⟨_, rfl, _, rfl, _, _, rfl, rfl, (by show (0 : Int) < 618970019642690137449562111; decide), ?_⟩⟩
        generalize hm : (c * 2654435761 + (j + 1) * 6700417) % 618970019642690137449562111 = mx
        have m0 : 0 ≤ mx := by rw [← hm]; exact Int.emod_nonneg _ (by decide)
        have m1 : mx < 618970019642690137449562111 := by rw [← hm]; exact Int.emod_lt_of_pos _ (by decide)
        have lg := log_lt m0 m1
        refine ⟨_, rfl, _, rfl, _, _, rfl, rfl, (by unfold CMulW; rw [hm]; omega), _, rfl, _, _, rfl, rfl, .inl ⟨by decide, by decide⟩, _, _, rfl, rfl, _, rfl, _, _, rfl, rfl, .inl ⟨_, rfl, _, rfl, _, _, rfl, rfl, (by show (0 : Int) < 618970019642690137449562111; decide), last _ id⟩⟩
      · exact ⟨_, rfl, _, rfl, last _ id⟩
    · refine ⟨false, rfl, ?_⟩
      refine ite2 (fun z => absurd z (by decide)) (fun _ => ?_)
      exact ⟨_, rfl, _, rfl, last _ id⟩
theorem sc__law_digit : FnScope ["state", "many", "digit"] ["state", "many"] (defScope s__law_digit) := ⟨rfl, rfl, rfl, by decide +kernel, rfl, by decide +kernel, by decide +kernel⟩
theorem ok_digit (T : Txt K w mg C) : Cal P w K mg base 1 "_law_digit" spDigitB := by
  refine cal_of T.d__law_digit sc__law_digit (fun vs H Q E h => ?_) (fun f cdv A outer s H vs Q E hr h => ?_)
  · obtain ⟨a, m, rfl, _⟩ := h
    rfl
  · obtain ⟨a, m, rfl, ⟨z, hS⟩, hm, hm2, k⟩ := h
    refine ⟨_, (pss_cons (ps_set (i := 2) sc__law_digit.nd rfl (Or.inl rfl) (pe_op op_mod (pe_callTy call_int1 (by rfl) T.z_int (by decide +kernel) (pa_cons (pe_ix ix_list (pv 0) pe_int (fun _ _ => rfl)) pa_nil)) (pv 1))) (pss_cons (ps_asg (pe_op op_fdiv (pe_ix ix_list (pv 0) pe_int (fun _ _ => rfl)) (pv 1)) (pg_sub (pv 0) pe_int set_list)) (pss_one (ps_ret (pv 2))))), ?_⟩
    refine ⟨_, rfl, a, _, 0, _, rfl, rfl, SqL.of hS, rfl, .inl ⟨_, rfl, _, rfl, _, _, rfl, rfl, hm, ?_⟩⟩
    refine ⟨_, rfl, a, _, 0, _, rfl, rfl, SqL.of hS, rfl, _, rfl, _, _, rfl, rfl, ⟨hm, by show m < 1073741824; omega⟩, ?_⟩
    refine ⟨_, rfl, a, _, 0, 0, rfl, rfl, hS, rfl, ?_⟩
    refine ⟨_, rfl, ?_⟩
    exact k _ _ ⟨_, upd_same⟩ (fun b o e n => by rw [upd_ne n]; exact e) (Int.emod_nonneg _ (by omega)) (Int.emod_lt_of_pos _ hm)
theorem sc__law_rises : FnScope ["row", "k"] ["row"] (defScope s__law_rises) := ⟨rfl, rfl, rfl, by decide +kernel, rfl, by decide +kernel, by decide +kernel⟩
theorem ok_rises (T : Txt K w mg C) : Cal P w K mg base 1 "_law_rises" spRises := by
  refine cal_of T.d__law_rises sc__law_rises (fun vs H Q E h => ?_) (fun f cdv A outer s H vs Q E hr h => ?_)
  · obtain ⟨a, ns, rfl, _⟩ := h
    rfl
  · obtain ⟨a, ns, rfl, ha, hl, k⟩ := h
    refine ⟨_, (pss_cons (ps_for PassesOwn.never rfl (pi_range1 (by rfl) T.z_range (pa_cons (pe_op op_sub (pe_callB call_len_seq (by rfl) T.z_len PySem.boot_len (pa_cons (pv 0) pa_nil)) pe_int) pa_nil)) (pg_name (i := 1) sc__law_rises.nd rfl (Or.inl rfl)) (pss_one (ps_if (pt_cmpR op_ge (pe_ix ix_list (pv 0) (pv 1) (fun _ _ => rfl)) (pe_ix ix_list (pv 0) (pe_op op_add (pv 1) pe_int) (fun _ _ => rfl)) (nomark _)) (pss_one (ps_ret pe_bl)) pss_nil))) (pss_one (ps_ret pe_bl))), ?_⟩
    have hL : ((ns.map V.int).length : Int) = (ns.length : Int) := by rw [List.length_map]
    refine ⟨_, rfl, a, _, rfl, .inl (SqL.of ha), _, _, rfl, rfl, ?_⟩
    rw [hL]
    refine ⟨_, rfl, by omega, by omega, ?_⟩
    refine for_range (lo := 0) (n := ((ns.length : Int) - 1).toNat) (fun i σ H' => H' = H ∧ (∀ k (h : k + 1 < ns.length), k < i → ns[k] < ns[k + 1]) ∧ ∃ y, σ = [some (.ref a), y]) ⟨rfl, fun k h h2 => absurd h2 (Nat.not_lt_zero _), none, rfl⟩ ?_ ?_
    · rintro i σ H1 hi ⟨eH, hk, y, rfl⟩
      subst H1
      have hi' : i + 1 < ns.length := by omega
      have g1 := at_i (List.getElem?_eq_getElem (show i < ns.length by omega))
      have g2 := at_i (List.getElem?_eq_getElem hi')
      have e1 : (0 : Int) + (i : Int) = (i : Int) := Int.zero_add _
      have e2 : (0 : Int) + (i : Int) + 1 = ((i + 1 : Nat) : Int) := by push_cast; omega
      refine ⟨_, rfl, _, rfl, a, _, _, .int ns[i], rfl, rfl, SqL.of ha, (by rw [e1]; exact g1), _, rfl, _, rfl, _, _, rfl, rfl, a, _, _, .int ns[i + 1], rfl, rfl, SqL.of ha, (by rw [e2]; exact g2), _, _, rfl, rfl, _, rfl, ?_⟩
      refine ite2 (fun q => ?_) (fun q => ?_)
      · have q' : ns[i] ≥ ns[i + 1] := of_decide_eq_true q
        refine k false ⟨fun z => by (cases z), fun z => ?_⟩
        have := ris_iff.mp z i hi'
        omega
      · have q' : ¬ ns[i] ≥ ns[i + 1] := fun z => q (decide_eq_true z)
        refine ⟨rfl, fun k h h2 => ?_, _, rfl⟩
        by_cases e : k = i
        · subst e
          omega
        · exact hk k h (by omega)
    · rintro σ H1 ⟨eH, hk, y, rfl⟩
      subst H1
      exact k true ⟨fun _ => ris_iff.mpr fun k h => hk k h (by omega), fun _ => rfl⟩
end
end VL

set_option Elab.async false
set_option linter.all false
set_option maxRecDepth 100000
set_option maxHeartbeats 4000000
namespace VL
open PySem PySem.Spec PyProof.Rows L2
theorem take_filterB {α β : Type} {L : List α} {p : α → Bool} {f : α → β} {i : Nat} (hi : i < L.length) : ((L.take (i + 1)).filter p).map f = ((L.take i).filter p).map f ++ if p L[i] = true then [f L[i]] else [] := by
  rw [List.take_add_one, List.getElem?_eq_getElem hi, List.filter_append, List.map_append]
  congr 1
  show (List.filter p [L[i]]).map f = _
  rw [List.filter_cons]
  split <;> rfl
theorem mx_is {x : Int} {L : Ln} {m : Int} (h1 : m ∈ (0 : Int) :: (L.filter fun e => gtI x e.1).map fun e => (e.2 : Int)) (h2 : ∀ y ∈ (0 : Int) :: (L.filter fun e => gtI x e.1).map (fun e => (e.2 : Int)), y ≤ m) : m = (mxg gtI x L : Int) := by
  have h0 := h2 0 List.mem_cons_self
  rcases mxg_ex (lt := gtI) (x := x) (L := L) with z | ⟨f, hf, z1, z2⟩
  · rw [z]
    rcases List.mem_cons.mp h1 with h | h
    · exact h
    · obtain ⟨e, he, rfl⟩ := List.mem_map.mp h
      have := mxg_le (lt := gtI) (x := x) (List.mem_filter.mp he).1 (List.mem_filter.mp he).2
      omega
  · have h3 := h2 (f.2 : Int) (List.mem_cons_of_mem _ (List.mem_map.mpr ⟨f, List.mem_filter.mpr ⟨hf, z1⟩, rfl⟩))
    rcases List.mem_cons.mp h1 with h | h
    · omega
    · obtain ⟨e, he, rfl⟩ := List.mem_map.mp h
      have := mxg_le (lt := gtI) (x := x) (List.mem_filter.mp he).1 (List.mem_filter.mp he).2
      omega
theorem mxg_app {x : Int} : ∀ {A B : Ln}, mxg gtI x (A ++ B) = max (mxg gtI x A) (mxg gtI x B)
  | [], B => by show mxg gtI x B = max 0 _; omega
  | a :: A, B => by
    show (if gtI x a.1 = true then max a.2 (mxg gtI x (A ++ B)) else mxg gtI x (A ++ B)) = max (if gtI x a.1 = true then max a.2 (mxg gtI x A) else mxg gtI x A) _
    rw [mxg_app]
    split <;> omega
theorem mxg_rev {x : Int} : ∀ {A : Ln}, mxg gtI x A.reverse = mxg gtI x A
  | [] => rfl
  | a :: A => by
    rw [List.reverse_cons, mxg_app, mxg_rev]
    show max _ (if gtI x a.1 = true then max a.2 0 else 0) = if gtI x a.1 = true then max a.2 (mxg gtI x A) else mxg gtI x A
    split <;> omega
def endL (ns : List Int) : Ln := (lisg gtI ns.reverse).reverse
theorem endL_len (ns : List Int) : (endL ns).length = ns.length := by unfold endL; rw [List.length_reverse, lisg_len, List.length_reverse]
theorem endL_fst (ns : List Int) : (endL ns).map (·.1) = ns := by unfold endL; rw [List.map_reverse, lisg_fst, List.reverse_reverse]
theorem endL_snoc (ns : List Int) (x : Int) : endL (ns ++ [x]) = endL ns ++ [(x, mxg gtI x (endL ns).reverse + 1)] := by
  unfold endL
  rw [List.reverse_append]
  show (lisg gtI (x :: ns.reverse)).reverse = _
  show ((x, mxg gtI x (lisg gtI ns.reverse) + 1) :: lisg gtI ns.reverse).reverse = _
  rw [List.reverse_cons, List.reverse_reverse]
def spLensE : Sp := fun vs H Q _ => ∃ (n : Addr) (ns : List Int), vs = [.ref n] ∧ H n = some (.lst (ns.map V.int)) ∧ ns.length ≤ 500 ∧ ∀ l H', Same H H' → H l = none → H' l = some (.lst (lensV (endL ns))) → Q (.ref l) H'
section
variable {P : Program} {w : World} {K : PySem.W.Frag} {mg : Str → Option Value} {base : Heap} {C : Ad}
theorem sc__law_lengths : FnScope ["numbers", "lengths", "k", "before", "j"] ["numbers"] (defScope s__law_lengths) := ⟨rfl, rfl, rfl, by decide +kernel, rfl, by decide +kernel, by decide +kernel⟩
theorem ok_lensE (T : Txt K w mg C) : Cal P w K mg base 1 "_law_lengths" spLensE := by
  refine cal_of T.d__law_lengths sc__law_lengths (fun vs H Q E h => ?_) (fun f cdv A outer s H vs Q E hr h => ?_)
  · obtain ⟨n, ns, rfl, _⟩ := h
    rfl
  · obtain ⟨n, ns, rfl, hn, hl, k⟩ := h
    refine ⟨_, (pss_cons (ps_set (i := 1) sc__law_lengths.nd rfl (Or.inr rfl) (pe_lst pa_nil)) (pss_cons (ps_for PassesOwn.never rfl (pi_range1 (by rfl) T.z_range (pa_cons (pe_callB call_len_seq (by rfl) T.z_len PySem.boot_len (pa_cons (pv 0) pa_nil)) pa_nil)) (pg_name (i := 2) sc__law_lengths.nd rfl (Or.inr rfl)) (pss_cons (ps_setLc (i := 3) (own := [("j", 4)]) (g := gName 4) (tt := _) rfl sc__law_lengths.nd rfl rfl (sw_true rfl rfl rfl (by decide +kernel)) (pi_range1 (by rfl) T.z_range (pa_cons (pv 2) pa_nil)) (blkOk_by (N := ["numbers", "lengths", "k", "before", "j"]) (sc := (defScope s__law_lengths)) (by decide +kernel)) (fun _ _ _ _ _ => pg_name (i := 4) sc__law_lengths.nd rfl (Or.inl rfl)) (fun _ _ _ _ _ => pts_one (pt_cmpR op_lt (pe_ix (ix_listS (K := K) rfl) (pv 0) (pv 4) (fun _ _ => rfl)) (pe_ix (ix_listS (K := K) rfl) (pv 0) (pv 2) (fun _ _ => rfl)) (nomark _))) (fun _ _ _ _ _ => (pe_ix (ix_listS (K := K) rfl) (pv 1) (pv 4) (fun _ _ => rfl)))) (pss_one (ps_expr (pe_bm PySem.F.plainAttrs_list PySem.F.slot_list_append PySem.F.type_list_append mt_append (pv 1) (pa_cons (pe_op op_add pe_int (pe_callB (cr_max rfl) (by rfl) T.z_max (by decide +kernel) (pa_cons (pe_op op_cat (pe_lst (pa_cons pe_int pa_nil)) (pv 3)) pa_nil))) pa_nil)))))) (pss_one (ps_ret (pv 1))))), ?_⟩
    refine ⟨by show 0 ≤ sizeLine; decide, fun l hl1 => ?_⟩
    have s1 : Same H (upd H l (.lst [])) := Sm.new hl1
    have hL : ((ns.map V.int).length : Int) = (ns.length : Int) := by rw [List.length_map]
    refine ⟨_, rfl, n, _, rfl, .inl (SqL.of (s1 _ _ hn)), ?_⟩
    rw [hL]
    refine ⟨_, rfl, by omega, by omega, ?_⟩
    refine for_range (lo := 0) (n := (ns.length : Int).toNat) (fun i σ H' => Same H H' ∧ H' l = some (.lst (lensV (endL (ns.take i)))) ∧ ∃ y1 y2 y3, σ = [some (.ref n), some (.ref l), y1, y2, y3]) ⟨s1, upd_same, none, none, none, rfl⟩ ?_ ?_
    · rintro i σ H1 hi ⟨s2, h2, y1, y2, y3, rfl⟩
      have hi' : i < ns.length := by rw [Int.toNat_natCast] at hi; exact hi
      have e1 : (0 : Int) + (i : Int) = (i : Int) := Int.zero_add _
      have gx := at_i (List.getElem?_eq_getElem hi')
      have et : ns.take (i + 1) = ns.take i ++ [ns[i]] := by
        rw [List.take_add_one, List.getElem?_eq_getElem hi']
        rfl
      have hE : (endL (ns.take i)).length = i := by rw [endL_len, List.length_take]; omega
      have ef : ∀ (j : Nat) (e : Int × Nat), (endL (ns.take i))[j]? = some e → ns[j]? = some e.1 := fun j e h => by
        have hj : j < i := by
          rcases Nat.lt_or_ge j i with q | q
          · exact q
          · rw [List.getElem?_eq_none (by omega)] at h; cases h
        have : ((endL (ns.take i)).map (·.1))[j]? = (ns.take i)[j]? := by rw [endL_fst]
        rw [List.getElem?_map, h, List.getElem?_take, if_pos hj] at this
        exact this.symm
      generalize hx : ns[i] = x at gx et
      generalize hEL : endL (ns.take i) = EL at h2 hE ef
      refine ⟨_, rfl, _, rfl, by omega, by omega, fun D hD => ?_⟩
      have Dl : l ≠ D := ne_of_none h2 hD
      rw [e1]
      refine lc_it (walk_range (lo := 0) (n := ((i : Int)).toNat)) (fun j H' => Same H1 H' ∧ H' D = some (.lst (((EL.take j).filter fun e => gtI x e.1).map fun e => V.int (e.2 : Int)))) ⟨Sm.new hD, upd_same⟩ (fun _ _ _ _ => trivial) ?_ ?_
      · rintro j y H2 H3 hj ⟨s3, hd⟩ ⟨rfl, rfl⟩
        have hj' : j < EL.length := by omega
        have ge := List.getElem?_eq_getElem hj'
        have gn := ef j _ ge
        have e2 : (0 : Int) + (j : Int) = (j : Int) := Int.zero_add _
        have et2 := take_filterB (L := EL) (p := fun e => gtI x e.1) (f := fun e => V.int (e.2 : Int)) hj'
        have gl : atI (lensV EL) (0 + (j : Int)) = some (.int (EL[j].2 : Int)) := by
          rw [e2]
          have : lensV EL = (EL.map fun e => (e.2 : Int)).map V.int := by unfold lensV; rw [List.map_map]; rfl
          rw [this]
          refine at_i ?_
          rw [List.getElem?_map, ge]
          rfl
        refine ⟨rfl, ?_⟩
        refine ⟨_, rfl, _, rfl, n, _, _, .int EL[j].1, rfl, rfl, SqL.of (s3 _ _ (s2 _ _ hn)), (by rw [e2]; exact at_i gn), _, rfl, _, rfl, n, _, _, .int x, rfl, rfl, SqL.of (s3 _ _ (s2 _ _ hn)), (by first | exact gx | (rw [e1]; exact gx)), _, _, rfl, rfl, _, rfl, ?_⟩
        refine ite2 (fun q => ?_) (fun q => ?_)
        · have q' : gtI x EL[j].1 = true := q
          rw [if_pos q'] at et2
          refine ⟨_, rfl, _, rfl, l, _, _, _, rfl, rfl, SqL.of (s3 _ _ h2), gl, _, hd, ?_, fun b o z => ?_, ?_⟩
          · rw [List.length_map]
            have a1 := List.length_filter_le (fun e : Int × Nat => gtI x e.1) (EL.take j)
            have a2 := List.length_take_le j EL
            exact small1000 (by omega)
          · rw [upd_ne (ne_of_none z hD)]
            exact s3 _ _ z
          · rw [upd_same, et2]
        · have q' : ¬ gtI x EL[j].1 = true := q
          rw [if_neg q', List.append_nil] at et2
          exact ⟨s3, by rw [hd, et2]⟩
      · rintro H2 ⟨s3, hd⟩
        rw [Int.toNat_natCast, ← hE, List.take_length] at hd
        have hd2 : H2 D = some (.lst (((EL.filter fun e => gtI x e.1).map fun e => (e.2 : Int)).map V.int)) := by
          rw [hd, List.map_map]
          rfl
        refine ⟨_, rfl, .inl ⟨rfl, _, SqL.of (s3 _ _ h2)⟩, by show 1 ≤ sizeLine; decide, fun u hu => ?_⟩
        have Du : D ≠ u := ne_of_none hd2 hu
        have lu : l ≠ u := ne_of_none (s3 _ _ h2) hu
        refine ⟨_, rfl, u, D, _, _, rfl, rfl, upd_same, (by rw [upd_ne Du]; exact hd2), ?_, fun p hp => ?_⟩
        · rw [List.length_map, List.length_map]
          have a1 := List.length_filter_le (fun e : Int × Nat => gtI x e.1) EL
          show 1 + _ ≤ sizeLine
          have : 1000 < sizeLine := by decide
          omega
        · refine ⟨p, (0 : Int) :: (EL.filter fun e => gtI x e.1).map fun e => (e.2 : Int), rfl, SqL.of upd_same, Nat.succ_pos _, fun m hm hall => ?_⟩
          have em := mx_is hm hall
          refine ⟨_, _, rfl, rfl, ?_⟩
          have lp : l ≠ p := fun z => by rw [← z, upd_ne lu, s3 _ _ h2] at hp; cases hp
          refine ⟨l, _, _, rfl, rfl, (by rw [upd_ne lp, upd_ne lu]; exact s3 _ _ h2), ?_, ?_⟩
          · unfold lensV
            rw [List.length_map]
            exact small1000 (by omega)
          · have pn : H2 p = none := by
              cases z : H2 p with
              | none => rfl
              | some o => rw [upd_ne (ne_of_none z hu), z] at hp; cases hp
            refine ⟨fun b o z => ?_, ?_, _, _, _, rfl⟩
            · have z2 := s3 _ _ (s2 _ _ z)
              rw [upd_ne (ne_of_none z hl1), upd_ne (ne_of_none z2 pn), upd_ne (ne_of_none z2 hu)]
              exact z2
            · rw [upd_same, et, endL_snoc, hEL, em]
              unfold lensV
              rw [List.map_append]
              have er : mxg gtI x EL.reverse = mxg gtI x EL := mxg_rev
              rw [er]
              show some (HO.lst (_ ++ [V.int (1 + (mxg gtI x EL : Int))])) = some (HO.lst (_ ++ [V.int ((mxg gtI x EL + 1 : Nat) : Int)]))
              have : (1 + (mxg gtI x EL : Int)) = ((mxg gtI x EL + 1 : Nat) : Int) := by push_cast; omega
              rw [this]
    · rintro σ H1 ⟨s2, h2, y1, y2, y3, rfl⟩
      rw [Int.toNat_natCast, List.take_length] at h2
      refine ⟨_, rfl, ?_⟩
      exact k l H1 s2 hl1 h2
end
end VL

set_option Elab.async false
set_option linter.all false
set_option maxRecDepth 100000
set_option maxHeartbeats 4000000
namespace VL
open PySem PySem.Spec PyProof.Rows L2
theorem inV_j (x : Int) : ∀ P : List Int, inV (.int x) (P.map V.int) = decide (x ∈ P)
  | [] => rfl
  | a :: P => by
    show (eqV (.int a) (.int x) || inV (.int x) (P.map V.int)) = _
    rw [inV_j x P]
    show ((a == x) || decide (x ∈ P)) = decide (x ∈ a :: P)
    by_cases e : a = x
    · subst e
      simp
    · have e2 : x ≠ a := fun q => e q.symm
      have e3 : (a == x) = false := beq_eq_false_iff_ne.mpr e
      simp [e2, e3]
theorem flat_j : ∀ P : List Int, (P.map V.int).all flatV = true
  | [] => rfl
  | a :: P => by
    show (true && (P.map V.int).all flatV) = true
    rw [flat_j P]
    rfl
abbrev gRow (ns : List Int) : List Int := grd none (bestL (lisg ltI ns)) (lisg ltI ns)
abbrev gPos (ns : List Int) : List Nat := grdP 0 none (bestL (lisg ltI ns)) (lisg ltI ns)
theorem gPos_at (ns : List Int) : (gPos ns).map (fun p => ns[p]?) = (gRow ns).map some := by
  have h := grdP_at (lisg ltI ns) [] 0 none (bestL (lisg ltI ns)) rfl
  rw [List.nil_append] at h
  rw [← h]
  refine List.map_congr_left fun p _ => ?_
  rw [← List.getElem?_map, lisg_fst]
theorem gPos_len (ns : List Int) : (gPos ns).length = (gRow ns).length := by
  have := congrArg List.length (gPos_at ns)
  rw [List.length_map, List.length_map] at this
  exact this
theorem gPos_get {ns : List Int} {i p : Nat} {x : Int} (h1 : (gPos ns)[i]? = some p) (h2 : (gRow ns)[i]? = some x) : ns[p]? = some x := by
  have h : ((gPos ns).map (fun p => ns[p]?))[i]? = ((gRow ns).map some)[i]? := by rw [gPos_at]
  rw [List.getElem?_map, List.getElem?_map, h1, h2] at h
  exact Option.some.inj h
theorem gRow_sub (ns : List Int) : (gRow ns).Sublist ns := by
  have := grd_sub (lisg ltI ns) none (bestL (lisg ltI ns))
  rwa [lisg_fst] at this
theorem mb_is {L : Ln} {m : Int} (h1 : m ∈ (0 : Int) :: L.map fun e => (e.2 : Int)) (h2 : ∀ y ∈ (0 : Int) :: L.map (fun e => (e.2 : Int)), y ≤ m) : m = (bestL L : Int) := by
  have h0 := h2 0 List.mem_cons_self
  rcases bestL_ex (L := L) with z | ⟨f, hf, z⟩
  · rw [z]
    rcases List.mem_cons.mp h1 with h | h
    · exact h
    · obtain ⟨e, he, rfl⟩ := List.mem_map.mp h
      have := bestL_le he
      omega
  · have h3 := h2 (f.2 : Int) (List.mem_cons_of_mem _ (List.mem_map.mpr ⟨f, hf, rfl⟩))
    rcases List.mem_cons.mp h1 with h | h
    · omega
    · obtain ⟨e, he, rfl⟩ := List.mem_map.mp h
      have := bestL_le he
      omega
theorem bestL_app : ∀ {A B : Ln}, bestL (A ++ B) = max (bestL A) (bestL B)
  | [], B => by show bestL B = max 0 _; omega
  | a :: A, B => by
    show max a.2 (bestL (A ++ B)) = max (max a.2 (bestL A)) _
    rw [bestL_app]
    omega
theorem bestL_rev : ∀ {A : Ln}, bestL A.reverse = bestL A
  | [] => rfl
  | a :: A => by
    rw [List.reverse_cons, bestL_app, bestL_rev]
    show max _ (max a.2 0) = max a.2 (bestL A)
    omega
theorem bestE (ns : List Int) : bestL (endL ns) = bestL (lisg ltI ns) := by
  unfold endL
  rw [bestL_rev, best_rev]
theorem gRow_len (ns : List Int) : (gRow ns).length = bestL (lisg ltI ns) := grd_best ns
theorem lensV_eq (L : Ln) : lensV L = (L.map fun e => (e.2 : Int)).map V.int := by
  unfold lensV
  rw [List.map_map]
  rfl
theorem cut_take {xs : List V} {k : Nat} (h : k ≤ xs.length) : cutV xs none (some (k : Int)) = xs.take k := by
  unfold cutV
  have h1 : HT.sIx xs.length 0 none = 0 := rfl
  have h2 : HT.sIx xs.length xs.length (some (k : Int)) = k := by
    rw [HT.sIx_nat]
    exact Nat.min_eq_left h
  rw [h1, h2]
  rfl
theorem cut_drop {xs : List V} {k : Nat} (h : k ≤ xs.length) : cutV xs (some (k : Int)) none = xs.drop k := by
  unfold cutV
  have h1 : HT.sIx xs.length 0 (some (k : Int)) = k := by
    rw [HT.sIx_nat]
    exact Nat.min_eq_left h
  have h2 : HT.sIx xs.length xs.length none = xs.length := rfl
  rw [h1, h2]
  exact List.take_of_length_le (by rw [List.length_drop]; exact Nat.le_refl _)
/-- the gap, said of the numbers -/
theorem gap {ns : List Int} (nd : ns.Nodup) {k p j : Nat} {y : Int} (hp : (gPos ns)[k]? = some p) (hj : j < p) (hlo : k = 0 ∨ ∃ q, (gPos ns)[k - 1]? = some q ∧ q < j) (hy : ns[j]? = some y) (hok : k = 0 ∨ ∃ z, (gRow ns)[k - 1]? = some z ∧ z < y) :
    ¬ (k + bestL (endL (y :: (ns.drop (j + 1)).filter fun z => decide (y ≤ z))) = (gRow ns).length) := by
  have hjl : j < ns.length := (List.getElem?_eq_some_iff.mp hy).1
  have ed : ns.drop j = y :: ns.drop (j + 1) := by
    rw [List.drop_eq_getElem_cons hjl]
    congr 1
    rw [List.getElem?_eq_getElem hjl] at hy
    exact Option.some.inj hy
  have yn : y ∉ ns.drop (j + 1) := by
    have : (ns.drop j).Nodup := nd.sublist (List.drop_sublist _ _)
    rw [ed] at this
    exact (List.nodup_cons.mp this).1
  have hd : ∀ (X : List Int) (j : Nat), (lisg ltI X).drop j = lisg ltI (X.drop j) := fun X => by
    induction X with
    | nil => intro j; cases j <;> rfl
    | cons x X ih =>
      intro j
      cases j with
      | zero => rfl
      | succ j => exact ih j
  have he : (lisg ltI ns)[j]? = some (y, mxg ltI y (lisg ltI (ns.drop (j + 1))) + 1) := by
    have h1 : ((lisg ltI ns).drop j)[0]? = (lisg ltI ns)[j]? := by rw [List.getElem?_drop]; rfl
    rw [← h1, hd, ed]
    rfl
  rw [bestE, best_rest yn, gRow_len]
  intro z
  have g := grdP_gap (lisg ltI ns) [] 0 none (bestL (lisg ltI ns)) rfl k p j _ hp hj (by
    split
    · exact Nat.zero_le _
    · rename_i e
      intro q hq
      rcases hlo with h | ⟨q', h1, h2⟩
      · exact absurd h e
      · rw [hq] at h1
        rw [Option.some.inj h1]
        exact h2) (by rw [List.nil_append]; exact he)
  refine g ⟨by dsimp only; omega, ?_⟩
  split
  · rfl
  · rename_i e
    rcases hok with h | ⟨z', h1, h2⟩
    · exact absurd h e
    · have h1' : (grd none (bestL (lisg ltI ns)) (lisg ltI ns))[k - 1]? = some z' := h1
      rw [h1']
      exact decide_eq_true h2
def spRight : Sp := fun vs H Q _ => ∃ (n r : Addr) (ns : List Int), vs = [.ref n, .ref r] ∧ H n = some (.lst (ns.map V.int)) ∧ H r = some (.lst ((gRow ns).map V.int)) ∧ ns.Nodup ∧ ns.length ≤ 100 ∧ ∀ H', Same H H' → Q (.bl true) H'
section
variable {P : Program} {w : World} {K : PySem.W.Frag} {mg : Str → Option Value} {base : Heap} {C : Ad}
theorem sc__law_right : FnScope ["numbers", "row", "places", "number", "k", "head", "stop", "start", "j", "rest"] ["numbers", "row"] (defScope s__law_right) := ⟨rfl, rfl, rfl, by decide +kernel, rfl, by decide +kernel, by decide +kernel⟩
theorem ok_right (T : Txt K w mg C) : Cal P w K mg base 2 "_law_right" spRight := by
  have G_law_rises : Cal P w K mg base 1 "_law_rises" spRises := ok_rises T
  have G_law_lengths : Cal P w K mg base 1 "_law_lengths" spLensE := ok_lensE T
  refine cal_of T.d__law_right sc__law_right (fun vs H Q E h => ?_) (fun f cdv A outer s H vs Q E hr h => ?_)
  · obtain ⟨n, r, ns, rfl, _⟩ := h
    rfl
  · obtain ⟨n, r, ns, rfl, hn, hr1, nd, hl, k⟩ := h
    refine ⟨_, (pss_cons (ps_set (i := 2) sc__law_right.nd rfl (Or.inl rfl) (pe_lst pa_nil)) (pss_cons (ps_for PassesOwn.never rfl (pi_list (pv 1)) (pg_name (i := 3) sc__law_right.nd rfl (Or.inl rfl)) (pss_cons (ps_if (pt_cmpR op_notIn_seq (pv 3) (pv 0) rfl) (pss_one (ps_ret pe_bl)) pss_nil) (pss_one (ps_expr (pe_bm PySem.F.plainAttrs_list PySem.F.slot_list_append PySem.F.type_list_append mt_append (pv 2) (pa_cons (pe_bm PySem.F.plainAttrs_list PySem.F.slot_list_index PySem.F.type_list_index mt_index (pv 0) (pa_cons (pv 3) pa_nil)) pa_nil)))))) (pss_cons (ps_if (PW.pt (pw_or (pt_not (pt_val (pe_c G_law_rises hr (by decide) (by rfl) (pa_cons (pv 2) pa_nil)))) (pw_or (pt_not (pt_val (pe_c G_law_rises hr (by decide) (by rfl) (pa_cons (pv 1) pa_nil)))) (pw_or1 (pt_cmpR op_ne (pe_callB call_len_seq (by rfl) T.z_len PySem.boot_len (pa_cons (pv 1) pa_nil)) (pe_callB (cr_max rfl) (by rfl) T.z_max (by decide +kernel) (pa_cons (pe_op op_cat (pe_lst (pa_cons pe_int pa_nil)) (pe_c G_law_lengths hr (by decide) (by rfl) (pa_cons (pv 0) pa_nil))) pa_nil)) (nomark _)))))) (pss_one (ps_ret pe_bl)) pss_nil) (pss_cons (ps_for PassesOwn.never rfl (pi_range1 (by rfl) T.z_range (pa_cons (pe_callB call_len_seq (by rfl) T.z_len PySem.boot_len (pa_cons (pv 1) pa_nil)) pa_nil)) (pg_name (i := 4) sc__law_right.nd rfl (Or.inl rfl)) (pss_cons (ps_set (i := 5) sc__law_right.nd rfl (Or.inl rfl) (pe_slice sl_list (pv 1) po_none (po_some (pv 4)))) (pss_cons (ps_set (i := 6) sc__law_right.nd rfl (Or.inl rfl) (pe_ix ix_list (pv 2) (pv 4) (fun _ _ => rfl))) (pss_cons (ps_set (i := 7) sc__law_right.nd rfl (Or.inl rfl) (pe_ix ix_list (pe_op op_cat (pe_lst (pa_cons (pe_op op_sub pe_int pe_int) pa_nil)) (pv 2)) (pv 4) (fun _ _ => rfl))) (pss_one (ps_for PassesOwn.never rfl (pi_range2 (by rfl) T.z_range (pa_cons (pe_op op_add (pv 7) pe_int) (pa_cons (pv 6) pa_nil))) (pg_name (i := 8) sc__law_right.nd rfl (Or.inr rfl)) (pss_one (ps_if (PW.pt (pw_or (pt_cmpR op_eq (pe_callB call_len_seq (by rfl) T.z_len PySem.boot_len (pa_cons (pv 5) pa_nil)) pe_int (nomark _)) (pw_or1 (pt_cmpR op_gt (pe_ix ix_list (pv 0) (pv 8) (fun _ _ => rfl)) (pe_ix ix_list (pv 5) (pe_op op_sub (pe_callB call_len_seq (by rfl) T.z_len PySem.boot_len (pa_cons (pv 5) pa_nil)) pe_int) (fun _ _ => rfl)) (nomark _))))) (pss_cons (ps_setLc (i := 9) (own := [("number", 3)]) (g := gName 3) (tt := _) rfl sc__law_right.nd rfl rfl (sw_true rfl rfl rfl (by decide +kernel)) (pi_list (pe_slice sl_list (pv 0) (po_some (pv 8)) po_none)) (blkOk_by (N := ["numbers", "row", "places", "number", "k", "head", "stop", "start", "j", "rest"]) (sc := (defScope s__law_right)) (by decide +kernel)) (fun _ _ _ _ _ => pg_name (i := 3) sc__law_right.nd rfl (Or.inl rfl)) (fun _ _ _ _ _ => pts_one (pt_cmpR op_ge (pv 3) (pe_ix (ix_listS (K := K) rfl) (pv 0) (pv 8) (fun _ _ => rfl)) (nomark _))) (fun _ _ _ _ _ => (pv 3))) (pss_one (ps_if (pt_cmpR op_eq (pe_op op_add (pv 4) (pe_callB (cr_max rfl) (by rfl) T.z_max (by decide +kernel) (pa_cons (pe_c G_law_lengths hr (by decide) (by rfl) (pa_cons (pv 9) pa_nil)) pa_nil))) (pe_callB call_len_seq (by rfl) T.z_len PySem.boot_len (pa_cons (pv 1) pa_nil)) (nomark _)) (pss_one (ps_ret pe_bl)) pss_nil))) pss_nil)))))))) (pss_one (ps_ret pe_bl)))))), ?_⟩
    refine ⟨by show 0 ≤ sizeLine; decide, fun pl hpl => ?_⟩
    have gl := (gRow_sub ns).length_le
    have pe : ∀ (i : Nat) (x : Int), (gRow ns)[i]? = some x → ∃ p, (gPos ns)[i]? = some p ∧ ns[p]? = some x := fun i x h => by
      have hi : i < (gPos ns).length := by
        rw [gPos_len]
        rcases Nat.lt_or_ge i (gRow ns).length with q | q
        · exact q
        · rw [List.getElem?_eq_none q] at h; cases h
      exact ⟨_, List.getElem?_eq_getElem hi, gPos_get (List.getElem?_eq_getElem hi) h⟩
    refine ⟨_, rfl, r, rfl, ⟨_, SqL.of (Sm.new hpl _ _ hr1)⟩, ?_⟩
    refine for_it (walk_list (K := K) (a := r) (xs := (gRow ns).map V.int)) (fun i σ H' => Same H H' ∧ H' pl = some (.lst (((gPos ns).take i).map fun (p : Nat) => V.int (p : Int))) ∧ ∃ y1 y2 y3 y4 y5 y6 y7, σ = [some (.ref n), some (.ref r), some (.ref pl), y1, y2, y3, y4, y5, y6, y7])
      ⟨Sm.new hpl, upd_same, none, none, none, none, none, none, none, rfl⟩ (fun i σ H' _ z => SqL.of (z.1 _ _ hr1)) ?_ ?_
    · rintro i x σ H1 H2 hi ⟨s1, h1, y1, y2, y3, y4, y5, y6, y7, rfl⟩ ⟨rfl, hx⟩
      have hi' : i < (gRow ns).length := by rw [List.length_map] at hi; exact hi
      have hiP : i < (gPos ns).length := by rw [gPos_len]; exact hi'
      have ex : x = .int (gRow ns)[i] := by
        rw [List.getElem?_map, List.getElem?_eq_getElem hi'] at hx
        exact (Option.some.inj hx).symm
      subst ex
      have gx := List.getElem?_eq_getElem hi'
      have gp := List.getElem?_eq_getElem hiP
      have hp := gPos_get gp gx
      have hin : (gRow ns)[i] ∈ ns := List.mem_of_getElem? hp
      generalize (gRow ns)[i] = x at gx hp hin
      refine ⟨_, rfl, _, rfl, n, _, rfl, .inl (SqL.of (s1 _ _ hn)), rfl, flat_j _, _, rfl, ?_⟩
      have e0 : (if true = true then !inV (.int x) (ns.map V.int) else inV (.int x) (ns.map V.int)) = false := by
        rw [if_pos rfl, inV_j, decide_eq_true hin]
        rfl
      refine ite2 (fun z => ?_) (fun _ => ?_)
      · have z' : (if true = true then !inV (.int x) (ns.map V.int) else inV (.int x) (ns.map V.int)) = true := z
        rw [e0] at z'
        cases z'
      · refine ⟨_, rfl, .inl ⟨rfl, _, SqL.of h1⟩, _, rfl, .inl ⟨rfl, _, SqL.of (s1 _ _ hn)⟩, _, rfl, n, _, _, (gPos ns)[i], .int x, rfl, rfl, SqL.of (s1 _ _ hn), rfl, flat_j _, ?_, ?_, ?_, ?_⟩
        · rw [List.getElem?_map, hp]
          rfl
        · show (x == x) = true
          simp
        · intro m z' hm hz
          rw [List.getElem?_map] at hz
          cases e : ns[m]? with
          | none => rw [e] at hz; cases hz
          | some u =>
            rw [e] at hz
            have : z' = .int u := (Option.some.inj hz).symm
            subst this
            show (u == x) = false
            refine beq_eq_false_iff_ne.mpr fun q => ?_
            subst q
            obtain ⟨hm2, em⟩ := List.getElem?_eq_some_iff.mp e
            obtain ⟨hp2, ep⟩ := List.getElem?_eq_some_iff.mp hp
            exact List.pairwise_iff_getElem.mp nd m _ hm2 hp2 hm (em.trans ep.symm)
        · refine ⟨pl, _, _, rfl, rfl, h1, ?_, ?_⟩
          · rw [List.length_map]
            have := List.length_take_le i (gPos ns)
            exact small1000 (by omega)
          · refine ⟨fun b o z => by rw [upd_ne (ne_of_none z hpl)]; exact s1 _ _ z, ?_, _, _, _, _, _, _, _, rfl⟩
            rw [upd_same, List.take_add_one, gp, List.map_append]
            rfl
    · rintro σ H1 ⟨s1, h1, y1, y2, y3, y4, y5, y6, y7, rfl⟩
      rw [List.length_map, ← gPos_len, List.take_length] at h1
      have hP : ((gPos ns).map fun (p : Nat) => V.int (p : Int)) = ((gPos ns).map fun (p : Nat) => (p : Int)).map V.int := by
        rw [List.map_map]
        rfl
      rw [hP] at h1
      have pinc : Ris ltI ((gPos ns).map fun (p : Nat) => (p : Int)) := by
        refine List.pairwise_map.mpr ?_
        exact (grdP_inc (lisg ltI ns) 0 none _).imp fun {a b} h => decide_eq_true (by omega)
      refine ⟨_, rfl, pl, (gPos ns).map fun (p : Nat) => (p : Int), rfl, h1, by rw [List.length_map, gPos_len]; omega, fun b hb => ?_⟩
      obtain rfl : b = true := hb.mpr pinc
      refine ⟨true, rfl, ?_⟩
      refine ite2 (fun z => absurd z (by decide)) (fun _ => ?_)
      refine ⟨_, rfl, r, gRow ns, rfl, s1 _ _ hr1, by omega, fun b hb => ?_⟩
      obtain rfl : b = true := hb.mpr (grd_ris (lisg ltI ns) none _).1
      refine ⟨true, rfl, ?_⟩
      refine ite2 (fun z => absurd z (by decide)) (fun _ => ?_)
      refine ⟨_, rfl, r, _, rfl, .inl (SqL.of (s1 _ _ hr1)), by show 1 ≤ sizeLine; decide, fun u hu => ?_⟩
      have s2 : Same H (upd H1 u (.lst [.int 0])) := s1.trans (Sm.new hu)
      refine ⟨_, rfl, n, ns, rfl, s2 _ _ hn, by omega, fun l H2 s3 nl h2 => ?_⟩
      rw [lensV_eq] at h2
      refine ⟨u, l, [.int 0], _, rfl, rfl, s3 _ _ upd_same, h2, ?_, fun p hp => ?_⟩
      · rw [List.length_map, List.length_map, endL_len]
        show 1 + _ ≤ sizeLine
        have : 1000 < sizeLine := by decide
        omega
      · refine ⟨p, (0 : Int) :: (endL ns).map fun e => (e.2 : Int), rfl, SqL.of upd_same, Nat.succ_pos _, fun m hm hall => ?_⟩
        have em := mb_is hm hall
        rw [bestE, ← gRow_len] at em
        refine ⟨rfl, _, rfl, ?_⟩
        refine ite2 (fun z => ?_) (fun _ => ?_)
        · exfalso
          rw [List.length_map, em] at z
          simp at z
        have s4 : Same H (upd H2 p (.lst ([.int 0] ++ ((endL ns).map fun e => (e.2 : Int)).map V.int))) := (s2.trans s3).trans (Sm.new hp)
        have h4 : upd H2 p (.lst ([.int 0] ++ ((endL ns).map fun e => (e.2 : Int)).map V.int)) pl = some (.lst (((gPos ns).map fun (p : Nat) => (p : Int)).map V.int)) := by
          have a1 : upd H1 u (.lst [.int 0]) pl = some (.lst (((gPos ns).map fun (p : Nat) => (p : Int)).map V.int)) := by rw [upd_ne (ne_of_none h1 hu)]; exact h1
          have a2 := s3 _ _ a1
          rw [upd_ne (ne_of_none a2 hp)]
          exact a2
        generalize upd H2 p (.lst ([.int 0] ++ ((endL ns).map fun e => (e.2 : Int)).map V.int)) = H3 at s4 h4 ⊢
        refine ⟨_, rfl, r, _, rfl, .inl (SqL.of (s4 _ _ hr1)), ?_⟩
        have hL : (((gRow ns).map V.int).length : Int) = ((gRow ns).length : Int) := by rw [List.length_map]
        rw [hL]
        refine ⟨_, rfl, by omega, by omega, ?_⟩
        refine for_range (lo := 0) (n := ((gRow ns).length : Int).toNat) (fun i σ H' => Same H H' ∧ H' pl = some (.lst (((gPos ns).map fun (p : Nat) => (p : Int)).map V.int)) ∧ ∃ y1 y2 y3 y4 y5 y6 y7, σ = [some (.ref n), some (.ref r), some (.ref pl), y1, y2, y3, y4, y5, y6, y7]) ⟨s4, h4, _, _, _, _, _, _, _, rfl⟩ ?_ ?_
        · rintro i σ H4 hi ⟨s5, h5, y1, y2, y3, y4, y5, y6, y7, rfl⟩
          have hi' : i < (gRow ns).length := by rw [Int.toNat_natCast] at hi; exact hi
          have hiP : i < (gPos ns).length := by rw [gPos_len]; exact hi'
          have e1 : (0 : Int) + (i : Int) = (i : Int) := Int.zero_add _
          have gp := List.getElem?_eq_getElem hiP
          refine ⟨_, rfl, _, rfl, _, rfl, r, _, rfl, SqL.of (s5 _ _ hr1), fun hd hhd => ?_⟩
          rw [e1, cut_take (by rw [List.length_map]; omega)]
          have s6 : Same H (upd H4 hd (.lst (((gRow ns).map V.int).take i))) := s5.trans (Sm.new hhd)
          have h6 : upd H4 hd (.lst (((gRow ns).map V.int).take i)) pl = some (.lst (((gPos ns).map fun (p : Nat) => (p : Int)).map V.int)) := by rw [upd_ne (ne_of_none h5 hhd)]; exact h5
          have g6 : upd H4 hd (.lst (((gRow ns).map V.int).take i)) hd = some (.lst (((gRow ns).map V.int).take i)) := upd_same
          generalize upd H4 hd (.lst (((gRow ns).map V.int).take i)) = H5 at s6 h6 g6 ⊢
          have gpi : ((gPos ns).map fun (p : Nat) => (p : Int))[i]? = some (((gPos ns)[i] : Nat) : Int) := by rw [List.getElem?_map, gp]; rfl
          refine ⟨_, rfl, _, rfl, pl, _, _, _, rfl, rfl, SqL.of h6, (by first | exact at_i gpi | (rw [e1]; exact at_i gpi)), ?_⟩
          refine ⟨_, _, rfl, rfl, by show 1 ≤ sizeLine; decide, fun u2 hu2 => ?_⟩
          have up2 : u2 ≠ pl := (ne_of_none h6 hu2).symm
          refine ⟨_, rfl, u2, pl, _, _, rfl, rfl, upd_same, (by rw [upd_ne up2.symm]; exact h6), ?_, fun q hq => ?_⟩
          · rw [List.length_map, List.length_map, gPos_len]
            show 1 + _ ≤ sizeLine
            have : 1000 < sizeLine := by decide
            omega
          · have s7 : Same H5 (upd (upd H5 u2 (.lst [.int (0 - 1)])) q (.lst ([.int (0 - 1)] ++ ((gPos ns).map fun (p : Nat) => (p : Int)).map V.int))) := fun b o z => by
              have z1 : upd H5 u2 (.lst [.int (0 - 1)]) b = some o := by rw [upd_ne (ne_of_none z hu2)]; exact z
              rw [upd_ne (ne_of_none z1 hq)]
              exact z1
            have hst : ([(-1 : Int)] ++ (gPos ns).map fun (p : Nat) => (p : Int))[i]? = some (if i = 0 then -1 else (((gPos ns)[i - 1]'(by omega) : Nat) : Int)) := by
              cases i with
              | zero => rfl
              | succ i =>
                rw [if_neg (by omega)]
                show ((gPos ns).map fun (p : Nat) => (p : Int))[i]? = _
                rw [List.getElem?_map, List.getElem?_eq_getElem (by omega)]
                rfl
            generalize hsv : (if i = 0 then (-1 : Int) else (((gPos ns)[i - 1]'(by omega) : Nat) : Int)) = st at hst
            refine ⟨_, rfl, q, _, _, .int st, rfl, rfl, SqL.of upd_same, (by first | exact at_i hst | (rw [e1]; exact at_i hst)), ?_⟩
            have s8 := s6.trans s7
            have h8 := s7 _ _ h6
            have g8 := s7 _ _ g6
            generalize upd (upd H5 u2 (.lst [.int (0 - 1)])) q (.lst ([.int (0 - 1)] ++ ((gPos ns).map fun (p : Nat) => (p : Int)).map V.int)) = H6 at s8 h8 g8 ⊢
            have hpb : (gPos ns)[i] < ns.length := by
              have := (grdP_ge (lisg ltI ns) 0 none (bestL (lisg ltI ns)) _ (List.getElem_mem hiP)).2
              rw [lisg_len] at this
              omega
            have hst0 : -1 ≤ st ∧ st < ns.length := by
              rw [← hsv]
              split
              · omega
              · have := (grdP_ge (lisg ltI ns) 0 none (bestL (lisg ltI ns)) _ (List.getElem_mem (show i - 1 < (gPos ns).length by omega))).2
                rw [lisg_len] at this
                omega
            refine ⟨_, rfl, _, _, rfl, rfl, _, rfl, _, _, rfl, ⟨by omega, by omega, by omega, by omega⟩, ?_⟩
            refine for_range (lo := st + 1) (n := ((((gPos ns)[i] : Nat) : Int) - (st + 1)).toNat) (fun j σ H' => Same H H' ∧ H' pl = some (.lst (((gPos ns).map fun (p : Nat) => (p : Int)).map V.int)) ∧ H' hd = some (.lst (((gRow ns).map V.int).take i)) ∧ ∃ y5 y6, σ = [some (.ref n), some (.ref r), some (.ref pl), y1, some (.int (i : Int)), some (.ref hd), some (.int (((gPos ns)[i] : Nat) : Int)), some (.int st), y5, y6]) ⟨s8, h8, g8, _, _, (by first | rfl | (rw [e1]; rfl))⟩ ?_ ?_
            · rintro j σ H7 hj ⟨s9, h9, g9, y8, y9, rfl⟩
              obtain ⟨jj, ejj⟩ : ∃ jj : Nat, st + 1 + (j : Int) = (jj : Int) := ⟨(st + 1 + (j : Int)).toNat, by omega⟩
              have hjp : jj < (gPos ns)[i] := by omega
              have hjl : jj < ns.length := by omega
              have hlo : i = 0 ∨ ∃ q, (gPos ns)[i - 1]? = some q ∧ q < jj := by
                by_cases e : i = 0
                · exact .inl e
                · rw [if_neg e] at hsv
                  exact .inr ⟨_, List.getElem?_eq_getElem (by omega), by omega⟩
              have gy := List.getElem?_eq_getElem hjl
              generalize hyy : ns[jj] = y at gy
              have hlen : ((((gRow ns).map V.int).take i).length : Int) = (i : Int) := by
                rw [List.length_take, List.length_map]
                omega
              refine ⟨_, rfl, hd, _, rfl, .inl (SqL.of g9), rfl, _, rfl, ?_⟩
              refine ite2 (fun z0 => ?_) (fun z0 => ?_)
              · have i0 : i = 0 := by
                  have := of_decide_eq_true z0
                  injection this with this
                  omega
                refine iteT ?_
                refine ⟨_, rfl, _, rfl, _, rfl, n, _, rfl, SqL.of (s9 _ _ hn), fun q2 hq2 => ?_⟩
                rw [ejj, cut_drop (by rw [List.length_map]; omega), ← List.map_drop]
                have nq : Same H (upd H7 q2 (.lst ((ns.drop jj).map V.int))) := s9.trans (Sm.new hq2)
                have hq3 : upd H7 q2 (.lst ((ns.drop jj).map V.int)) q2 = some (.lst ((ns.drop jj).map V.int)) := upd_same
                have h9' : upd H7 q2 (.lst ((ns.drop jj).map V.int)) pl = some (.lst (((gPos ns).map fun (p : Nat) => (p : Int)).map V.int)) := by rw [upd_ne (ne_of_none h9 hq2)]; exact h9
                have g9' : upd H7 q2 (.lst ((ns.drop jj).map V.int)) hd = some (.lst (((gRow ns).map V.int).take i)) := by rw [upd_ne (ne_of_none g9 hq2)]; exact g9
                generalize upd H7 q2 (.lst ((ns.drop jj).map V.int)) = H8 at nq hq3 h9' g9' ⊢
                refine ⟨q2, rfl, ⟨_, SqL.of hq3⟩, fun D hD => ?_⟩
                refine lc_it (walk_list (K := K) (a := q2) (xs := (ns.drop jj).map V.int)) (fun t H' => Same H8 H' ∧ H' D = some (.lst ((((ns.drop jj).take t).filter fun z => decide (y ≤ z)).map fun z => V.int z))) ⟨Sm.new hD, upd_same⟩ (fun t H' _ z => SqL.of (z.1 _ _ hq3)) ?_ ?_
                · rintro t x H9 H10 ht ⟨sA, hA⟩ ⟨rfl, hx⟩
                  have ht' : t < (ns.drop jj).length := by rw [List.length_map] at ht; exact ht
                  have ex : x = .int (ns.drop jj)[t] := by
                    rw [List.getElem?_map, List.getElem?_eq_getElem ht'] at hx
                    exact (Option.some.inj hx).symm
                  subst ex
                  have et := take_filterB (L := ns.drop jj) (p := fun z => decide (y ≤ z)) (f := fun z => V.int z) ht'
                  refine ⟨rfl, ?_⟩
                  refine ⟨_, rfl, _, rfl, _, rfl, n, _, _, .int y, rfl, rfl, SqL.of (sA _ _ (nq _ _ hn)), (by first | exact at_i gy | (rw [ejj]; exact at_i gy)), _, _, rfl, rfl, _, rfl, ?_⟩
                  refine ite2 (fun z => ?_) (fun z => ?_)
                  · have z' : decide (y ≤ (ns.drop jj)[t]) = true := z
                    rw [if_pos z'] at et
                    refine ⟨_, rfl, _, hA, ?_, fun b o w => ?_, ?_⟩
                    · rw [List.length_map]
                      have a1 := List.length_filter_le (fun z : Int => decide (y ≤ z)) ((ns.drop jj).take t)
                      have a2 := List.length_take_le t (ns.drop jj)
                      have a3 : (ns.drop jj).length = ns.length - jj := List.length_drop
                      exact small1000 (by omega)
                    · rw [upd_ne (ne_of_none w hD)]
                      exact sA _ _ w
                    · rw [upd_same, et]
                  · have z' : ¬ decide (y ≤ (ns.drop jj)[t]) = true := z
                    rw [if_neg z', List.append_nil] at et
                    exact ⟨sA, by rw [hA, et]⟩
                · rintro H9 ⟨sA, hA⟩
                  rw [List.length_map, List.take_length] at hA
                  have edr : ns.drop jj = y :: ns.drop (jj + 1) := by
                    rw [List.drop_eq_getElem_cons hjl, hyy]
                  rw [edr, List.filter_cons, if_pos (decide_eq_true (Int.le_refl y))] at hA
                  have hrl : (y :: (ns.drop (jj + 1)).filter fun z => decide (y ≤ z)).length ≤ 200 := by
                    have a1 := List.length_filter_le (fun z : Int => decide (y ≤ z)) (ns.drop (jj + 1))
                    have a3 : (ns.drop (jj + 1)).length = ns.length - (jj + 1) := List.length_drop
                    rw [List.length_cons]
                    omega
                  refine ⟨_, rfl, _, rfl, D, _, rfl, hA, by omega, fun l2 H10 sB nl2 hB => ?_⟩
                  rw [lensV_eq] at hB
                  have sAll : Same H H10 := (nq.trans sA).trans sB
                  refine ⟨l2, _, rfl, SqL.of hB, (by rw [List.length_map, endL_len]; exact Nat.succ_pos _), fun m hm hall => ?_⟩
                  have em := best_is hm hall
                  refine ⟨_, _, rfl, rfl, _, rfl, r, _, rfl, .inl (SqL.of (sAll _ _ hr1)), rfl, _, rfl, ?_⟩
                  refine ite2 (fun z => ?_) (fun _ => ?_)
                  · exfalso
                    refine gap nd gp hjp hlo gy (.inl i0) ?_
                    have z2 := of_decide_eq_true z
                    injection z2 with z2
                    rw [List.length_map] at z2
                    rw [em] at z2
                    omega
                  · exact ⟨sAll, sB _ _ (sA _ _ h9'), sB _ _ (sA _ _ g9'), _, _, rfl⟩
              · have i0 : i ≠ 0 := fun e => z0 (by rw [hlen, e]; exact decide_eq_true rfl)
                have hz := List.getElem?_eq_getElem (show i - 1 < (gRow ns).length by omega)
                generalize (gRow ns)[i - 1] = lz at hz
                have gz : atI (((gRow ns).map V.int).take i) ((i : Int) - 1) = some (.int lz) := by
                  have ei : (i : Int) - 1 = ((i - 1 : Nat) : Int) := by omega
                  rw [ei, ← List.map_take]
                  refine at_i ?_
                  rw [List.getElem?_take, if_pos (by omega)]
                  exact hz
                refine ⟨_, rfl, _, rfl, n, _, _, .int y, rfl, rfl, SqL.of (s9 _ _ hn), (by rw [ejj]; exact at_i gy), _, rfl, _, rfl, hd, _, rfl, .inl (SqL.of g9), _, _, rfl, rfl, hd, _, _, .int lz, rfl, rfl, SqL.of g9, (by rw [hlen]; exact gz), _, _, rfl, rfl, _, rfl, ?_⟩
                refine ite2 (fun z1 => ?_) (fun z1 => ?_)
                have okc : i = 0 ∨ ∃ z, (gRow ns)[i - 1]? = some z ∧ z < y := .inr ⟨lz, hz, of_decide_eq_true z1⟩
                refine ⟨_, rfl, _, rfl, _, rfl, n, _, rfl, SqL.of (s9 _ _ hn), fun q2 hq2 => ?_⟩
                rw [ejj, cut_drop (by rw [List.length_map]; omega), ← List.map_drop]
                have nq : Same H (upd H7 q2 (.lst ((ns.drop jj).map V.int))) := s9.trans (Sm.new hq2)
                have hq3 : upd H7 q2 (.lst ((ns.drop jj).map V.int)) q2 = some (.lst ((ns.drop jj).map V.int)) := upd_same
                have h9' : upd H7 q2 (.lst ((ns.drop jj).map V.int)) pl = some (.lst (((gPos ns).map fun (p : Nat) => (p : Int)).map V.int)) := by rw [upd_ne (ne_of_none h9 hq2)]; exact h9
                have g9' : upd H7 q2 (.lst ((ns.drop jj).map V.int)) hd = some (.lst (((gRow ns).map V.int).take i)) := by rw [upd_ne (ne_of_none g9 hq2)]; exact g9
                generalize upd H7 q2 (.lst ((ns.drop jj).map V.int)) = H8 at nq hq3 h9' g9' ⊢
                refine ⟨q2, rfl, ⟨_, SqL.of hq3⟩, fun D hD => ?_⟩
                refine lc_it (walk_list (K := K) (a := q2) (xs := (ns.drop jj).map V.int)) (fun t H' => Same H8 H' ∧ H' D = some (.lst ((((ns.drop jj).take t).filter fun z => decide (y ≤ z)).map fun z => V.int z))) ⟨Sm.new hD, upd_same⟩ (fun t H' _ z => SqL.of (z.1 _ _ hq3)) ?_ ?_
                · rintro t x H9 H10 ht ⟨sA, hA⟩ ⟨rfl, hx⟩
                  have ht' : t < (ns.drop jj).length := by rw [List.length_map] at ht; exact ht
                  have ex : x = .int (ns.drop jj)[t] := by
                    rw [List.getElem?_map, List.getElem?_eq_getElem ht'] at hx
                    exact (Option.some.inj hx).symm
                  subst ex
                  have et := take_filterB (L := ns.drop jj) (p := fun z => decide (y ≤ z)) (f := fun z => V.int z) ht'
                  refine ⟨rfl, ?_⟩
                  refine ⟨_, rfl, _, rfl, _, rfl, n, _, _, .int y, rfl, rfl, SqL.of (sA _ _ (nq _ _ hn)), (by first | exact at_i gy | (rw [ejj]; exact at_i gy)), _, _, rfl, rfl, _, rfl, ?_⟩
                  refine ite2 (fun z => ?_) (fun z => ?_)
                  · have z' : decide (y ≤ (ns.drop jj)[t]) = true := z
                    rw [if_pos z'] at et
                    refine ⟨_, rfl, _, hA, ?_, fun b o w => ?_, ?_⟩
                    · rw [List.length_map]
                      have a1 := List.length_filter_le (fun z : Int => decide (y ≤ z)) ((ns.drop jj).take t)
                      have a2 := List.length_take_le t (ns.drop jj)
                      have a3 : (ns.drop jj).length = ns.length - jj := List.length_drop
                      exact small1000 (by omega)
                    · rw [upd_ne (ne_of_none w hD)]
                      exact sA _ _ w
                    · rw [upd_same, et]
                  · have z' : ¬ decide (y ≤ (ns.drop jj)[t]) = true := z
                    rw [if_neg z', List.append_nil] at et
                    exact ⟨sA, by rw [hA, et]⟩
                · rintro H9 ⟨sA, hA⟩
                  rw [List.length_map, List.take_length] at hA
                  have edr : ns.drop jj = y :: ns.drop (jj + 1) := by
                    rw [List.drop_eq_getElem_cons hjl, hyy]
                  rw [edr, List.filter_cons, if_pos (decide_eq_true (Int.le_refl y))] at hA
                  have hrl : (y :: (ns.drop (jj + 1)).filter fun z => decide (y ≤ z)).length ≤ 200 := by
                    have a1 := List.length_filter_le (fun z : Int => decide (y ≤ z)) (ns.drop (jj + 1))
                    have a3 : (ns.drop (jj + 1)).length = ns.length - (jj + 1) := List.length_drop
                    rw [List.length_cons]
                    omega
                  refine ⟨_, rfl, _, rfl, D, _, rfl, hA, by omega, fun l2 H10 sB nl2 hB => ?_⟩
                  rw [lensV_eq] at hB
                  have sAll : Same H H10 := (nq.trans sA).trans sB
                  refine ⟨l2, _, rfl, SqL.of hB, (by rw [List.length_map, endL_len]; exact Nat.succ_pos _), fun m hm hall => ?_⟩
                  have em := best_is hm hall
                  refine ⟨_, _, rfl, rfl, _, rfl, r, _, rfl, .inl (SqL.of (sAll _ _ hr1)), rfl, _, rfl, ?_⟩
                  refine ite2 (fun z => ?_) (fun _ => ?_)
                  · exfalso
                    refine gap nd gp hjp hlo gy okc ?_
                    have z2 := of_decide_eq_true z
                    injection z2 with z2
                    rw [List.length_map] at z2
                    rw [em] at z2
                    omega
                  · exact ⟨sAll, sB _ _ (sA _ _ h9'), sB _ _ (sA _ _ g9'), _, _, rfl⟩
                exact ⟨s9, h9, g9, _, _, rfl⟩
            · rintro σ H7 ⟨s9, h9, g9, y8, y9, rfl⟩
              exact ⟨s9, h9, _, _, _, _, _, _, _, rfl⟩
        · rintro σ H4 ⟨s5, h5, y1, y2, y3, y4, y5, y6, y7, rfl⟩
          exact k H4 s5
end
end VL

set_option Elab.async false
set_option linter.all false
set_option maxRecDepth 100000
set_option maxHeartbeats 4000000
namespace VL
open PySem PySem.Spec PyProof.Rows L2
def bitC (c k : Nat) : Bool := decide (c / 2 ^ k % 2 = 1)
def posC (n c : Nat) : List Nat := (List.range n).filter (bitC c)
def valC (ns : List Int) (P : List Nat) : List Int := P.map fun p => ns.getD p 0
abbrev natV (P : List Nat) : List V := (P.map fun (p : Nat) => (p : Int)).map V.int
def betC (P B : List Nat) : Bool := decide (B.length < P.length) || (decide (P.length = B.length) && lexN P B)
structure ValC (ns : List Int) (P : List Nat) : Prop where
  inc : P.Pairwise (· < ·)
  lt : ∀ p ∈ P, p < ns.length
  ris : Ris ltI (valC ns P)
theorem listLt_lexN : ∀ a b : List Nat, PySem.W.listLt (a.map fun (p : Nat) => (p : Int)) (b.map fun (p : Nat) => (p : Int)) = lexN a b
  | [], [] => rfl
  | [], _ :: _ => rfl
  | _ :: _, [] => rfl
  | x :: xs, y :: ys => by
    show (if (x : Int) = (y : Int) then PySem.W.listLt (xs.map fun (p : Nat) => (p : Int)) (ys.map fun (p : Nat) => (p : Int)) else decide ((x : Int) < (y : Int))) = if x = y then lexN xs ys else decide (x < y)
    by_cases e : x = y
    · rw [if_pos (by omega), if_pos e, listLt_lexN]
    · rw [if_neg (by omega), if_neg e]
      by_cases h : x < y
      · rw [decide_eq_true h, decide_eq_true (show (x : Int) < (y : Int) by omega)]
      · rw [decide_eq_false h, decide_eq_false (show ¬ (x : Int) < (y : Int) by omega)]
theorem posC_ok (n c : Nat) : (posC n c).Pairwise (· < ·) ∧ ∀ p ∈ posC n c, p < n :=
  ⟨List.pairwise_lt_range.sublist List.filter_sublist, fun p hp => List.mem_range.mp (List.mem_filter.mp hp).1⟩
theorem posC_of {n : Nat} {P : List Nat} (h1 : P.Pairwise (· < ·)) (h2 : ∀ p ∈ P, p < n) : ∃ c, c < 2 ^ n ∧ posC n c = P := by
  obtain ⟨c, hc, hb⟩ := bits_ex n fun k => decide (k ∈ P)
  refine ⟨c, hc, ?_⟩
  have key : ∀ {a b : List Nat}, a.Pairwise (· < ·) → b.Pairwise (· < ·) → (∀ x, x ∈ a ↔ x ∈ b) → a = b := by
    intro a
    induction a with
    | nil =>
      intro b _ _ h
      cases b with
      | nil => rfl
      | cons y b => exact absurd ((h y).mpr List.mem_cons_self) (by simp)
    | cons x a ih =>
      intro b ha hb h
      cases b with
      | nil => exact absurd ((h x).mp List.mem_cons_self) (by simp)
      | cons y b =>
        rw [List.pairwise_cons] at ha hb
        have e : x = y := by
          rcases List.mem_cons.mp ((h x).mp List.mem_cons_self) with r | r
          · exact r
          · rcases List.mem_cons.mp ((h y).mpr List.mem_cons_self) with r2 | r2
            · exact r2.symm
            · have := hb.1 _ r
              have := ha.1 _ r2
              omega
        subst e
        rw [ih ha.2 hb.2 fun z => ⟨fun m => ?_, fun m => ?_⟩]
        · rcases List.mem_cons.mp ((h z).mp (List.mem_cons_of_mem _ m)) with r | r
          · have := ha.1 _ m; omega
          · exact r
        · rcases List.mem_cons.mp ((h z).mpr (List.mem_cons_of_mem _ m)) with r | r
          · have := hb.1 _ m; omega
          · exact r
  refine key (posC_ok n c).1 h1 fun x => ?_
  unfold posC bitC
  rw [List.mem_filter, List.mem_range]
  constructor
  · rintro ⟨h3, h4⟩
    exact of_decide_eq_true ((hb x h3).mp (of_decide_eq_true h4))
  · intro h3
    exact ⟨h2 x h3, decide_eq_true ((hb x (h2 x h3)).mpr (decide_eq_true h3))⟩
theorem drop_lisg : ∀ (X : List Int) (j : Nat), (lisg ltI X).drop j = lisg ltI (X.drop j)
  | [], j => by cases j <;> rfl
  | x :: X, 0 => rfl
  | x :: X, j + 1 => drop_lisg X j
theorem fits_of : ∀ {P : List Nat} {ns : List Int} {i : Nat} {last : Option Int}, P.Pairwise (· < ·) → (∀ p ∈ P, i ≤ p ∧ p < ns.length) → Ris ltI (valC ns P) → (∀ p ∈ P, okL last (ns.getD p 0) = true) → Fits (lisg ltI (ns.drop i)) i last P
  | [], _, _, _, _, _, _, _ => trivial
  | p :: P, ns, i, last, h1, h2, h3, h4 => by
    obtain ⟨a1, a2⟩ := h2 p List.mem_cons_self
    have hp := List.pairwise_cons.mp h1
    have hr : Ris ltI (ns.getD p 0 :: valC ns P) := h3
    have hr' := List.pairwise_cons.mp hr
    have hg : ns.getD p 0 = ns[p] := by rw [List.getD_eq_getElem?_getD, List.getElem?_eq_getElem a2]; rfl
    have hd : ns.drop p = ns[p] :: ns.drop (p + 1) := List.drop_eq_getElem_cons a2
    have e0 : ((lisg ltI (ns.drop i)).drop (p - i)) = lisg ltI (ns.drop p) := by
      rw [drop_lisg, List.drop_drop]
      congr 2
      omega
    refine ⟨a1, (ns[p], mxg ltI ns[p] (lisg ltI (ns.drop (p + 1))) + 1), ?_, ?_, ?_⟩
    · have : ((lisg ltI (ns.drop i)).drop (p - i))[0]? = (lisg ltI (ns.drop i))[p - i]? := by rw [List.getElem?_drop]; rfl
      rw [← this, e0, hd]
      rfl
    · have := h4 p List.mem_cons_self
      rw [hg] at this
      exact this
    · have e1 : (lisg ltI (ns.drop i)).drop (p - i + 1) = lisg ltI (ns.drop (p + 1)) := by
        rw [drop_lisg, List.drop_drop]
        congr 2
        omega
      rw [e1]
      refine fits_of hp.2 (fun q hq => ⟨hp.1 q hq, (h2 q (List.mem_cons_of_mem _ hq)).2⟩) hr'.2 fun q hq => ?_
      have := hr'.1 (ns.getD q 0) (List.mem_map.mpr ⟨q, hq, rfl⟩)
      rw [hg] at this
      exact this
/-- the chosen row beats all others -/
theorem best_of_all {ns : List Int} {B : List Nat} (hB : ValC ns B) (hopt : ∀ c, c < 2 ^ ns.length → Ris ltI (valC ns (posC ns.length c)) → betC (posC ns.length c) B = false) : B = gPos ns := by
  have gv : valC ns (gPos ns) = gRow ns := by
    unfold valC
    have h := gPos_at ns
    refine List.ext_getElem? fun i => ?_
    have h2 : ((gPos ns).map (fun p => ns[p]?))[i]? = ((gRow ns).map some)[i]? := by rw [h]
    rw [List.getElem?_map, List.getElem?_map] at h2
    rw [List.getElem?_map]
    cases e : (gPos ns)[i]? with
    | none =>
      rw [e] at h2
      cases e2 : (gRow ns)[i]? with
      | none => rfl
      | some z => rw [e2] at h2; cases h2
    | some p =>
      rw [e] at h2
      cases e2 : (gRow ns)[i]? with
      | none => rw [e2] at h2; cases h2
      | some z =>
        rw [e2] at h2
        have h3 : ns[p]? = some z := Option.some.inj h2
        show some (ns.getD p 0) = some z
        rw [List.getD_eq_getElem?_getD, h3]
        rfl
  have glt : ∀ p ∈ gPos ns, p < ns.length := fun p hp => by
    have := (grdP_ge (lisg ltI ns) 0 none (bestL (lisg ltI ns)) p hp).2
    rw [lisg_len] at this
    omega
  obtain ⟨g, hg1, hg2⟩ := posC_of (grdP_inc (lisg ltI ns) 0 none (bestL (lisg ltI ns))) glt
  have hg3 := hopt g hg1 (by rw [hg2]; show Ris ltI (valC ns (gPos ns)); rw [gv]; exact (grd_ris (lisg ltI ns) none _).1)
  rw [hg2] at hg3
  have hf : Fits (lisg ltI ns) 0 none B := fits_of (ns := ns) (i := 0) hB.inc (fun p hp => ⟨Nat.zero_le _, hB.lt p hp⟩) hB.ris fun _ _ => rfl
  obtain ⟨r, r1, r2, r3, _⟩ := fits_row hf
  have hle : B.length ≤ (gPos ns).length := by
    rw [← r1, gPos_len, gRow_len]
    exact best_le r2 r3
  have hg3' : betC (gPos ns) B = false := hg3
  unfold betC at hg3'
  rw [Bool.or_eq_false_iff] at hg3'
  have hge : ¬ B.length < (gPos ns).length := of_decide_eq_false hg3'.1
  have hlen : B.length = (gPos ns).length := by omega
  have hl1 : lexN (gPos ns) B = false := by
    have := hg3'.2
    rw [decide_eq_true hlen.symm] at this
    exact this
  have hl2 : lexN B (gPos ns) = false := grdP_first ns 0 none (bestL (lisg ltI ns)) (fun e he _ => bestL_le he) B hf (by rw [hlen, gPos_len, gRow_len])
  exact lexN_tri hlen hl2 hl1
end VL

set_option Elab.async false
set_option linter.all false
set_option maxRecDepth 100000
set_option maxHeartbeats 4000000
namespace VL
open PySem PySem.Spec PyProof.Rows L2
theorem pows : ∀ k, k < 7 → ([1, 2, 4, 8, 16, 32, 64] : List Int)[k]? = some ((2 ^ k : Nat) : Int) := by decide
theorem pows8 : ∀ k, k < 8 → ([1, 2, 4, 8, 16, 32, 64, 128] : List Int)[k]? = some ((2 ^ k : Nat) : Int) := by decide
theorem pow7 : ∀ k, k < 7 → (0 : Int) < ((2 ^ k : Nat) : Int) ∧ ((2 ^ k : Nat) : Int) < 1073741824 := by decide
theorem bit_iff {c k : Nat} : decide (V.int ((((0 : Int) + (c : Int)) / ((2 ^ k : Nat) : Int)) % 2) = V.int 1) = bitC c k := by
  have e : (((0 : Int) + (c : Int)) / ((2 ^ k : Nat) : Int)) % 2 = ((c / 2 ^ k % 2 : Nat) : Int) := by
    rw [Int.zero_add]
    generalize 2 ^ k = q
    push_cast
    rfl
  rw [e]
  unfold bitC
  by_cases h : c / 2 ^ k % 2 = 1
  · rw [decide_eq_true h, h]
    rfl
  · rw [decide_eq_false h]
    refine decide_eq_false fun z => h ?_
    injection z with z
    omega
theorem lexN_irr : ∀ a : List Nat, lexN a a = false
  | [] => rfl
  | x :: xs => by show (if x = x then lexN xs xs else decide (x < x)) = false; rw [if_pos rfl, lexN_irr]
theorem betC_irr (a : List Nat) : betC a a = false := by
  unfold betC
  rw [lexN_irr, decide_eq_false (Nat.lt_irrefl _)]
  simp
theorem lexN_tr : ∀ {a b c : List Nat}, a.length = b.length → b.length = c.length → lexN c b = true → lexN a b = false → lexN a c = false
  | [], [], [], _, _, h, _ => by cases h
  | x :: xs, y :: ys, z :: zs, h1, h2, h3, h4 => by
    have h3' : (if z = y then lexN zs ys else decide (z < y)) = true := h3
    have h4' : (if x = y then lexN xs ys else decide (x < y)) = false := h4
    show (if x = z then lexN xs zs else decide (x < z)) = false
    by_cases e1 : z = y
    · rw [if_pos e1] at h3'
      subst e1
      by_cases e2 : x = z
      · rw [if_pos e2] at h4' ⊢
        exact lexN_tr (Nat.succ.inj h1) (Nat.succ.inj h2) h3' h4'
      · rw [if_neg e2] at h4' ⊢
        exact h4'
    · rw [if_neg e1] at h3'
      have h5 := of_decide_eq_true h3'
      by_cases e2 : x = y
      · rw [if_neg (by omega)]
        exact decide_eq_false (by omega)
      · rw [if_neg e2] at h4'
        have h6 := of_decide_eq_false h4'
        rw [if_neg (by omega)]
        exact decide_eq_false (by omega)
theorem betC_tr {a b c : List Nat} (h1 : betC c b = true) (h2 : betC a b = false) : betC a c = false := by
  unfold betC at h1 h2 ⊢
  rw [Bool.or_eq_true, Bool.and_eq_true] at h1
  rw [Bool.or_eq_false_iff] at h2 ⊢
  have h3 : ¬ b.length < a.length := of_decide_eq_false h2.1
  rcases h1 with h | ⟨h, h'⟩
  · have h4 : b.length < c.length := of_decide_eq_true h
    refine ⟨decide_eq_false (by omega), ?_⟩
    rw [decide_eq_false (by omega)]
    rfl
  · have h4 : c.length = b.length := of_decide_eq_true h
    refine ⟨decide_eq_false (by omega), ?_⟩
    by_cases e : a.length = b.length
    · have h5 := h2.2
      rw [decide_eq_true e] at h5
      rw [lexN_tr e h4.symm h' h5]
      simp
    · rw [decide_eq_false (by omega)]
      rfl
def spAll : Sp := fun vs H Q _ => ∃ (n : Addr) (ns : List Int), vs = [.ref n] ∧ H n = some (.lst (ns.map V.int)) ∧ ns.Nodup ∧ ns.length < 8 ∧ ∀ l H', Same H H' → H l = none → H' l = some (.lst ((gRow ns).map V.int)) → Q (.ref l) H'
section
variable {P : Program} {w : World} {K : PySem.W.Frag} {mg : Str → Option Value} {base : Heap} {C : Ad}
theorem sc__law_all : FnScope ["numbers", "best", "chosen", "row", "places", "place", "k", "number"] ["numbers"] (defScope s__law_all) := ⟨rfl, rfl, rfl, by decide +kernel, rfl, by decide +kernel, by decide +kernel⟩
theorem ok_all (T : Txt K w mg C) : Cal P w K mg base 2 "_law_all" spAll := by
  have G_law_rises : Cal P w K mg base 1 "_law_rises" spRises := ok_rises T
  refine cal_of T.d__law_all sc__law_all (fun vs H Q E h => ?_) (fun f cdv A outer s H vs Q E hr h => ?_)
  · obtain ⟨n, ns, rfl, _⟩ := h
    rfl
  · obtain ⟨n, ns, rfl, hn, nd, h8, k⟩ := h
    refine ⟨_, (pss_cons (ps_set (i := 1) sc__law_all.nd rfl (Or.inl rfl) (pe_lst pa_nil)) (pss_cons (ps_for PassesOwn.never rfl (pi_range1 (by rfl) T.z_range (pa_cons (pe_op op_pow pe_int pe_int) pa_nil)) (pg_name (i := 2) sc__law_all.nd rfl (Or.inr rfl)) (pss_cons (ps_setLc (i := 3) (own := [("k", 6)]) (g := gName 6) (tt := _) rfl sc__law_all.nd rfl rfl (sw_true rfl rfl rfl (by decide +kernel)) (pi_range1 (by rfl) T.z_range (pa_cons (pe_callB call_len_seq (by rfl) T.z_len PySem.boot_len (pa_cons (pv 0) pa_nil)) pa_nil)) (blkOk_by (N := ["numbers", "best", "chosen", "row", "places", "place", "k", "number"]) (sc := (defScope s__law_all)) (by decide +kernel)) (fun _ _ _ _ _ => pg_name (i := 6) sc__law_all.nd rfl (Or.inl rfl)) (fun _ _ _ _ _ => pts_one (pt_cmpR op_eq (pe_op op_mod (pe_op op_fdiv (pe_callTy call_int1 (by rfl) T.z_int (by decide +kernel) (pa_cons (pv 2) pa_nil)) (pe_ix (ix_listS (K := K) rfl) (pe_lst (pa_cons pe_int (pa_cons pe_int (pa_cons pe_int (pa_cons pe_int (pa_cons pe_int (pa_cons pe_int (pa_cons pe_int pa_nil)))))))) (pv 6) (fun _ _ => rfl))) pe_int) pe_int (nomark _))) (fun _ _ _ _ _ => (pe_ix (ix_listS (K := K) rfl) (pv 0) (pv 6) (fun _ _ => rfl)))) (pss_one (ps_if (PW.pt (pw_and (pt_cmpR op_lt (pv 2) (pe_ix ix_list (pe_lst (pa_cons pe_int (pa_cons pe_int (pa_cons pe_int (pa_cons pe_int (pa_cons pe_int (pa_cons pe_int (pa_cons pe_int (pa_cons pe_int pa_nil))))))))) (pe_callB call_len_seq (by rfl) T.z_len PySem.boot_len (pa_cons (pv 0) pa_nil)) (fun _ _ => rfl)) (nomark _)) (pw_and1 (pt_val (pe_c G_law_rises hr (by decide) (by rfl) (pa_cons (pv 3) pa_nil)))))) (pss_cons (ps_setLc (i := 4) (own := [("number", 7)]) (g := gName 7) (tt := tYes) rfl sc__law_all.nd rfl rfl (sw_true rfl rfl rfl (by decide +kernel)) (pi_list (pv 3)) (blkOk_by (N := ["numbers", "best", "chosen", "row", "places", "place", "k", "number"]) (sc := (defScope s__law_all)) (by decide +kernel)) (fun _ _ _ _ _ => pg_name (i := 7) sc__law_all.nd rfl (Or.inl rfl)) (fun _ _ _ _ _ => pts_nil) (fun _ _ _ _ _ => (show PE _ _ (tBM K "list" (rIndex K) (tVar 0) (tCons (tVar 7) tNil)) from pe_bm PySem.F.plainAttrs_list PySem.F.slot_list_index PySem.F.type_list_index (mt_indexS (K := K) rfl) (pv 0) (pa_cons (pv 7) pa_nil)))) (pss_one (ps_if (PW.pt (pw_or (pt_cmpR op_gt (pe_callB call_len_seq (by rfl) T.z_len PySem.boot_len (pa_cons (pv 4) pa_nil)) (pe_callB call_len_seq (by rfl) T.z_len PySem.boot_len (pa_cons (pv 1) pa_nil)) (nomark _)) (pw_or1 (PW.pt (pw_and (pt_cmpR op_eq (pe_callB call_len_seq (by rfl) T.z_len PySem.boot_len (pa_cons (pv 4) pa_nil)) (pe_callB call_len_seq (by rfl) T.z_len PySem.boot_len (pa_cons (pv 1) pa_nil)) (nomark _)) (pw_and1 (pt_cmpR (op_ltL (Rn.u1 hr)) (pv 4) (pv 1) (nomark _)))))))) (pss_one (ps_set (i := 1) sc__law_all.nd rfl (Or.inl rfl) (pv 4))) pss_nil))) pss_nil)))) (pss_one (ps_ret (pe_lc (own := [("place", 5)]) (g := gName 5) (tt := tYes) rfl sc__law_all.nd (pi_list (pv 1)) (blkOk_by (N := ["numbers", "best", "chosen", "row", "places", "place", "k", "number"]) (sc := (defScope s__law_all)) (by decide +kernel)) (fun _ _ _ _ _ => pg_name (i := 5) sc__law_all.nd rfl (Or.inl rfl)) (fun _ _ _ _ _ => pts_nil) (fun _ _ _ _ _ => (pe_ix (ix_listS (K := K) rfl) (pv 0) (pv 5) (fun _ _ => rfl)))))))), ?_⟩
    refine ⟨by show 0 ≤ sizeLine; decide, fun b0 hb0 => ?_⟩
    have hL : ((ns.map V.int).length : Int) = (ns.length : Int) := by rw [List.length_map]
    refine ⟨_, _, rfl, rfl, ⟨by decide, by decide, by decide⟩, 128, rfl, by decide, by decide, ?_⟩
    refine for_range (lo := 0) (n := 128) (fun c σ H' => ∃ (ba : Addr) (B : List Nat), Same H H' ∧ H' ba = some (.lst (natV B)) ∧ ValC ns B ∧ (∀ c', c' < c → c' < 2 ^ ns.length → Ris ltI (valC ns (posC ns.length c')) → betC (posC ns.length c') B = false) ∧ ∃ y2 y3 y4 y5 y6 y7, σ = [some (.ref n), some (.ref ba), y2, y3, y4, y5, y6, y7])
      ⟨b0, [], Sm.new hb0, upd_same, ⟨.nil, fun p h => (by cases h), .nil⟩, fun c' h => absurd h (Nat.not_lt_zero _), none, none, none, none, none, none, rfl⟩ ?_ ?_
    · rintro c σ H1 hc ⟨ba, B, s1, hB, vB, opt, y2, y3, y4, y5, y6, y7, rfl⟩
      refine ⟨_, rfl, n, _, rfl, .inl (SqL.of (s1 _ _ hn)), ?_⟩
      rw [hL]
      refine ⟨_, rfl, by omega, by omega, fun D hD => ?_⟩
      refine lc_it (walk_range (lo := 0) (n := (ns.length : Int).toNat)) (fun j H' => Same H1 H' ∧ H' D = some (.lst (((List.range j).filter (bitC c)).map fun k => V.int (ns.getD k 0)))) ⟨Sm.new hD, upd_same⟩ (fun _ _ _ _ => trivial) ?_ ?_
      · rintro j y H2 H3 hj ⟨s2, h2⟩ ⟨rfl, rfl⟩
        have hj' : j < ns.length := by rw [Int.toNat_natCast] at hj; exact hj
        have ej : (0 : Int) + (j : Int) = (j : Int) := Int.zero_add _
        refine ⟨rfl, ?_⟩
        refine ⟨_, rfl, .inl ⟨_, rfl, by show 7 ≤ sizeLine; decide, fun u hu => ?_⟩⟩
        have gu := at_i (pows j (by omega))
        refine ⟨_, rfl, u, _, _, _, rfl, rfl, SqL.of upd_same, (by rw [ej]; exact gu), _, _, rfl, rfl, pow7 j (by omega), _, _, rfl, rfl, (by show (0 : Int) < 2; decide), rfl, _, rfl, ?_⟩
        have uD : D ≠ u := ne_of_none h2 hu
        have et : (((List.range (j + 1)).filter (bitC c)).map fun k => V.int (ns.getD k 0)) = (((List.range j).filter (bitC c)).map fun k => V.int (ns.getD k 0)) ++ (if bitC c j = true then [V.int (ns.getD j 0)] else []) := by
          rw [List.range_succ, List.filter_append, List.map_append]
          congr 1
          rw [List.filter_cons]
          split <;> rfl
        have s3 : ∀ o, Same H1 (upd H3 u o) := fun o b z w => by
          rw [upd_ne (ne_of_none (s2 _ _ w) hu)]
          exact s2 _ _ w
        refine ite2 (fun z => ?_) (fun z => ?_)
        · have z' : bitC c j = true := bit_iff.symm.trans z
          rw [if_pos z'] at et
          have gn2 : ns[j]? = some (ns.getD j 0) := by
            rw [List.getD_eq_getElem?_getD, List.getElem?_eq_getElem hj']
            rfl
          refine ⟨_, rfl, _, rfl, n, _, _, _, rfl, rfl, SqL.of (s3 _ _ _ (s1 _ _ hn)), (by rw [ej]; exact at_i gn2), _, (by rw [upd_ne uD]; exact h2), ?_, fun b o w => ?_, ?_⟩
          · rw [List.length_map]
            have a1 := List.length_filter_le (bitC c) (List.range j)
            rw [List.length_range] at a1
            exact small1000 (by omega)
          · rw [upd_ne (ne_of_none w hD)]
            exact s3 _ _ _ w
          · rw [upd_same, et]
        · have z' : ¬ bitC c j = true := fun w => z (bit_iff.trans w)
          rw [if_neg z', List.append_nil] at et
          exact ⟨s3 _, by rw [upd_ne uD, h2, et]⟩
      · rintro H2 ⟨s2, h2⟩
        rw [Int.toNat_natCast] at h2
        have hv : ((posC ns.length c).map fun k => V.int (ns.getD k 0)) = (valC ns (posC ns.length c)).map V.int := by
          unfold valC
          rw [List.map_map]
          rfl
        have h2' : H2 D = some (.lst ((valC ns (posC ns.length c)).map V.int)) := by rw [← hv]; exact h2
        have s2' := s1.trans s2
        have hB2 := s2 _ _ hB
        have pk := posC_ok ns.length c
        have pkl : (posC ns.length c).length ≤ 7 := by
          unfold posC
          have a1 := List.length_filter_le (bitC c) (List.range ns.length)
          rw [List.length_range] at a1
          omega
        have skip : betC (posC ns.length c) B = false ∨ ¬ c < 2 ^ ns.length ∨ ¬ Ris ltI (valC ns (posC ns.length c)) → ∀ c', c' < c + 1 → c' < 2 ^ ns.length → Ris ltI (valC ns (posC ns.length c')) → betC (posC ns.length c') B = false := fun hh c' h1 h3 h4 => by
          by_cases e : c' = c
          · subst e
            rcases hh with h | h | h
            · exact h
            · exact absurd h3 h
            · exact absurd h4 h
          · exact opt c' (by omega) h3 h4
        refine ⟨_, rfl, by show 8 ≤ sizeLine; decide, fun u hu => ?_⟩
        have gu := at_i (pows8 ns.length h8)
        refine ⟨_, rfl, n, _, rfl, .inl (SqL.of (by rw [upd_ne (ne_of_none (s2' _ _ hn) hu)]; exact s2' _ _ hn)), u, _, _, _, rfl, rfl, SqL.of upd_same, (by rw [hL]; exact gu), _, _, rfl, rfl, _, rfl, ?_⟩
        have s3 : Same H2 (upd H2 u (.lst [V.int 1, V.int 2, V.int 4, V.int 8, V.int 16, V.int 32, V.int 64, V.int 128])) := Sm.new hu
        have s4 := s2'.trans s3
        have hB4 := s3 _ _ hB2
        have hD4 := s3 _ _ h2'
        show if decide ((0 : Int) + (c : Int) < ((2 ^ ns.length : Nat) : Int)) = true then _ else _
        generalize upd H2 u (.lst [V.int 1, V.int 2, V.int 4, V.int 8, V.int 16, V.int 32, V.int 64, V.int 128]) = H4 at s4 hB4 hD4 ⊢
        refine ite2 (fun q => ?_) (fun q => ?_)
        · have q' : c < 2 ^ ns.length := by
            have := of_decide_eq_true q
            rw [Int.zero_add] at this
            exact Int.ofNat_lt.mp this
          refine ⟨_, rfl, D, valC ns (posC ns.length c), rfl, hD4, (by unfold valC; rw [List.length_map]; omega), fun b hb => ⟨b, rfl, ?_⟩⟩
          cases b with
          | false =>
            refine iteF ?_
            exact ⟨ba, B, s4, hB4, vB, skip (.inr (.inr fun z => by have := hb.mpr z; cases this)), _, _, _, _, _, _, rfl⟩
          | true =>
            have ris := hb.mp rfl
            refine iteT ?_
            refine ⟨_, rfl, D, rfl, ⟨_, SqL.of hD4⟩, fun E_ hE => ?_⟩
            refine lc_it (walk_list (K := K) (a := D) (xs := (valC ns (posC ns.length c)).map V.int)) (fun t H' => Same H4 H' ∧ H' E_ = some (.lst (natV ((posC ns.length c).take t)))) ⟨Sm.new hE, upd_same⟩ (fun t H' _ z => SqL.of (z.1 _ _ hD4)) ?_ ?_
            · rintro t x H5 H6 ht ⟨s5, h5⟩ ⟨rfl, hx⟩
              have ht' : t < (posC ns.length c).length := by rw [List.length_map] at ht; unfold valC at ht; rw [List.length_map] at ht; exact ht
              have hp : (posC ns.length c)[t] < ns.length := pk.2 _ (List.getElem_mem ht')
              have ex : x = .int (ns.getD (posC ns.length c)[t] 0) := by
                rw [List.getElem?_map] at hx
                unfold valC at hx
                rw [List.getElem?_map, List.getElem?_eq_getElem ht'] at hx
                exact (Option.some.inj hx).symm
              subst ex
              have gp := List.getElem?_eq_getElem ht'
              generalize (posC ns.length c)[t] = p at hp gp
              have gn : ns[p]? = some (ns.getD p 0) := by
                rw [List.getD_eq_getElem?_getD, List.getElem?_eq_getElem hp]
                rfl
              refine ⟨rfl, ?_⟩
              refine ⟨_, rfl, .inl ⟨rfl, _, SqL.of (s5 _ _ (s4 _ _ hn))⟩, _, rfl, n, _, _, p, .int (ns.getD p 0), rfl, rfl, SqL.of (s5 _ _ (s4 _ _ hn)), rfl, flat_j _, ?_, ?_, ?_, ?_⟩
              · rw [List.getElem?_map, gn]
                rfl
              · show (ns.getD p 0 == ns.getD p 0) = true
                simp
              · intro m z' hm hz
                rw [List.getElem?_map] at hz
                cases e : ns[m]? with
                | none => rw [e] at hz; cases hz
                | some v =>
                  rw [e] at hz
                  have : z' = .int v := (Option.some.inj hz).symm
                  subst this
                  show (v == ns.getD p 0) = false
                  refine beq_eq_false_iff_ne.mpr fun w => ?_
                  rw [w] at e
                  obtain ⟨hm2, em⟩ := List.getElem?_eq_some_iff.mp e
                  obtain ⟨hp2, ep⟩ := List.getElem?_eq_some_iff.mp gn
                  exact List.pairwise_iff_getElem.mp nd m _ hm2 hp2 hm (em.trans ep.symm)
              · refine ⟨_, h5, ?_, fun b o w => ?_, ?_⟩
                · rw [List.length_map, List.length_map]
                  have := List.length_take_le t (posC ns.length c)
                  exact small1000 (by omega)
                · rw [upd_ne (ne_of_none w hE)]
                  exact s5 _ _ w
                · rw [upd_same, List.take_add_one, gp]
                  unfold natV
                  rw [List.map_append, List.map_append]
                  rfl
            · rintro H5 ⟨s5, h5⟩
              have hvl : ((valC ns (posC ns.length c)).map V.int).length = (posC ns.length c).length := by unfold valC; rw [List.length_map, List.length_map]
              rw [hvl, List.take_length] at h5
              have s6 := s4.trans s5
              have hB5 := s5 _ _ hB4
              have lP : ((natV (posC ns.length c)).length : Int) = ((posC ns.length c).length : Int) := by rw [List.length_map, List.length_map]
              have lB : ((natV B).length : Int) = (B.length : Int) := by rw [List.length_map, List.length_map]
              have vP : ValC ns (posC ns.length c) := ⟨pk.1, pk.2, ris⟩
              have yes : betC (posC ns.length c) B = true → ∀ c', c' < c + 1 → c' < 2 ^ ns.length → Ris ltI (valC ns (posC ns.length c')) → betC (posC ns.length c') (posC ns.length c) = false := fun hb c' h1 h3 h4 => by
                by_cases e : c' = c
                · subst e
                  exact betC_irr _
                · exact betC_tr hb (opt c' (by omega) h3 h4)
              refine ⟨_, rfl, E_, _, rfl, .inl (SqL.of h5), _, rfl, ba, _, rfl, .inl (SqL.of hB5), _, _, rfl, rfl, _, rfl, ?_⟩
              rw [lP, lB]
              refine ite2 (fun z => ?_) (fun z => ?_)
              · have z' : B.length < (posC ns.length c).length := by have := of_decide_eq_true z; omega
                refine iteT ?_
                exact ⟨_, rfl, E_, _, s6, h5, vP, yes (by unfold betC; rw [decide_eq_true z']; rfl), _, _, _, _, _, _, rfl⟩
              · have z' : ¬ B.length < (posC ns.length c).length := fun w => z (decide_eq_true (by omega))
                refine ⟨_, rfl, E_, _, rfl, .inl (SqL.of h5), _, rfl, ba, _, rfl, .inl (SqL.of hB5), rfl, _, rfl, ?_⟩
                rw [lP, lB]
                refine ite2 (fun y => ?_) (fun y => ?_)
                · have y' : (posC ns.length c).length = B.length := by
                    have := of_decide_eq_true y
                    injection this with this
                    omega
                  refine ⟨_, rfl, _, rfl, E_, ba, _, _, rfl, rfl, SqL.of h5, SqL.of hB5, _, rfl, ?_⟩
                  rw [listLt_lexN]
                  refine ite2 (fun v => ?_) (fun v => ?_)
                  · exact ⟨_, rfl, E_, _, s6, h5, vP, yes (by unfold betC; rw [decide_eq_true y', v]; simp), _, _, _, _, _, _, rfl⟩
                  · refine ⟨ba, B, s6, hB5, vB, skip (.inl ?_), _, _, _, _, _, _, rfl⟩
                    unfold betC
                    rw [decide_eq_false z', Bool.eq_false_iff.mpr v]
                    simp
                · have y' : ¬ (posC ns.length c).length = B.length := fun w => y (by rw [w]; exact decide_eq_true rfl)
                  refine iteF ?_
                  refine ⟨ba, B, s6, hB5, vB, skip (.inl ?_), _, _, _, _, _, _, rfl⟩
                  unfold betC
                  rw [decide_eq_false z', decide_eq_false y']
                  rfl
        · have q' : ¬ c < 2 ^ ns.length := fun w => q (decide_eq_true (by rw [Int.zero_add]; exact Int.ofNat_lt.mpr w))
          refine iteF ?_
          exact ⟨ba, B, s4, hB4, vB, skip (.inr (.inl q')), _, _, _, _, _, _, rfl⟩
    · rintro σ H1 ⟨ba, B, s1, hB, vB, opt, y2, y3, y4, y5, y6, y7, rfl⟩
      have p8 : ∀ k, k < 8 → 2 ^ k ≤ 128 := by decide
      have eB : B = gPos ns := best_of_all vB fun c hc => opt c (by have := p8 ns.length h8; omega) hc
      subst eB
      refine ⟨_, rfl, ba, rfl, ⟨_, SqL.of hB⟩, fun D hD => ?_⟩
      have gl := gPos_len ns
      have gs := (gRow_sub ns).length_le
      refine lc_it (walk_list (K := K) (a := ba) (xs := natV (gPos ns))) (fun t H' => Same H1 H' ∧ H' D = some (.lst (((gRow ns).take t).map V.int))) ⟨Sm.new hD, upd_same⟩ (fun t H' _ z => SqL.of (z.1 _ _ hB)) ?_ ?_
      · rintro t x H5 H6 ht ⟨s5, h5⟩ ⟨rfl, hx⟩
        have ht' : t < (gPos ns).length := by rw [List.length_map, List.length_map] at ht; exact ht
        have gp := List.getElem?_eq_getElem ht'
        have gx := List.getElem?_eq_getElem (show t < (gRow ns).length by omega)
        have hp := gPos_get gp gx
        have ex : x = .int (((gPos ns)[t] : Nat) : Int) := by
          rw [List.getElem?_map, List.getElem?_map, gp] at hx
          exact (Option.some.inj hx).symm
        subst ex
        refine ⟨rfl, ?_⟩
        refine ⟨_, rfl, _, rfl, n, _, _, _, rfl, rfl, SqL.of (s5 _ _ (s1 _ _ hn)), at_i hp, _, h5, ?_, fun b o w => ?_, ?_⟩
        · rw [List.length_map]
          have := List.length_take_le t (gRow ns)
          exact small1000 (by omega)
        · rw [upd_ne (ne_of_none w hD)]
          exact s5 _ _ w
        · rw [upd_same, List.take_add_one, gx, List.map_append]
          rfl
      · rintro H5 ⟨s5, h5⟩
        rw [List.length_map, List.length_map, gl, List.take_length] at h5
        exact k D H5 (s1.trans s5) (s1.free hD) h5
end
end VL

set_option Elab.async false
set_option linter.all false
set_option maxRecDepth 100000
set_option maxHeartbeats 4000000
namespace VL
open PySem PySem.Spec PyProof.Rows L2
theorem Kq.same {a : Addr} {H0 H H' : Hp} (k : Kq a H H') (s : Same H0 H) (n : H0 a = none) : Same H0 H' := fun b o e => k _ _ (s _ _ e) (ne_of_none e n)
def dI (P : List Int) : List PyData := P.map PyData.int
theorem dp_I {K : PySem.W.Frag} {H : Hp} : ∀ P : List Int, DpAll K H (P.map V.int) (dI P)
  | [] => .nil
  | a :: P => .cons (.int _) (dp_I P)
theorem lay_I : ∀ P : List Int, PyData.canLayAll0 (dI P) = true
  | [] => rfl
  | a :: P => by
    show PyData.canLayAll0 (.int a :: dI P) = true
    simp [PyData.canLayAll0, PyData.canLay0, lay_I P]
theorem dep_I : ∀ P : List Int, PyData.depthAll (dI P) = 0
  | [] => rfl
  | a :: P => by
    show PyData.depthAll (.int a :: dI P) = 0
    simp [PyData.depthAll, PyData.depth, dep_I P]
theorem sh_I (P : List Int) : SeqAt.shaped (.list (dI P)) = true := by
  unfold SeqAt.shaped
  simp [PyData.canLay0, PyData.depth, lay_I, dep_I]
theorem eqv_I (P : List Int) : PyData.eqv (.list (dI P)) (.list (dI P)) = true := by
  refine SeqAt.eqv_refl _ ?_
  have h := sh_I P
  unfold SeqAt.shaped at h
  exact (Bool.and_eq_true_iff.mp h).1
section
variable {P : Program} {w : World} {K : PySem.W.Frag} {mg : Str → Option Value} {base : Heap} {C : Ad}
theorem sc_law : FnScope ["script", "k", "state", "many", "numbers", "j", "number", "kept", "row"] ["script"] (defScope s_law) := ⟨rfl, rfl, rfl, by decide +kernel, rfl, by decide +kernel, by decide +kernel⟩
theorem ok_law {f : Addr} {fd : FuncData} (F : Fun K "law" "law" s_law f fd) (T : Txt K w mg C) : FnOk P w K mg base CX0 5 f fd ["script"] (spLaw K) := by
  have Gbest_row : Cal P w K mg base 3 "best_row" spBest := ok_best T
  have G_law_cell : Cal P w K mg base 1 "_law_cell" (spCellB K) := ok_cell T
  have G_law_start : Cal P w K mg base 1 "_law_start" spStartB := ok_start T
  have G_law_digit : Cal P w K mg base 1 "_law_digit" spDigitB := ok_digit T
  have G_law_right : Cal P w K mg base 2 "_law_right" spRight := ok_right T
  have G_law_all : Cal P w K mg base 2 "_law_all" spAll := ok_all T
  refine F.ok sc_law (fun vs H Q E h => ?_) (fun cdv A outer s H vs Q E hr h => ?_)
  · obtain ⟨a, ns, rfl, _⟩ := h
    rfl
  · obtain ⟨sa, ss, rfl, hS, hlen, k⟩ := h
    refine ⟨_, (pss_cons (ps_for PassesOwn.never rfl (pi_range1 (by rfl) T.z_range (pa_cons (pe_callB (call_min2 rfl) (by rfl) T.z_min (by decide +kernel) (pa_cons pe_int (pa_cons (pe_callB (call_max2 rfl) (by rfl) T.z_max (by decide +kernel) (pa_cons pe_int (pa_cons (pe_callB call_len_seq (by rfl) T.z_len PySem.boot_len (pa_cons (pv 0) pa_nil)) pa_nil))) pa_nil))) pa_nil)) (pg_name (i := 1) sc_law.nd rfl (Or.inl rfl)) (pss_cons (ps_set (i := 2) sc_law.nd rfl (Or.inl rfl) (pe_c G_law_start hr (by decide) (by rfl) (pa_cons (pe_c G_law_cell hr (by decide) (by rfl) (pa_cons (pv 0) (pa_cons (pv 1) pa_nil))) (pa_cons (pv 1) pa_nil)))) (pss_cons (ps_set (i := 3) sc_law.nd rfl (Or.inl rfl) (pe_c G_law_digit hr (by decide) (by rfl) (pa_cons (pv 2) (pa_cons pe_int pa_nil)))) (pss_cons (ps_if (pt_cmpR op_eq (pe_c G_law_digit hr (by decide) (by rfl) (pa_cons (pv 2) (pa_cons pe_int pa_nil))) pe_int (nomark _)) (pss_one (ps_set (i := 3) sc_law.nd rfl (Or.inl rfl) (pe_op op_add pe_int (pe_c G_law_digit hr (by decide) (by rfl) (pa_cons (pv 2) (pa_cons pe_int pa_nil)))))) pss_nil) (pss_cons (ps_set (i := 4) sc_law.nd rfl (Or.inl rfl) (pe_lst pa_nil)) (pss_cons (ps_for PassesOwn.never rfl (pi_range1 (by rfl) T.z_range (pa_cons (pv 3) pa_nil)) (pg_name (i := 5) sc_law.nd rfl (Or.inl rfl)) (pss_cons (ps_set (i := 6) sc_law.nd rfl (Or.inl rfl) (pe_op op_sub (pe_c G_law_digit hr (by decide) (by rfl) (pa_cons (pv 2) (pa_cons pe_int pa_nil))) pe_int)) (pss_cons (ps_if (pt_cmpR op_eq (pe_c G_law_digit hr (by decide) (by rfl) (pa_cons (pv 2) (pa_cons pe_int pa_nil))) pe_int (nomark _)) (pss_one (ps_set (i := 6) sc_law.nd rfl (Or.inl rfl) (pe_op op_add (pv 6) (pe_op op_pow pe_int pe_int)))) pss_nil) (pss_one (ps_if (pt_cmpR op_notIn_seq (pv 6) (pv 4) rfl) (pss_one (ps_expr (pe_bm PySem.F.plainAttrs_list PySem.F.slot_list_append PySem.F.type_list_append mt_append (pv 4) (pa_cons (pv 6) pa_nil)))) pss_nil))))) (pss_cons (ps_setLc (i := 7) (own := [("number", 6)]) (g := gName 6) (tt := tYes) rfl sc_law.nd rfl rfl (sw_true rfl rfl rfl (by decide +kernel)) (pi_list (pv 4)) (blkOk_by (N := ["script", "k", "state", "many", "numbers", "j", "number", "kept", "row"]) (sc := (defScope s_law)) (by decide +kernel)) (fun _ _ _ _ _ => pg_name (i := 6) sc_law.nd rfl (Or.inl rfl)) (fun _ _ _ _ _ => pts_nil) (fun _ _ _ _ _ => (pv 6))) (pss_cons (ps_set (i := 8) sc_law.nd rfl (Or.inl rfl) (pe_c Gbest_row hr (by decide) (by rfl) (pa_cons (pv 4) pa_nil))) (pss_cons (ps_if (PW.pt (pw_or (pt_not (pt_val (pe_callB call_isi (by rfl) T.z_isinstance (by decide +kernel) (pa_cons (pv 8) (pa_cons (pe_bltn (v := .ty "list") (by rfl) T.z_list (by decide +kernel) rfl) pa_nil))))) (pw_or (pt_not (pt_val (pe_c G_law_right hr (by decide) (by rfl) (pa_cons (pv 4) (pa_cons (pv 8) pa_nil))))) (pw_or1 (pt_cmpR (op_neD hr.units) (pv 4) (pv 7) (nomark _)))))) (pss_one (ps_ret pe_bl)) pss_nil) (pss_one (ps_if (PW.pt (pw_and (pt_cmpR op_lt (pe_callB call_len_seq (by rfl) T.z_len PySem.boot_len (pa_cons (pv 4) pa_nil)) pe_int (nomark _)) (pw_and1 (pt_cmpR (op_neD hr.units) (pv 8) (pe_c G_law_all hr (by decide) (by rfl) (pa_cons (pv 4) pa_nil)) (nomark _))))) (pss_one (ps_ret pe_bl)) pss_nil))))))))))) (pss_one (ps_ret pe_bl))), ?_⟩
    refine ⟨_, rfl, sa, _, rfl, .inl hS, ?_⟩
    refine ⟨1, _, rfl, 16, _, rfl, ?_⟩
    generalize hT : (if (if ((ss.map V.int).length : Int) > 1 then ((ss.map V.int).length : Int) else 1) < 16 then (if ((ss.map V.int).length : Int) > 1 then ((ss.map V.int).length : Int) else 1) else 16) = tt
    have ht60 : tt ≤ 16 := by
      rw [← hT]
      split <;> omega
    have ht0 : 0 ≤ tt := by
      rw [← hT]
      split
      · split <;> omega
      · omega
    refine ⟨tt, rfl, by omega, by omega, ?_⟩
    refine for_range (lo := 0) (n := tt.toNat) (fun i σ H' => Same H H' ∧ ∃ y1 y2 y3 y4 y5 y6 y7 y8, σ = [some (.ref sa), y1, y2, y3, y4, y5, y6, y7, y8]) ⟨fun _ _ e => e, none, none, none, none, none, none, none, none, rfl⟩ ?_ ?_
    · rintro i σ H1 hi ⟨s1, y1, y2, y3, y4, y5, y6, y7, y8, rfl⟩
      refine ⟨_, rfl, _, rfl, sa, ss, _, rfl, s1.seq hS, by omega, fun zc => ?_⟩
      refine ⟨_, rfl, zc, _, rfl, fun q H2 nq sm Sq => ?_⟩
      have nqH : H q = none := s1.free nq
      have s2 := s1.trans sm
      refine ⟨_, rfl, q, 8, rfl, Sq, by decide, by decide, fun m1 H3 S3 k3 g1 l1 => ?_⟩
      have s3 := k3.same s2 nqH
      refine ⟨_, rfl, q, 4, rfl, S3, by decide, by decide, fun m2 H4 S4 k4 g2 l2 => ?_⟩
      have s4 := k4.same s3 nqH
      refine ⟨rfl, _, rfl, ?_⟩
      refine ite2 (fun _ => ?_) (fun _ => ?_)
      · refine ⟨_, rfl, q, 30, rfl, S4, by decide, by decide, fun m3 H5 S5 k5 g3 l3 => ?_⟩
        have s5 := k5.same s4 nqH
        refine ⟨_, _, rfl, rfl, ?_⟩
        refine ⟨by show 0 ≤ sizeLine; decide, fun nn hnn => ?_⟩
        have nnH : H nn = none := s5.free hnn
        have qn : q ≠ nn := by
          obtain ⟨z, hz⟩ := S5
          exact ne_of_none hz hnn
        refine ⟨_, rfl, 10 + m3, rfl, by omega, by omega, ?_⟩
        refine for_range (lo := 0) (n := (10 + m3).toNat) (fun j σ H' => ∃ N : List Int, Same H H' ∧ StB H' q ∧ H' nn = some (.lst (N.map V.int)) ∧ N.Nodup ∧ N.length ≤ j ∧ ∃ z5 z6 z7 z8, σ = [some (.ref sa), some (.int (0 + (i : Int))), some (.ref q), some (.int (10 + m3)), some (.ref nn), z5, z6, z7, z8])
          ⟨[], s5.trans (Sm.new hnn), (by
            obtain ⟨z, hz⟩ := S5
            exact ⟨z, by rw [upd_ne qn]; exact hz⟩), upd_same, List.nodup_nil, Nat.le_refl _, _, _, _, _, rfl⟩ ?_ ?_
        · rintro j σ H6 hj ⟨N, s6, S6, h6, nd, hNl, z5, z6, z7, z8, rfl⟩
          refine ⟨_, rfl, q, 99, rfl, S6, by decide, by decide, fun r1 H7 S7 k7 _ _ => ?_⟩
          have s7 := k7.same s6 nqH
          have h7 := k7 _ _ h6 qn.symm
          refine ⟨_, _, rfl, rfl, ?_⟩
          refine ⟨_, rfl, q, 5, rfl, S7, by decide, by decide, fun r2 H8 S8 k8 _ _ => ?_⟩
          have s8 := k8.same s7 nqH
          have h8 := k8 _ _ h7 qn.symm
          refine ⟨rfl, _, rfl, ?_⟩
          refine ite2 (fun _ => ?_) (fun _ => ?_)
          · refine ⟨_, rfl, _, _, rfl, rfl, ⟨by decide, by decide, by decide⟩, _, _, rfl, rfl, ?_⟩
            refine ⟨_, rfl, _, rfl, nn, _, rfl, .inl (SqL.of h8), rfl, flat_j _, _, rfl, ?_⟩
            have e0 : ∀ v : Int, (if true = true then !inV (.int v) (N.map V.int) else inV (.int v) (N.map V.int)) = !decide (v ∈ N) := fun v => by
              rw [if_pos rfl, inV_j]
            refine ite2 (fun w => ?_) (fun w => ?_)
            · have w2 := (e0 _).symm.trans w
              refine ⟨_, rfl, .inl ⟨rfl, _, SqL.of h8⟩, _, rfl, nn, _, _, rfl, rfl, h8, (by rw [List.length_map]; exact small1000 (by omega)), ?_⟩
              refine ⟨N ++ [_], fun b o z => by rw [upd_ne (ne_of_none z nnH)]; exact s8 _ _ z, ?_, by rw [upd_same, List.map_append]; rfl, ?_, by rw [List.length_append]; exact Nat.succ_le_succ hNl, _, _, _, _, rfl⟩
              · obtain ⟨z, hz⟩ := S8
                refine ⟨z, ?_⟩
                rw [upd_ne qn]
                exact hz
              · refine List.nodup_append.mpr ⟨nd, by simp, fun x hx y hy e => ?_⟩
                rw [List.mem_singleton.mp hy] at e
                rw [e] at hx
                rw [decide_eq_true hx] at w2
                cases w2
            · exact ⟨N, s8, S8, h8, nd, Nat.le_succ_of_le hNl, _, _, _, _, rfl⟩
          · skip
            refine ⟨_, rfl, _, rfl, nn, _, rfl, .inl (SqL.of h8), rfl, flat_j _, _, rfl, ?_⟩
            have e0 : ∀ v : Int, (if true = true then !inV (.int v) (N.map V.int) else inV (.int v) (N.map V.int)) = !decide (v ∈ N) := fun v => by
              rw [if_pos rfl, inV_j]
            refine ite2 (fun w => ?_) (fun w => ?_)
            · have w2 := (e0 _).symm.trans w
              refine ⟨_, rfl, .inl ⟨rfl, _, SqL.of h8⟩, _, rfl, nn, _, _, rfl, rfl, h8, (by rw [List.length_map]; exact small1000 (by omega)), ?_⟩
              refine ⟨N ++ [_], fun b o z => by rw [upd_ne (ne_of_none z nnH)]; exact s8 _ _ z, ?_, by rw [upd_same, List.map_append]; rfl, ?_, by rw [List.length_append]; exact Nat.succ_le_succ hNl, _, _, _, _, rfl⟩
              · obtain ⟨z, hz⟩ := S8
                refine ⟨z, ?_⟩
                rw [upd_ne qn]
                exact hz
              · refine List.nodup_append.mpr ⟨nd, by simp, fun x hx y hy e => ?_⟩
                rw [List.mem_singleton.mp hy] at e
                rw [e] at hx
                rw [decide_eq_true hx] at w2
                cases w2
            · exact ⟨N, s8, S8, h8, nd, Nat.le_succ_of_le hNl, _, _, _, _, rfl⟩
        · rintro σ H6 ⟨N, s6, S6, h6, nd, hNl, z5, z6, z7, z8, rfl⟩
          have hN40 : N.length ≤ 40 := by omega
          refine ⟨_, rfl, nn, rfl, ⟨_, SqL.of h6⟩, fun kp hkp => ?_⟩
          refine lc_it (walk_list (K := K) (a := nn) (xs := N.map V.int)) (fun t H' => Same H6 H' ∧ H' kp = some (.lst ((N.take t).map V.int))) ⟨Sm.new hkp, upd_same⟩ (fun t H' _ z => SqL.of (z.1 _ _ h6)) ?_ ?_
          · rintro t x H7 H8 ht ⟨s7, h7⟩ ⟨rfl, hx⟩
            have ht' : t < N.length := by rw [List.length_map] at ht; exact ht
            have ex : x = .int N[t] := by
              rw [List.getElem?_map, List.getElem?_eq_getElem ht'] at hx
              exact (Option.some.inj hx).symm
            subst ex
            refine ⟨rfl, ?_⟩
            refine ⟨_, rfl, _, h7, ?_, fun b o w => ?_, ?_⟩
            · rw [List.length_map]
              have := List.length_take_le t N
              exact small1000 (by omega)
            · rw [upd_ne (ne_of_none w hkp)]
              exact s7 _ _ w
            · rw [upd_same, List.take_add_one, List.getElem?_eq_getElem ht', List.map_append]
              rfl
          · rintro H7 ⟨s7, h7⟩
            rw [List.length_map, List.take_length] at h7
            refine ⟨_, rfl, nn, N, rfl, s7 _ _ h6, by omega, fun r H8 s8 nr h8 => ?_⟩
            have n8 := s8 _ _ (s7 _ _ h6)
            refine ⟨_, rfl, .ref r, .ty "list", _, _, true, rfl, .ty _, .base (.lst h8), kit_ty (by decide +kernel), true, rfl, ?_⟩
            refine ite2 (fun z => absurd z (by decide)) (fun _ => ?_)
            refine ⟨_, rfl, _, rfl, nn, r, N, rfl, n8, h8, nd, by omega, fun H9 s9 => ⟨true, rfl, ?_⟩⟩
            refine ite2 (fun z => absurd z (by decide)) (fun _ => ?_)
            have n9 := s9 _ _ n8
            have r9 := s9 _ _ h8
            refine ⟨_, rfl, _, rfl, _, _, .lst (SqL.of n9) (dp_I N), .lst (SqL.of (s9 _ _ (s8 _ _ h7))) (dp_I N), sh_I N, sh_I N, _, rfl, ?_⟩
            rw [eqv_I]
            refine ite2 (fun z => absurd z (by decide)) (fun _ => ?_)
            have sF : Same H H9 := ((s6.trans s7).trans s8).trans s9
            refine ⟨_, rfl, nn, _, rfl, .inl (SqL.of n9), _, _, rfl, rfl, _, rfl, ?_⟩
            refine ite2 (fun z => ?_) (fun _ => ?_)
            · have hl8 : N.length < 8 := by
                have := of_decide_eq_true z
                rw [List.length_map] at this
                omega
              refine ⟨_, rfl, _, rfl, nn, N, rfl, n9, nd, hl8, fun l H10 s10 nl h10 => ?_⟩
              refine ⟨_, _, .lst (SqL.of (s10 _ _ r9)) (dp_I (gRow N)), .lst (SqL.of h10) (dp_I (gRow N)), sh_I _, sh_I _, _, rfl, ?_⟩
              rw [eqv_I]
              refine ite2 (fun z => absurd z (by decide)) (fun _ => ?_)
              exact ⟨sF.trans s10, _, _, _, _, _, _, _, _, rfl⟩
            · refine iteF ?_
              exact ⟨sF, _, _, _, _, _, _, _, _, rfl⟩
      · skip
        refine ⟨by show 0 ≤ sizeLine; decide, fun nn hnn => ?_⟩
        have nnH : H nn = none := s4.free hnn
        have qn : q ≠ nn := by
          obtain ⟨z, hz⟩ := S4
          exact ne_of_none hz hnn
        refine ⟨_, rfl, m1, rfl, by omega, by omega, ?_⟩
        refine for_range (lo := 0) (n := (m1).toNat) (fun j σ H' => ∃ N : List Int, Same H H' ∧ StB H' q ∧ H' nn = some (.lst (N.map V.int)) ∧ N.Nodup ∧ N.length ≤ j ∧ ∃ z5 z6 z7 z8, σ = [some (.ref sa), some (.int (0 + (i : Int))), some (.ref q), some (.int (m1)), some (.ref nn), z5, z6, z7, z8])
          ⟨[], s4.trans (Sm.new hnn), (by
            obtain ⟨z, hz⟩ := S4
            exact ⟨z, by rw [upd_ne qn]; exact hz⟩), upd_same, List.nodup_nil, Nat.le_refl _, _, _, _, _, rfl⟩ ?_ ?_
        · rintro j σ H6 hj ⟨N, s6, S6, h6, nd, hNl, z5, z6, z7, z8, rfl⟩
          refine ⟨_, rfl, q, 99, rfl, S6, by decide, by decide, fun r1 H7 S7 k7 _ _ => ?_⟩
          have s7 := k7.same s6 nqH
          have h7 := k7 _ _ h6 qn.symm
          refine ⟨_, _, rfl, rfl, ?_⟩
          refine ⟨_, rfl, q, 5, rfl, S7, by decide, by decide, fun r2 H8 S8 k8 _ _ => ?_⟩
          have s8 := k8.same s7 nqH
          have h8 := k8 _ _ h7 qn.symm
          refine ⟨rfl, _, rfl, ?_⟩
          refine ite2 (fun _ => ?_) (fun _ => ?_)
          · refine ⟨_, rfl, _, _, rfl, rfl, ⟨by decide, by decide, by decide⟩, _, _, rfl, rfl, ?_⟩
            refine ⟨_, rfl, _, rfl, nn, _, rfl, .inl (SqL.of h8), rfl, flat_j _, _, rfl, ?_⟩
            have e0 : ∀ v : Int, (if true = true then !inV (.int v) (N.map V.int) else inV (.int v) (N.map V.int)) = !decide (v ∈ N) := fun v => by
              rw [if_pos rfl, inV_j]
            refine ite2 (fun w => ?_) (fun w => ?_)
            · have w2 := (e0 _).symm.trans w
              refine ⟨_, rfl, .inl ⟨rfl, _, SqL.of h8⟩, _, rfl, nn, _, _, rfl, rfl, h8, (by rw [List.length_map]; exact small1000 (by omega)), ?_⟩
              refine ⟨N ++ [_], fun b o z => by rw [upd_ne (ne_of_none z nnH)]; exact s8 _ _ z, ?_, by rw [upd_same, List.map_append]; rfl, ?_, by rw [List.length_append]; exact Nat.succ_le_succ hNl, _, _, _, _, rfl⟩
              · obtain ⟨z, hz⟩ := S8
                refine ⟨z, ?_⟩
                rw [upd_ne qn]
                exact hz
              · refine List.nodup_append.mpr ⟨nd, by simp, fun x hx y hy e => ?_⟩
                rw [List.mem_singleton.mp hy] at e
                rw [e] at hx
                rw [decide_eq_true hx] at w2
                cases w2
            · exact ⟨N, s8, S8, h8, nd, Nat.le_succ_of_le hNl, _, _, _, _, rfl⟩
          · skip
            refine ⟨_, rfl, _, rfl, nn, _, rfl, .inl (SqL.of h8), rfl, flat_j _, _, rfl, ?_⟩
            have e0 : ∀ v : Int, (if true = true then !inV (.int v) (N.map V.int) else inV (.int v) (N.map V.int)) = !decide (v ∈ N) := fun v => by
              rw [if_pos rfl, inV_j]
            refine ite2 (fun w => ?_) (fun w => ?_)
            · have w2 := (e0 _).symm.trans w
              refine ⟨_, rfl, .inl ⟨rfl, _, SqL.of h8⟩, _, rfl, nn, _, _, rfl, rfl, h8, (by rw [List.length_map]; exact small1000 (by omega)), ?_⟩
              refine ⟨N ++ [_], fun b o z => by rw [upd_ne (ne_of_none z nnH)]; exact s8 _ _ z, ?_, by rw [upd_same, List.map_append]; rfl, ?_, by rw [List.length_append]; exact Nat.succ_le_succ hNl, _, _, _, _, rfl⟩
              · obtain ⟨z, hz⟩ := S8
                refine ⟨z, ?_⟩
                rw [upd_ne qn]
                exact hz
              · refine List.nodup_append.mpr ⟨nd, by simp, fun x hx y hy e => ?_⟩
                rw [List.mem_singleton.mp hy] at e
                rw [e] at hx
                rw [decide_eq_true hx] at w2
                cases w2
            · exact ⟨N, s8, S8, h8, nd, Nat.le_succ_of_le hNl, _, _, _, _, rfl⟩
        · rintro σ H6 ⟨N, s6, S6, h6, nd, hNl, z5, z6, z7, z8, rfl⟩
          have hN40 : N.length ≤ 40 := by omega
          refine ⟨_, rfl, nn, rfl, ⟨_, SqL.of h6⟩, fun kp hkp => ?_⟩
          refine lc_it (walk_list (K := K) (a := nn) (xs := N.map V.int)) (fun t H' => Same H6 H' ∧ H' kp = some (.lst ((N.take t).map V.int))) ⟨Sm.new hkp, upd_same⟩ (fun t H' _ z => SqL.of (z.1 _ _ h6)) ?_ ?_
          · rintro t x H7 H8 ht ⟨s7, h7⟩ ⟨rfl, hx⟩
            have ht' : t < N.length := by rw [List.length_map] at ht; exact ht
            have ex : x = .int N[t] := by
              rw [List.getElem?_map, List.getElem?_eq_getElem ht'] at hx
              exact (Option.some.inj hx).symm
            subst ex
            refine ⟨rfl, ?_⟩
            refine ⟨_, rfl, _, h7, ?_, fun b o w => ?_, ?_⟩
            · rw [List.length_map]
              have := List.length_take_le t N
              exact small1000 (by omega)
            · rw [upd_ne (ne_of_none w hkp)]
              exact s7 _ _ w
            · rw [upd_same, List.take_add_one, List.getElem?_eq_getElem ht', List.map_append]
              rfl
          · rintro H7 ⟨s7, h7⟩
            rw [List.length_map, List.take_length] at h7
            refine ⟨_, rfl, nn, N, rfl, s7 _ _ h6, by omega, fun r H8 s8 nr h8 => ?_⟩
            have n8 := s8 _ _ (s7 _ _ h6)
            refine ⟨_, rfl, .ref r, .ty "list", _, _, true, rfl, .ty _, .base (.lst h8), kit_ty (by decide +kernel), true, rfl, ?_⟩
            refine ite2 (fun z => absurd z (by decide)) (fun _ => ?_)
            refine ⟨_, rfl, _, rfl, nn, r, N, rfl, n8, h8, nd, by omega, fun H9 s9 => ⟨true, rfl, ?_⟩⟩
            refine ite2 (fun z => absurd z (by decide)) (fun _ => ?_)
            have n9 := s9 _ _ n8
            have r9 := s9 _ _ h8
            refine ⟨_, rfl, _, rfl, _, _, .lst (SqL.of n9) (dp_I N), .lst (SqL.of (s9 _ _ (s8 _ _ h7))) (dp_I N), sh_I N, sh_I N, _, rfl, ?_⟩
            rw [eqv_I]
            refine ite2 (fun z => absurd z (by decide)) (fun _ => ?_)
            have sF : Same H H9 := ((s6.trans s7).trans s8).trans s9
            refine ⟨_, rfl, nn, _, rfl, .inl (SqL.of n9), _, _, rfl, rfl, _, rfl, ?_⟩
            refine ite2 (fun z => ?_) (fun _ => ?_)
            · have hl8 : N.length < 8 := by
                have := of_decide_eq_true z
                rw [List.length_map] at this
                omega
              refine ⟨_, rfl, _, rfl, nn, N, rfl, n9, nd, hl8, fun l H10 s10 nl h10 => ?_⟩
              refine ⟨_, _, .lst (SqL.of (s10 _ _ r9)) (dp_I (gRow N)), .lst (SqL.of h10) (dp_I (gRow N)), sh_I _, sh_I _, _, rfl, ?_⟩
              rw [eqv_I]
              refine ite2 (fun z => absurd z (by decide)) (fun _ => ?_)
              exact ⟨sF.trans s10, _, _, _, _, _, _, _, _, rfl⟩
            · refine iteF ?_
              exact ⟨sF, _, _, _, _, _, _, _, _, rfl⟩
    · rintro σ H1 ⟨s1, y1, y2, y3, y4, y5, y6, y7, y8, rfl⟩
      exact k H1
end
end VL

set_option Elab.async false
set_option linter.all false
set_option maxRecDepth 100000
set_option maxHeartbeats 4000000
namespace VL
open PySem PySem.Spec PyProof.Rows L2
theorem all_mk {l : PySem.W.OpenLaw} {w : World} {K : PySem.W.Frag} {h : Heap} {mg : Str → Option Value} {fa f1 f2 f3 f4 f5 f6 f7 f8 f9 f10 f11 : Addr} (X : K.In h) (G : h.Ns mainGlobals mg) (hfa : mg "law" = some (.ref fa))
    {od1 an1 od2 an2 od3 an3 od4 an4 od5 an5 od6 an6 od7 an7 od8 an8 od9 an9 od10 an10 od11 an11 : Option Addr} {sl1 sl2 sl3 sl4 sl5 sl6 sl7 sl8 sl9 sl10 sl11 : Array (Option Value)} {oc1 kV1 dc1 pm1 cd1 ct1 oc2 kV2 dc2 pm2 cd2 ct2 oc3 kV3 dc3 pm3 cd3 ct3 oc4 kV4 dc4 pm4 cd4 ct4 oc5 kV5 dc5 pm5 cd5 ct5 oc6 kV6 dc6 pm6 cd6 ct6 oc7 kV7 dc7 pm7 cd7 ct7 oc8 kV8 dc8 pm8 cd8 ct8 oc9 kV9 dc9 pm9 cd9 ct9 oc10 kV10 dc10 pm10 cd10 ct10 oc11 kV11 dc11 pm11 cd11 ct11 : Value} 
    (z_abs : PySem.W.nsIn K mainGlobals "abs" = some none)
    (z_int : PySem.W.nsIn K mainGlobals "int" = some none)
    (z_isinstance : PySem.W.nsIn K mainGlobals "isinstance" = some none)
    (z_len : PySem.W.nsIn K mainGlobals "len" = some none)
    (z_list : PySem.W.nsIn K mainGlobals "list" = some none)
    (z_max : PySem.W.nsIn K mainGlobals "max" = some none)
    (z_min : PySem.W.nsIn K mainGlobals "min" = some none)
    (z_range : PySem.W.nsIn K mainGlobals "range" = some none)
    (z_reversed : PySem.W.nsIn K mainGlobals "reversed" = some none)
    (z_zip : PySem.W.nsIn K mainGlobals "zip" = some none)
    (a1 : PySem.W.nsIn K mainGlobals "best_row" = some (some (.ref f1)))
    (l1 : K.lookup f1 = some ⟨oc1, od1, .func (PySem.W.fnOf "best_row" "best_row" (defArgs s_best_row) (defBody s_best_row) (defScope s_best_row) .none kV1 dc1 pm1 an1 cd1 ct1), sl1⟩)
    (c1 : PySem.W.codeIn K cd1 "best_row" = true)
    (k1 : PySem.W.keepIn K (.ref f1) = true)
    (a2 : PySem.W.nsIn K mainGlobals "lengths_from" = some (some (.ref f2)))
    (l2 : K.lookup f2 = some ⟨oc2, od2, .func (PySem.W.fnOf "lengths_from" "lengths_from" (defArgs s_lengths_from) (defBody s_lengths_from) (defScope s_lengths_from) .none kV2 dc2 pm2 an2 cd2 ct2), sl2⟩)
    (c2 : PySem.W.codeIn K cd2 "lengths_from" = true)
    (k2 : PySem.W.keepIn K (.ref f2) = true)
    (a3 : PySem.W.nsIn K mainGlobals "count_above" = some (some (.ref f3)))
    (l3 : K.lookup f3 = some ⟨oc3, od3, .func (PySem.W.fnOf "count_above" "count_above" (defArgs s_count_above) (defBody s_count_above) (defScope s_count_above) .none kV3 dc3 pm3 an3 cd3 ct3), sl3⟩)
    (c3 : PySem.W.codeIn K cd3 "count_above" = true)
    (k3 : PySem.W.keepIn K (.ref f3) = true)
    (a4 : PySem.W.nsIn K mainGlobals "_law_cell" = some (some (.ref f4)))
    (l4 : K.lookup f4 = some ⟨oc4, od4, .func (PySem.W.fnOf "_law_cell" "_law_cell" (defArgs s__law_cell) (defBody s__law_cell) (defScope s__law_cell) .none kV4 dc4 pm4 an4 cd4 ct4), sl4⟩)
    (c4 : PySem.W.codeIn K cd4 "_law_cell" = true)
    (k4 : PySem.W.keepIn K (.ref f4) = true)
    (a5 : PySem.W.nsIn K mainGlobals "_law_start" = some (some (.ref f5)))
    (l5 : K.lookup f5 = some ⟨oc5, od5, .func (PySem.W.fnOf "_law_start" "_law_start" (defArgs s__law_start) (defBody s__law_start) (defScope s__law_start) .none kV5 dc5 pm5 an5 cd5 ct5), sl5⟩)
    (c5 : PySem.W.codeIn K cd5 "_law_start" = true)
    (k5 : PySem.W.keepIn K (.ref f5) = true)
    (a6 : PySem.W.nsIn K mainGlobals "_law_digit" = some (some (.ref f6)))
    (l6 : K.lookup f6 = some ⟨oc6, od6, .func (PySem.W.fnOf "_law_digit" "_law_digit" (defArgs s__law_digit) (defBody s__law_digit) (defScope s__law_digit) .none kV6 dc6 pm6 an6 cd6 ct6), sl6⟩)
    (c6 : PySem.W.codeIn K cd6 "_law_digit" = true)
    (k6 : PySem.W.keepIn K (.ref f6) = true)
    (a7 : PySem.W.nsIn K mainGlobals "_law_lengths" = some (some (.ref f7)))
    (l7 : K.lookup f7 = some ⟨oc7, od7, .func (PySem.W.fnOf "_law_lengths" "_law_lengths" (defArgs s__law_lengths) (defBody s__law_lengths) (defScope s__law_lengths) .none kV7 dc7 pm7 an7 cd7 ct7), sl7⟩)
    (c7 : PySem.W.codeIn K cd7 "_law_lengths" = true)
    (k7 : PySem.W.keepIn K (.ref f7) = true)
    (a8 : PySem.W.nsIn K mainGlobals "_law_rises" = some (some (.ref f8)))
    (l8 : K.lookup f8 = some ⟨oc8, od8, .func (PySem.W.fnOf "_law_rises" "_law_rises" (defArgs s__law_rises) (defBody s__law_rises) (defScope s__law_rises) .none kV8 dc8 pm8 an8 cd8 ct8), sl8⟩)
    (c8 : PySem.W.codeIn K cd8 "_law_rises" = true)
    (k8 : PySem.W.keepIn K (.ref f8) = true)
    (a9 : PySem.W.nsIn K mainGlobals "_law_all" = some (some (.ref f9)))
    (l9 : K.lookup f9 = some ⟨oc9, od9, .func (PySem.W.fnOf "_law_all" "_law_all" (defArgs s__law_all) (defBody s__law_all) (defScope s__law_all) .none kV9 dc9 pm9 an9 cd9 ct9), sl9⟩)
    (c9 : PySem.W.codeIn K cd9 "_law_all" = true)
    (k9 : PySem.W.keepIn K (.ref f9) = true)
    (a10 : PySem.W.nsIn K mainGlobals "_law_right" = some (some (.ref f10)))
    (l10 : K.lookup f10 = some ⟨oc10, od10, .func (PySem.W.fnOf "_law_right" "_law_right" (defArgs s__law_right) (defBody s__law_right) (defScope s__law_right) .none kV10 dc10 pm10 an10 cd10 ct10), sl10⟩)
    (c10 : PySem.W.codeIn K cd10 "_law_right" = true)
    (k10 : PySem.W.keepIn K (.ref f10) = true)
    (a11 : PySem.W.nsIn K mainGlobals "law" = some (some (.ref f11)))
    (l11 : K.lookup f11 = some ⟨oc11, od11, .func (PySem.W.fnOf "law" "law" (defArgs s_law) (defBody s_law) (defScope s_law) .none kV11 dc11 pm11 an11 cd11 ct11), sl11⟩)
    (c11 : PySem.W.codeIn K cd11 "law" = true)
    (k11 : PySem.W.keepIn K (.ref f11) = true)
    : ∃ fd : FuncData, (∀ (s : Shared) (v : Value), BindsTo s fd ⟨[v], []⟩ [("script", v)]) ∧ ∀ base : Heap, K.In base → base.Ns mainGlobals mg → FnOk l.prog w K mg base CX0 5 fa fd ["script"] (spLaw K) := by
  have e := hfa.symm.trans (PySem.W.mg_of X G a11)
  cases e
  have F1 := fun_mk (st := s_best_row) l1 c1 k1
  have b1 := F1.binds (ps := ["numbers"]) fun _ _ _ _ _ _ us hl => match us, hl with | [_], _ => rfl
  have F2 := fun_mk (st := s_lengths_from) l2 c2 k2
  have b2 := F2.binds (ps := ["numbers"]) fun _ _ _ _ _ _ us hl => match us, hl with | [_], _ => rfl
  have F3 := fun_mk (st := s_count_above) l3 c3 k3
  have b3 := F3.binds (ps := ["firsts", "number"]) fun _ _ _ _ _ _ us hl => match us, hl with | [_, _], _ => rfl
  have F4 := fun_mk (st := s__law_cell) l4 c4 k4
  have b4 := F4.binds (ps := ["script", "k"]) fun _ _ _ _ _ _ us hl => match us, hl with | [_, _], _ => rfl
  have F5 := fun_mk (st := s__law_start) l5 c5 k5
  have b5 := F5.binds (ps := ["cell", "k"]) fun _ _ _ _ _ _ us hl => match us, hl with | [_, _], _ => rfl
  have F6 := fun_mk (st := s__law_digit) l6 c6 k6
  have b6 := F6.binds (ps := ["state", "many"]) fun _ _ _ _ _ _ us hl => match us, hl with | [_, _], _ => rfl
  have F7 := fun_mk (st := s__law_lengths) l7 c7 k7
  have b7 := F7.binds (ps := ["numbers"]) fun _ _ _ _ _ _ us hl => match us, hl with | [_], _ => rfl
  have F8 := fun_mk (st := s__law_rises) l8 c8 k8
  have b8 := F8.binds (ps := ["row"]) fun _ _ _ _ _ _ us hl => match us, hl with | [_], _ => rfl
  have F9 := fun_mk (st := s__law_all) l9 c9 k9
  have b9 := F9.binds (ps := ["numbers"]) fun _ _ _ _ _ _ us hl => match us, hl with | [_], _ => rfl
  have F10 := fun_mk (st := s__law_right) l10 c10 k10
  have b10 := F10.binds (ps := ["numbers", "row"]) fun _ _ _ _ _ _ us hl => match us, hl with | [_, _], _ => rfl
  have T : Txt K w mg ⟨()⟩ := {
    z_abs := PySem.W.mg_none_of X G z_abs,
    z_int := PySem.W.mg_none_of X G z_int,
    z_isinstance := PySem.W.mg_none_of X G z_isinstance,
    z_len := PySem.W.mg_none_of X G z_len,
    z_list := PySem.W.mg_none_of X G z_list,
    z_max := PySem.W.mg_none_of X G z_max,
    z_min := PySem.W.mg_none_of X G z_min,
    z_range := PySem.W.mg_none_of X G z_range,
    z_reversed := PySem.W.mg_none_of X G z_reversed,
    z_zip := PySem.W.mg_none_of X G z_zip,
    d_best_row := ⟨_, _, F1, PySem.W.mg_of X G a1, b1⟩,
    d_lengths_from := ⟨_, _, F2, PySem.W.mg_of X G a2, b2⟩,
    d_count_above := ⟨_, _, F3, PySem.W.mg_of X G a3, b3⟩,
    d__law_cell := ⟨_, _, F4, PySem.W.mg_of X G a4, b4⟩,
    d__law_start := ⟨_, _, F5, PySem.W.mg_of X G a5, b5⟩,
    d__law_digit := ⟨_, _, F6, PySem.W.mg_of X G a6, b6⟩,
    d__law_lengths := ⟨_, _, F7, PySem.W.mg_of X G a7, b7⟩,
    d__law_rises := ⟨_, _, F8, PySem.W.mg_of X G a8, b8⟩,
    d__law_all := ⟨_, _, F9, PySem.W.mg_of X G a9, b9⟩,
    d__law_right := ⟨_, _, F10, PySem.W.mg_of X G a10, b10⟩ }
  exact ⟨_, fun s v => .of_eq rfl, fun base _ _ => ok_law (fun_mk (st := s_law) l11 c11 k11) T⟩
theorem walk {l : PySem.W.OpenLaw} {q : Program} {loose : List Str} {XP : (Str → Option Value) → Heap → Prop} {YP : World → Heap → Prop} {d : DefRec} {K : Params → PySem.W.Frag} (hn : l.most = some 63) (hdf : d.params.defaults = [])
    (hY : ∀ (w : World) (h : Heap), YP w h → (K w.params).In h)
    (F : ∀ (w : World) (mg : Str → Option Value) (fa : Addr) (h : Heap), (K w.params).In h → h.Ns mainGlobals mg → mg d.name = some (.ref fa) →
      ∃ fd : FuncData, (∀ (s : Shared) (u : Value), BindsTo s fd ⟨[u], []⟩ [("script", u)]) ∧ ∀ base : Heap, (K w.params).In base → base.Ns mainGlobals mg → FnOk l.prog w (K w.params) mg base CX0 5 fa fd ["script"] (spLaw (K w.params))) :
    PySem.W.WalkO q loose XP YP l.row.toRowW d [] (fun f vs => PySem.call f vs) :=
  L2.walk_of (n := 63) (k := 5) (x := "script") (CX := fun _ => CX0) (sp := fun w => spLaw (K w.params)) hn (by decide) hdf ⟨rfl, by decide, by decide⟩ hY F (fun _ _ a ns hl _ hS => ⟨a, ns, rfl, hS, hl, fun _ => rfl⟩) fun _ _ _ _ _ z => z
end VL

open PySem PySem.W PyProof.Rows in
set_option maxRecDepth 100000 in
set_option maxHeartbeats 0 in
theorem PySem.Challenge.cw_viewloom_k30_best_rising_rows_holds : PySem.Challenge.rw_viewloom_k30_best_rising_rows.Holds := by
  w_on; o_law; k_head; (case hw => w_witness2)
  k_fill
  refine VL.walk (l := PySem.Challenge.rw_viewloom_k30_best_rising_rows) rfl rfl (fun w h Y => PySem.W.kIn_of Y) ?F
  case F =>
    intro w mg fa h KX G hmg
    refine' VL.all_mk KX G hmg ?z_abs ?z_int ?z_isinstance ?z_len ?z_list ?z_max ?z_min ?z_range ?z_reversed ?z_zip ?a1 ?l1 ?c1 ?k1 ?a2 ?l2 ?c2 ?k2 ?a3 ?l3 ?c3 ?k3 ?a4 ?l4 ?c4 ?k4 ?a5 ?l5 ?c5 ?k5 ?a6 ?l6 ?c6 ?k6 ?a7 ?l7 ?c7 ?k7 ?a8 ?l8 ?c8 ?k8 ?a9 ?l9 ?c9 ?k9 ?a10 ?l10 ?c10 ?k10 ?a11 ?l11 ?c11 ?k11
    (case z_abs => k_is)
    (case z_int => k_is)
    (case z_isinstance => k_is)
    (case z_len => k_is)
    (case z_list => k_is)
    (case z_max => k_is)
    (case z_min => k_is)
    (case z_range => k_is)
    (case z_reversed => k_is)
    (case z_zip => k_is)
    (case a1 => k_is)
    (case l1 => k_is)
    (case c1 => k_is)
    (case k1 => k_is)
    (case a2 => k_is)
    (case l2 => k_is)
    (case c2 => k_is)
    (case k2 => k_is)
    (case a3 => k_is)
    (case l3 => k_is)
    (case c3 => k_is)
    (case k3 => k_is)
    (case a4 => k_is)
    (case l4 => k_is)
    (case c4 => k_is)
    (case k4 => k_is)
    (case a5 => k_is)
    (case l5 => k_is)
    (case c5 => k_is)
    (case k5 => k_is)
    (case a6 => k_is)
    (case l6 => k_is)
    (case c6 => k_is)
    (case k6 => k_is)
    (case a7 => k_is)
    (case l7 => k_is)
    (case c7 => k_is)
    (case k7 => k_is)
    (case a8 => k_is)
    (case l8 => k_is)
    (case c8 => k_is)
    (case k8 => k_is)
    (case a9 => k_is)
    (case l9 => k_is)
    (case c9 => k_is)
    (case k9 => k_is)
    (case a10 => k_is)
    (case l10 => k_is)
    (case c10 => k_is)
    (case k10 => k_is)
    (case a11 => k_is)
    (case l11 => k_is)
    (case c11 => k_is)
    (case k11 => k_is)
#print axioms PySem.Challenge.cw_viewloom_k30_best_rising_rows_holds
