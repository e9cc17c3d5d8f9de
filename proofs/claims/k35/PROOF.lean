import PyProof.Rows.All
import Wide.All
import OpenK.AllK
import Wide.FinOn
import HandS.ForMost
import HandS.More
import HandS.Codes
import HandS.ForExc
import HandS.Nested
import HandS.ExcInit
import KE.KSuper
import KE.KExcSuper
import HandS.ExcIs
import HandS.ExcField
import HandS.FStr
import KE.KExcIs
import HandS.Defaults
import HandS.Property
import HandS.ClsMeth
import HandS.RaiseMore
import HandS.IsInst
import HandS.DeepEq
import HandS.Deep
import HandS.StrMore
import HandS.OwnEq
import HandS.TupLe
import HandS.Wide
import KE.KOwnIter
import KE.KDictIter
import HandS.ListItems
import HandS.DictComp
import HandS.SetKeys
import HandS.SortRule
import HandS.SortInts
import HandS.Walk
import HandS.Steps
import PySem.Challenge.RW_viewloom_k35_schedules
set_option Elab.async false
set_option linter.all false
set_option maxRecDepth 100000
set_option maxHeartbeats 4000000
namespace VL
open PySem PySem.Spec PyProof.Rows L2

/-! ### defs, methods, classes, as callers see them -/
structure Cal (P : Program) (w : World) (K : PySem.W.Frag) (mg : Str → Option Value) (base : Heap) (k : Nat) (x : Str) (sp : Sp) : Prop where
  ex : ∃ (f : Addr) (fd : FuncData) (ps : List Str), FnOk P w K mg base CX0 k f fd ps sp ∧ mg x = some (.ref f) ∧ PySem.W.keepIn K (.ref f) = true ∧ Binds K fd ps []
structure Met (P : Program) (w : World) (K : PySem.W.Frag) (mg : Str → Option Value) (base : Heap) (k : Nat) (C : Addr) (m : Str) (sp : Sp) : Prop where
  ex : ∃ (f : Addr) (fd : FuncData) (ps : List Str), Cls K C ∧ Meth K C m f ∧ FnOk P w K mg base CX0 k f fd ps sp ∧ Binds K fd ps []
structure Mak (P : Program) (w : World) (K : PySem.W.Frag) (mg : Str → Option Value) (base : Heap) (k : Nat) (x : Str) (C : Addr) (sp : Sp) : Prop where
  ex : ∃ (f : Addr) (fd : FuncData) (ps : List Str), Mk K C f ∧ FnOk P w K mg base CX0 k f fd ps sp ∧ mg x = some (.ref C) ∧ Binds K fd ps []
section
variable {X : Cx} {k j : Nat} {C : Addr} {x m : Str} {sp : Sp} {p pos apos : Pos} {e o : Expr} {es : List Expr} {ta : TE} {t : TA}
theorem pe_c (c : Cal X.prog X.w X.K X.mg X.base k x sp) (hr : Room j X.A) (hk : k ≤ j) (hg : Gl X x) (ha : PA X (e :: es) t)
    (hdb : (x == ("__debug__" : Str)) = false := by decide) (he : starEach (e :: es) X.env = (false, eval e X.env) :: starEach es X.env := by rfl) (hpl : (backTo pos (starEach es X.env)).any (·.1) = false := by rfl) :
    PE X (.Call (.Name x p) (e :: es) [] pos) (tCall sp [] E0 t) := by
  obtain ⟨f, fd, ps, F, hm, kp, b⟩ := c.ex
  exact pe_call F (hr.mono hk) hg hm kp b .nil pass0 ha hdb he hpl
theorem pe_mk (c : Mak X.prog X.w X.K X.mg X.base k x C sp) (hr : Room j X.A) (hk : k + 1 ≤ j) (hg : Gl X x) (ha : PA X (e :: es) t)
    (hdb : (x == ("__debug__" : Str)) = false := by decide) (he : starEach (e :: es) X.env = (false, eval e X.env) :: starEach es X.env := by rfl) (hpl : (backTo pos (starEach es X.env)).any (·.1) = false := by rfl) :
    PE X (.Call (.Name x p) (e :: es) [] pos) (tMake C sp [] E0 t) := by
  obtain ⟨f, fd, ps, M, F, hm, b⟩ := c.ex
  exact pe_make M F (hr.mono hk) hg hm b .nil pass0 ha hdb he hpl
theorem pe_mk0 (c : Mak X.prog X.w X.K X.mg X.base k x C sp) (hr : Room j X.A) (hk : k + 1 ≤ j) (hg : Gl X x) (hdb : (x == ("__debug__" : Str)) = false := by decide) :
    PE X (.Call (.Name x p) [] [] pos) (tMake C sp [] E0 tNil) := by
  obtain ⟨f, fd, ps, M, F, hm, b⟩ := c.ex
  exact pe_make0 M F (hr.mono hk) hg hm b .nil pass0 hdb
theorem pe_mt {pl : Sem Bool} (c : Met X.prog X.w X.K X.mg X.base k C m sp) (hr : Room j X.A) (hk : k ≤ j) (he : PE X o ta) (ha : PA X (e :: es) t)
    (hst : starEach (e :: es) X.env = (false, eval e X.env) :: starEach es X.env := by rfl) (hpl : (backTo pos (starEach es X.env)).any (·.1) = false := by rfl)
    (ht : eval (.Call (.Attribute o m apos) (e :: es) [] pos) X.env = (do
      let ov ← eval o X.env
      standAt apos.atName
      let (f, first) ← holding [ov] (getMethod ov m pl)
      callWith pos f first (backTo pos (starEach (e :: es) X.env)) (backToKw pos (keywordEach [] X.env))) := by rfl) :
    PE X (.Call (.Attribute o m apos) (e :: es) [] pos) (tMeth C m sp [] E0 ta t) := by
  obtain ⟨f, fd, ps, hc, hm, F, b⟩ := c.ex
  exact pe_meth (pl := pl) he hc hm F (hr.mono hk) b .nil pass0 ha hst hpl ht
theorem pe_mt0 {pl : Sem Bool} (c : Met X.prog X.w X.K X.mg X.base k C m sp) (hr : Room j X.A) (hk : k ≤ j) (he : PE X o ta)
    (ht : eval (.Call (.Attribute o m apos) [] [] pos) X.env = (do
      let ov ← eval o X.env
      standAt apos.atName
      let (f, first) ← holding [ov] (getMethod ov m pl)
      callWith pos f first (backTo pos (starEach [] X.env)) (backToKw pos (keywordEach [] X.env))) := by rfl) :
    PE X (.Call (.Attribute o m apos) [] [] pos) (tMeth C m sp [] E0 ta tNil) := by
  obtain ⟨f, fd, ps, hc, hm, F, b⟩ := c.ex
  exact pe_meth0 (pl := pl) he hc hm F (hr.mono hk) b .nil pass0 ht
end

/-! ### what the text has -/
def DefE (K : PySem.W.Frag) (mg : Str → Option Value) (x : Str) (st : Stmt) (ps : List Str) : Prop := ∃ (f : Addr) (fd : FuncData), Fun K x x st f fd ∧ mg x = some (.ref f) ∧ Binds K fd ps []
def MethE (K : PySem.W.Frag) (C : Addr) (x qual : Str) (st : Stmt) (ps : List Str) : Prop := ∃ (f : Addr) (fd : FuncData), Fun K x qual st f fd ∧ Meth K C x f ∧ Binds K fd ps []
def InitE (K : PySem.W.Frag) (mg : Str → Option Value) (cn : Str) (C : Addr) (qual : Str) (st : Stmt) (ps : List Str) : Prop := ∃ (f : Addr) (fd : FuncData), Fun K "__init__" qual st f fd ∧ Mk K C f ∧ mg cn = some (.ref C) ∧ Binds K fd ps []
/-- a global name of the module has the value v -/
abbrev GV (mg : Str → Option Value) (x : Str) (v : V) : Prop := ∃ u, mg x = some u ∧ RelV v u
section
variable {P : Program} {w : World} {K : PySem.W.Frag} {mg : Str → Option Value} {base : Heap}
theorem cal_of {x : Str} {st : Stmt} {ps N : List Str} {k : Nat} {sp : Sp} (D : DefE K mg x st ps) (S : FnScope N ps (defScope st)) (len : ∀ vs H Q E, sp vs H Q E → vs.length = ps.length)
    (hbody : ∀ (f : Addr) (cdv : Value) (A : Around) (outer : List Env) (s : Shared) (H : Hp) (vs : List V) (Q : VK) (E : XK), Room k (A.deeper (envOfC x (defScope st) s.heap.objs.size f cdv)) → sp vs H Q E →
      ∃ t, PSs (cxOf CX0 P w K mg base N x (defScope st) f cdv A outer s H E).nox (defBody st) t ∧ t { nx := fun _ H' => Q .non H', rt := Q } (start N vs) H) : Cal P w K mg base (k + 1) x sp := by
  obtain ⟨f, fd, F, hm, b⟩ := D
  exact ⟨f, fd, ps, F.ok S len (hbody f), hm, F.kp, b⟩
theorem met_of {C : Addr} {x qual : Str} {st : Stmt} {ps N : List Str} {k : Nat} {sp : Sp} (D : MethE K C x qual st ps) (c : Cls K C) (S : FnScope N ps (defScope st)) (len : ∀ vs H Q E, sp vs H Q E → vs.length = ps.length)
    (hbody : ∀ (f : Addr) (cdv : Value) (A : Around) (outer : List Env) (s : Shared) (H : Hp) (vs : List V) (Q : VK) (E : XK), Room k (A.deeper (envOfC qual (defScope st) s.heap.objs.size f cdv)) → sp vs H Q E →
      ∃ t, PSs (cxOf CX0 P w K mg base N qual (defScope st) f cdv A outer s H E).nox (defBody st) t ∧ t { nx := fun _ H' => Q .non H', rt := Q } (start N vs) H) : Met P w K mg base (k + 1) C x sp := by
  obtain ⟨f, fd, F, hm, b⟩ := D
  exact ⟨f, fd, ps, c, hm, F.ok S len (hbody f), b⟩
theorem mak_of {C : Addr} {cn qual : Str} {st : Stmt} {ps N : List Str} {k : Nat} {sp : Sp} (D : InitE K mg cn C qual st ps) (S : FnScope N ps (defScope st)) (len : ∀ vs H Q E, sp vs H Q E → vs.length = ps.length)
    (hbody : ∀ (f : Addr) (cdv : Value) (A : Around) (outer : List Env) (s : Shared) (H : Hp) (vs : List V) (Q : VK) (E : XK), Room k (A.deeper (envOfC qual (defScope st) s.heap.objs.size f cdv)) → sp vs H Q E →
      ∃ t, PSs (cxOf CX0 P w K mg base N qual (defScope st) f cdv A outer s H E).nox (defBody st) t ∧ t { nx := fun _ H' => Q .non H', rt := Q } (start N vs) H) : Mak P w K mg base (k + 1) cn C sp := by
  obtain ⟨f, fd, F, M, hm, b⟩ := D
  exact ⟨f, fd, ps, M, F.ok S len (hbody f), hm, b⟩
end
theorem ps_str_loc : True := trivial
end VL

set_option Elab.async false
set_option linter.all false
set_option maxRecDepth 100000
set_option maxHeartbeats 4000000
namespace VL
open PySem PySem.Spec PyProof.Rows L2 NdefX

/-! ### an own exception's __init__ that begins with super().__init__(..), over ValueError -/
abbrev supBody (p0 p1 p2 p3 p4 : Pos) (es : List Expr) (rest : List Stmt) : List Stmt := .Expr (.Call (.Attribute (.Call (.Name "super" p0) [] [] p1) "__init__" p2) es [] p3) p4 :: rest
section
variable {CX : CXT} {P : Program} {w : World} {K : PySem.W.Frag} {mg : Str → Option Value} {base : Heap} {k : Nat} {f D cc cda : Addr} {name qual : Str} {params : Arguments} {es : List Expr} {ar : Arg} {rest : List Stmt} {p0 p1 p2 p3 p4 : Pos} {scope : Scope}
  {dV kV doc pm ct oc cl ccl : Value} {od cld cdd an : Option Addr} {osl csl ccs : Array (Option Value)} {vsC : Array Value} {file : Str} {tf : Tok} {cdD : ClassData} {N ps : List Str} {sp : Sp}
/-- what the written part says of it -/
structure SupK (P : Program) (K : PySem.W.Frag) (mg : Str → Option Value) (f D cc cda : Addr) (fd : FuncData) (qual : Str) : Prop where
  lk : ∃ oc od osl, K.lookup f = some ⟨oc, od, .func fd, osl⟩
  cd : PySem.W.codeIn K (.ref cda) qual = true
  cell : ∃ cl cld csl, K.lookup cc = some ⟨cl, cld, .cell (some (.ref D)), csl⟩
  code : ∃ ccl cdd vsC ccs file tf, K.lookup cda = some ⟨ccl, cdd, .fields vsC, ccs⟩ ∧ vsC[2]? = some (.str file tf) ∧ ((P.main.file : Str) == file) = true
  cls : ∃ cdD, PySem.W.clsIn K D = some cdD
  sub : PySem.W.mroIn K D (.ref D) = some true
  zsuper : mg "super" = none
  ops : PySem.W.nsIn K cStatics "thirdparty.any" = some none
  along : PySem.W.ks_superIn K D D "__init__" = some (some (.builtin "ValueError.__init__"))
  subV : PySem.W.subIn K (.ref D) (.type "ValueError") = some true
  top : (P.main.scope.names.lookup ("super" : Str)).isSome = false
theorem fn_sup {fd : FuncData} (T : SupK P K mg f D cc cda fd qual) (O : OexC K D) (efd : fd = PySem.W.fnX name qual params (supBody p0 p1 p2 p3 p4 es rest) scope [("__class__", cc)] dV kV doc pm an (.ref cda) ct)
    (S : NScope N ps ["__class__"] scope) (har : (params.posonlyargs ++ params.args).head? = some ar) (hps : ps.head? = some ar.arg) (hks : scope.names.lookup ("super" : Str) = some .globalImplicit)
    (hsw : ∀ env : Env, swapsWith (.Call (.Attribute (.Call (.Name "super" p0) [] [] p1) "__init__" p2) es [] p3) none p4.line env = pure false)
    (hst : ∀ env : Env, (backTo p3 (starEach es env)).any (·.1) = false)
    (hee : ∀ env : Env, ∃ x r, backTo p3 (starEach es env) = (false, x) :: r)
    {pl : Sem Bool} (hev : ∀ env : Env, eval (.Call (.Attribute (.Call (.Name "super" p0) [] [] p1) "__init__" p2) es [] p3) env = (do
      let ov ← attributeBase (.Call (.Name "super" p0) [] [] p1) "__init__" env (eval (.Call (.Name "super" p0) [] [] p1) env)
      standAt p2.atName
      let (g, first) ← holding [ov] (getMethod ov "__init__" pl)
      callWith p3 g first (backTo p3 (starEach es env)) []))
    (len : ∀ vs H Q E, sp vs H Q E → vs.length = ps.length)
    (hbody : ∀ (A : Around) (outer : List Env) (s : Shared) (H : Hp) (vs : List V) (Q : VK) (E : XK), Room k (A.deeper (envF ⟨name, qual, params, supBody p0 p1 p2 p3 p4 es rest, scope, [("__class__", cc)], cda⟩ f s.heap.objs.size)) → sp vs H Q E →
      ∃ ta tr, PA (ncx CX P w K mg base N ⟨name, qual, params, supBody p0 p1 p2 p3 p4 es rest, scope, [("__class__", cc)], cda⟩ f A outer s H E) es ta ∧
        PSs (ncx CX P w K mg base N ⟨name, qual, params, supBody p0 p1 p2 p3 p4 es rest, scope, [("__class__", cc)], cda⟩ f A outer s H E) rest tr ∧
        ∃ (a : Addr) (vs' : List V), vs = .ref a :: vs' ∧ H a = some (exo a D none) ∧
          ta (startF N vs [some (.ref D)]) H fun ws H1 => ws.length ≤ 1000 ∧ H1 a = some (exo a D none) ∧ tr { nx := fun _ H' => Q .non H', rt := Q } (startF N vs [some (.ref D)]) H1) :
    FnOk P w K mg base CX (k + 1) f fd ps sp := by
  subst efd
  obtain ⟨oc, od, osl, lk⟩ := T.lk
  obtain ⟨cl, cld, csl, hcell⟩ := T.cell
  obtain ⟨ccl, cdd, vsC, ccs, file, tf, hcode, hvs, hfile⟩ := T.code
  obtain ⟨cdD, hD⟩ := T.cls
  refine ⟨len, fun A outer s H args us vs Q E hr e0 hb r hsp => ?_⟩
  have hl := len _ _ _ _ hsp
  have KX : K.In s.heap := e0.mod.kin.keeps fun b o q => (e0.bs b o q).1
  have lim : s.heap.NoLimit := e0.mod.nolimit.keeps fun b o e => (e0.bs b o e).1
  have C : CellsAt [("__class__", cc)] ["__class__"] [some (.ref D)] s.heap H := by
    have one : ∀ y c, [(("__class__" : Str), cc)].lookup y = some c → y = "__class__" ∧ c = cc := fun y c e => by
      by_cases h : y = ("__class__" : Str)
      · subst h
        have e2 : [(("__class__" : Str), cc)].lookup ("__class__" : Str) = some cc := by simp [List.lookup]
        rw [e2] at e
        exact ⟨rfl, (Option.some.inj e).symm⟩
      · have q : (y == ("__class__" : Str)) = false := by simpa using h
        simp [List.lookup, q] at e
    have hc : ∃ v, s.heap.IsCell cc v := ⟨_, _, KX _ _ hcell, rfl⟩
    have hcH : H cc = none := (e0.bs cc _ (e0.mod.kin _ _ hcell)).2
    refine ⟨rfl, fun y c e => ?_, fun x y c e1 e2 => ?_, fun i y e => ?_⟩
    · obtain ⟨_, rfl⟩ := one y c e
      exact ⟨hcH, hc⟩
    · rw [(one _ _ e1).1, (one _ _ e2).1]
    · cases i with
      | zero =>
        injection e with e
        subst e
        refine ⟨cc, by simp [List.lookup], fun v ev => ?_⟩
        injection ev with ev
        injection ev with ev
        subst ev
        exact ⟨_, rfl, _, KX _ _ hcell, rfl⟩
      | succ i => cases i <;> cases e
  refine PySem.ks_codeAny_call_defAt (body := supBody p0 p1 p2 p3 p4 es rest) hr.depth (KX _ _ lk) rfl lim (PySem.W.codeRec_of KX T.cd) rfl hb S.nocell (fun ⟨n, _⟩ hy => S.par n (List.of_mem_zip hy).1) (fun h₁ hns kp => ?_) S.co S.gen S.kind
  obtain ⟨ta, tr, hA, hR, a, vs', ev, ha0, hq⟩ := hbody A outer s H vs Q E (hr.deeper _) hsp
  generalize hF : (⟨name, qual, params, supBody p0 p1 p2 p3 p4 es rest, scope, [("__class__", cc)], cda⟩ : NF) = F at hA hR
  have I : Inv (ncx CX P w K mg base N F f A outer s H E) [] (startF N vs [some (.ref D)]) H { s with heap := h₁, toks := s.toks + (ps.zip us).length } := by
    subst hF
    exact inv_startN S hr.hd e0 hl r C hns kp
  have eenv : callEnv (PySem.W.fnX name qual params (supBody p0 p1 p2 p3 p4 es rest) scope [("__class__", cc)] dV kV doc pm an (.ref cda) ct) s.heap.objs.size f = envF F f s.heap.objs.size := by
    subst hF
    rfl
  rw [eenv]
  have fin : ∀ {σ' : L2.St} {H' : Hp} {v : V} {u : Value} {s' : Shared}, Inv (ncx CX P w K mg base N F f A outer s H E) [] σ' H' s' → L2.RelV v u → Q v H' → CE outer P w H s Q u s' :=
    fun {σ' H' v u s'} J rv q => ⟨v, H', J.os, J.bare, J.base, J.hok, rv, q⟩
  refine PySem.ks_wpAt_mono (Q := SP (ncx CX P w K mg base N F f A outer s H E) [] { nx := fun _ H' => Q .non H', rt := Q }) (E := (ncx CX P w K mg base N F f A outer s H E).xe) ?go (fun fl s' hs => ?en) (fun _ _ x => x)
  case en =>
    cases fl with
    | ret u =>
      obtain ⟨v, σ', H', J, rv, q⟩ := hs
      exact fin J rv q
    | next =>
      obtain ⟨σ', H', J, q⟩ := hs
      exact fin (v := V.non) (u := Value.none) J rfl q
    | brk =>
      obtain ⟨_, _, _, q⟩ := hs
      exact False.elim q
    | cont =>
      obtain ⟨_, _, _, q⟩ := hs
      exact False.elim q
  have ekind : ∀ x, (envF F f s.heap.objs.size).kindOf x = scope.names.lookup x := by
    subst hF
    intro x
    rfl
  refine PySem.ks_wpAt_execs_cons (PySem.ks_wpAt_Expr_any (PySem.ks_wpAt_MethodCall (pl := pl) ?_ (hev _)) I.quiet (hsw _))
  refine PySem.ks_wpAt_super_base (env := envF F f s.heap.objs.size) ((ekind _).trans hks) ((ekind _).trans (S.frk _ List.mem_cons_self)) rfl rfl (kp _ _ (KX _ _ lk)) rfl har (by subst hF; rfl) (kp _ _ (KX _ _ hcode)) rfl hvs hfile T.top ?_
  have escope : (envF F f s.heap.objs.size).scope = scope := by subst hF; rfl
  have ecells : (envF F f s.heap.objs.size).cells = [(("__class__" : Str), cc)] := by subst hF; rfl
  obtain ⟨mb, b1, b2⟩ := e0.mod.blt
  have kb : ∀ b o, base.get? b = some o → h₁.get? b = some o := fun b o q => kp b o (e0.bs b o q).1
  have X₁ : K.In h₁ := KX.keeps kp
  have hgl := e0.mod.glob.keeps kb
  have hbl := b1.keeps kb
  refine PySem.W.ks_loadName_global (by rw [escope]; exact S.kind) ((ekind _).trans hks) (Calls.loadGlobal_builtin hgl T.zsuper hbl ((b2 _ (by decide +kernel)).trans Boot.«super») ⟨rfl, ?_⟩)
  refine wpAny_loadName_free (by rw [escope]; exact S.kind) ((ekind _).trans (S.frk _ List.mem_cons_self)) (c := cc) (v := .ref D) (by rw [ecells]; simp [List.lookup]) ⟨_, X₁ _ _ hcell, rfl⟩ ?_
  have hself : (ps.zip us).reverse.lookup ar.arg = some (.ref a) := by
    subst ev
    cases ps with
    | nil => cases hps
    | cons p ps' =>
      injection hps with hps
      subst hps
      cases r with
      | @cons _ u0 _ ur ra rw' =>
        obtain rfl : u0 = Value.ref a := ra
        have nd : (ar.arg :: ps').Nodup := by
          have q := S.nd.sublist (List.take_sublist ((ar.arg :: ps').length + [("__class__" : Str)].length) N)
          rw [S.pre] at q
          exact (List.nodup_append.mp q).1
        exact zip_look (i := 0) nd rfl rfl
  have hpar : scope.names.lookup ar.arg = some .local := by
    refine S.par _ ?_
    cases ps with
    | nil => cases hps
    | cons p ps' =>
      injection hps with hps
      subst hps
      exact List.mem_cons_self
  refine wpAny_loadName_local (by rw [escope]; exact S.kind) ((ekind _).trans hpar) hns hself ?_
  obtain ⟨oD, hD1, hD2⟩ : ∃ oD, h₁.get? D = some oD ∧ oD.data = .cls cdD := by
    have z := hD
    unfold PySem.W.clsIn at z
    split at z
    · rename_i ho
      cases z
      exact ⟨_, X₁ _ _ ho, rfl⟩
    · cases z
  refine PySem.ks_wpAny_isType_cls hD1 hD2 ⟨rfl, ?_⟩
  obtain ⟨t1, hoa⟩ := exo_at I.hok ha0
  refine PySem.ks_wpAny_call_super hD1 hD2 hoa rfl (fun c e => by cases e) (PySem.W.looks_mroIn X₁ T.sub) (fun h₂ e2 k2 => ?_)
  have I2 := I.kept (t' := s.toks + (ps.zip us).length) k2
  have X₂ : K.In h₂ := X₁.keeps k2
  have IA : PySem.W.InstAt h₂ a { cls := .ref D, dict := none, data := .fields #[.ref t1, .none, .none, .none, .bool false, .none] } D none := ⟨k2 _ _ hoa, rfl, rfl, trivial⟩
  have hal := T.along
  unfold PySem.W.ks_superIn at hal
  rw [hD] at hal
  have hmro : PySem.W.Looks (model P w) h₂ (mroOf (.ref D)) cdD.mro := fun A Q E s k q => wpAny_bind ((PySem.W.looks_clsIn X₂ hD) A _ E s k (wpAny_pure q))
  refine PySem.W.kxs_getMethod PySem.W.kxs_ValueError e2 (PySem.W.looks_opaque X₂ T.ops) hmro rfl X₂ hal (IA.type.andThen (PySem.W.looks_subIn X₂ T.subV)) (PySem.W.ks_ne X₂ IA hD) rfl ?_
  have kmw : ∀ b o, h₂.get? b = some o → (h₂.push (PySem.W.kxs_mw "ValueError.__init__" a)).get? b = some o := fun b o q => Heap.get?_push_of_some _ q
  have I3 : Inv (ncx CX P w K mg base N F f A outer s H E) [(h₂.objs.size, PySem.W.kxs_mw "ValueError.__init__" a)] (startF N vs [some (.ref D)]) H { s with heap := h₂.push (PySem.W.kxs_mw "ValueError.__init__" a), toks := s.toks + (ps.zip us).length + 1 } := by
    refine (I2.kept (t' := s.toks + (ps.zip us).length + 1) kmw).pins_of fun p hp => ?_
    rw [List.mem_singleton.mp hp]
    exact ⟨Heap.get?_push_at rfl rfl, I2.hok.fresh (Nat.le_refl _), Nat.ne_of_gt I2.lt, I2.nofs (Nat.le_refl _), fun v e => by cases e⟩
  refine PySem.W.kxs_callWith (i := "ValueError.__init__") (x := a) (hst _) ?_
  obtain ⟨x0, r0, hx⟩ := hee (envF F f s.heap.objs.size)
  rw [hx]
  refine Calls.evalArgs_plain ?_
  rw [← hx]
  refine thn (hA.run p3 _ _ _ H _ I3 hq) (fun us1 s4 ⟨ws, H1, I4, r1, hz, ha1, hrest⟩ => ⟨(I4.pin (h₂.objs.size, PySem.W.kxs_mw "ValueError.__init__" a) (List.mem_append_right _ List.mem_cons_self)).1, ?_⟩)
  have hu := (I4.pin (h₂.objs.size, PySem.W.kxs_mw "ValueError.__init__" a) (List.mem_append_right _ List.mem_cons_self)).1
  have I5 : Inv (ncx CX P w K mg base N F f A outer s H E) [] (startF N vs [some (.ref D)]) H1 s4 := I4.pins_of fun p hp => by cases hp
  obtain ⟨nm, q, Nn, bs, bm, sn, sub, ab, col, dd, k0, k1, k2', k3, k5, hC, hbm⟩ := O.cls
  obtain ⟨t2, ho⟩ := exo_at I5.hok ha1
  have hus : us1.length ≤ sizeLine := by
    rw [← Paired.length r1]
    exact Nat.le_trans hz (by decide)
  have kin4 := I5.kIn
  obtain ⟨hp, g, d, tk, os⟩ := s4
  refine wpAny_call (codeAny_of_tree ?_)
  show wpAny _ (A.deeper (envF F f s.heap.objs.size)).in1 (callAny (.ref h₂.objs.size) ⟨us1, []⟩) _ _ _
  simp only [callAny]
  refine wpAny_bind (wpAny_load hu ?_)
  simp only [PySem.W.kxs_mw, show (Value.type "method-wrapper" == Value.type "method" || Value.type "method-wrapper" == Value.type "builtin_function_or_method" || Value.type "method-wrapper" == Value.type "method-wrapper") = true by decide, if_true]
  refine PySem.W.KFB.if_so (by decide) ?_
  refine wpAny_bind (PySem.W.check_bound_init PySem.F.excBase_ValueError.toExcCallFacts (kin4 _ _ hC) ho rfl ?_)
  refine wpAny_bind (wpAny_pure (wpAny_pure ?_))
  refine ⟨plainId_quiet PySem.F.excBase_ValueError.init.plain _, codeAny_builtin PySem.F.excBase_ValueError.initEntry ?_⟩
  refine PySem.W.exc_init_tree (cls := .ref D) (t0 := t2) (dv := none) (c2 := .none) (c3 := .none) (b4 := .bool false) ho hus fun h' kk e' _ => ?_
  have J := I5.write (t' := tk) (x := a) (e := a) (o := exo a D none) (by rw [ha1]; exact True.intro) (.inl rfl) kk ⟨_, e'⟩ (exo_ok e')
  have eu : upd H1 a (exo a D none) = H1 := by
    funext b
    by_cases hb : b = a
    · rw [hb, upd_same, ha1]
    · rw [upd_ne hb]
  rw [eu] at J
  exact wpAt_of_wpAny (hR.run [] _ _ H1 _ J hrest)
end
end VL

set_option Elab.async false
set_option linter.all false
set_option maxRecDepth 100000
set_option maxHeartbeats 4000000
namespace VL
open PySem PySem.Spec PyProof.Rows L2 NdefX

/-! ### isinstance of a caught error that has a dict -/
theorem call_isED {X : Cx} {a D : Addr} {oe : Obj} {cls : Value} {d : Option Addr} {pn : List (Addr × Obj)} (C : ExcC X.K D) (hz : Zc cls d oe) (hf : ∃ vs, oe.data = .fields vs) :
    CallR (X.suite a ((a, oe) :: pn)) (.builtin "isinstance") (fun xs H Q => cls = .ref D ∧ ∃ (dd : Addr) (fs : List (Str × V)) (c : V) (cv : Value) (b : Bool), d = some dd ∧ H dd = some (.xd fs) ∧ xs = [.ref a, c] ∧ (∀ u, RelV c u → u = cv) ∧ PySem.W.kitOne X.K (.ref D) cv = some b ∧ Q (.bl b) H) := by
  intro pins s σ H xs us Q I r h
  obtain ⟨ec, dd, fs, c, cv, b, ed, ea, ex, hcv, e, q⟩ := h
  subst ec ed ex
  cases r with
  | cons rx rr =>
    cases rr with
    | cons rt rr =>
      cases rr
      cases rx
      obtain rfl := hcv _ rt
      have hp := (I.pin (a, oe) (List.mem_append_left _ List.mem_cons_self)).1
      obtain ⟨vs, hv⟩ := hf
      have hx : ObjOk X.prog X.w H s.heap dd (.xd fs) := I.hok dd _ ea
      obtain ⟨mA, hns, _⟩ := hx
      obtain ⟨od, ho, _⟩ := lookIn_ns hns
      have J : PySem.W.InstAt s.heap a oe D (some od) := ⟨hp, hz.1, by unfold PySem.W.notCls; rw [hv] <;> rfl, by rw [hz.2]; exact ho⟩
      have hcl : (PySem.W.clsIn X.K D).isSome = true := by
        obtain ⟨cd, hc, _⟩ := PySem.W.any_some C.hd
        rw [hc]
        rfl
      exact PySem.W.kia_one (PySem.W.kitx_exc (ox := oe) (od := some od) hcl C.hg C.hk C.hs C.ha C.hn C.ht C.hm) I.kIn J e (fun z => nomatch z) fun tk => ⟨.bl b, H, I.kept (t' := tk) fun _ _ z => z, rfl, q⟩
end VL

set_option Elab.async false
set_option linter.all false
set_option maxRecDepth 100000
set_option maxHeartbeats 4000000
namespace VL
open PySem PySem.Spec PyProof.Rows L2

/-! ### defs and methods that may raise -/
structure CalX (P : Program) (w : World) (K : PySem.W.Frag) (mg : Str → Option Value) (base : Heap) (k : Nat) (x : Str) (sp : Sp) : Prop where
  ex : ∃ (f : Addr) (fd : FuncData) (ps : List Str), FnOk P w K mg base (L2.CX P w) k f fd ps sp ∧ mg x = some (.ref f) ∧ PySem.W.keepIn K (.ref f) = true ∧ Binds K fd ps []
structure MetX (P : Program) (w : World) (K : PySem.W.Frag) (mg : Str → Option Value) (base : Heap) (k : Nat) (C : Addr) (m : Str) (sp : Sp) : Prop where
  ex : ∃ (f : Addr) (fd : FuncData) (ps : List Str), Cls K C ∧ Meth K C m f ∧ FnOk P w K mg base (L2.CX P w) k f fd ps sp ∧ Binds K fd ps []
structure MakX (P : Program) (w : World) (K : PySem.W.Frag) (mg : Str → Option Value) (base : Heap) (k : Nat) (x : Str) (C : Addr) (sp : Sp) : Prop where
  ex : ∃ (f : Addr) (fd : FuncData) (ps : List Str), Mk K C f ∧ FnOk P w K mg base (L2.CX P w) k f fd ps sp ∧ mg x = some (.ref C) ∧ Binds K fd ps []
section
variable {X : Cx} {k j : Nat} {C : Addr} {x m : Str} {sp : Sp} {E : XK} {p pos apos : Pos} {e o : Expr} {es : List Expr} {ta : TE} {t : TA}
theorem pe_cX (hx : Passes (L2.CX X.prog X.w) X E) (c : CalX X.prog X.w X.K X.mg X.base k x sp) (hr : Room j X.A) (hk : k ≤ j) (hg : Gl X x) (ha : PA X (e :: es) t)
    (hdb : (x == ("__debug__" : Str)) = false := by decide) (he : starEach (e :: es) X.env = (false, eval e X.env) :: starEach es X.env := by rfl) (hpl : (backTo pos (starEach es X.env)).any (·.1) = false := by rfl) :
    PE X (.Call (.Name x p) (e :: es) [] pos) (tCall sp [] E t) := by
  obtain ⟨f, fd, ps, F, hm, kp, b⟩ := c.ex
  exact pe_call F (hr.mono hk) hg hm kp b .nil hx ha hdb he hpl
theorem pe_mkX (hx : Passes (L2.CX X.prog X.w) X E) (c : MakX X.prog X.w X.K X.mg X.base k x C sp) (hr : Room j X.A) (hk : k + 1 ≤ j) (hg : Gl X x) (ha : PA X (e :: es) t)
    (hdb : (x == ("__debug__" : Str)) = false := by decide) (he : starEach (e :: es) X.env = (false, eval e X.env) :: starEach es X.env := by rfl) (hpl : (backTo pos (starEach es X.env)).any (·.1) = false := by rfl) :
    PE X (.Call (.Name x p) (e :: es) [] pos) (tMake C sp [] E t) := by
  obtain ⟨f, fd, ps, M, F, hm, b⟩ := c.ex
  exact pe_make M F (hr.mono hk) hg hm b .nil hx ha hdb he hpl
theorem pe_mtX {pl : Sem Bool} (hx : Passes (L2.CX X.prog X.w) X E) (c : MetX X.prog X.w X.K X.mg X.base k C m sp) (hr : Room j X.A) (hk : k ≤ j) (he : PE X o ta) (ha : PA X (e :: es) t)
    (hst : starEach (e :: es) X.env = (false, eval e X.env) :: starEach es X.env := by rfl) (hpl : (backTo pos (starEach es X.env)).any (·.1) = false := by rfl)
    (ht : eval (.Call (.Attribute o m apos) (e :: es) [] pos) X.env = (do
      let ov ← eval o X.env
      standAt apos.atName
      let (f, first) ← holding [ov] (getMethod ov m pl)
      callWith pos f first (backTo pos (starEach (e :: es) X.env)) (backToKw pos (keywordEach [] X.env))) := by rfl) :
    PE X (.Call (.Attribute o m apos) (e :: es) [] pos) (tMeth C m sp [] E ta t) := by
  obtain ⟨f, fd, ps, hc, hm, F, b⟩ := c.ex
  exact pe_meth (pl := pl) he hc hm F (hr.mono hk) b .nil hx ha hst hpl ht
theorem pe_mtX0 {pl : Sem Bool} (hx : Passes (L2.CX X.prog X.w) X E) (c : MetX X.prog X.w X.K X.mg X.base k C m sp) (hr : Room j X.A) (hk : k ≤ j) (he : PE X o ta)
    (ht : eval (.Call (.Attribute o m apos) [] [] pos) X.env = (do
      let ov ← eval o X.env
      standAt apos.atName
      let (f, first) ← holding [ov] (getMethod ov m pl)
      callWith pos f first (backTo pos (starEach [] X.env)) (backToKw pos (keywordEach [] X.env))) := by rfl) :
    PE X (.Call (.Attribute o m apos) [] [] pos) (tMeth C m sp [] E ta tNil) := by
  obtain ⟨f, fd, ps, hc, hm, F, b⟩ := c.ex
  exact pe_meth0 (pl := pl) he hc hm F (hr.mono hk) b .nil hx ht
end
section
variable {P : Program} {w : World} {K : PySem.W.Frag} {mg : Str → Option Value} {base : Heap}
theorem okX_of {x qual : Str} {st : Stmt} {ps N : List Str} {f : Addr} {fd : FuncData} {k : Nat} {sp : Sp} (F : Fun K x qual st f fd) (S : FnScope N ps (defScope st)) (len : ∀ vs H Q E, sp vs H Q E → vs.length = ps.length)
    (hbody : ∀ (f : Addr) (cdv : Value) (A : Around) (outer : List Env) (s : Shared) (H : Hp) (vs : List V) (Q : VK) (E : XK), Room k (A.deeper (envOfC qual (defScope st) s.heap.objs.size f cdv)) → sp vs H Q E →
      ∃ t, PSs (cxOf (L2.CX P w) P w K mg base N qual (defScope st) f cdv A outer s H E) (defBody st) t ∧ t { nx := fun _ H' => Q .non H', rt := Q } (start N vs) H) : FnOk P w K mg base (L2.CX P w) (k + 1) f fd ps sp :=
  F.okX S len (hbody f)
theorem calX_of {x : Str} {st : Stmt} {ps N : List Str} {k : Nat} {sp : Sp} (D : DefE K mg x st ps) (S : FnScope N ps (defScope st)) (len : ∀ vs H Q E, sp vs H Q E → vs.length = ps.length)
    (hbody : ∀ (f : Addr) (cdv : Value) (A : Around) (outer : List Env) (s : Shared) (H : Hp) (vs : List V) (Q : VK) (E : XK), Room k (A.deeper (envOfC x (defScope st) s.heap.objs.size f cdv)) → sp vs H Q E →
      ∃ t, PSs (cxOf (L2.CX P w) P w K mg base N x (defScope st) f cdv A outer s H E) (defBody st) t ∧ t { nx := fun _ H' => Q .non H', rt := Q } (start N vs) H) : CalX P w K mg base (k + 1) x sp := by
  obtain ⟨f, fd, F, hm, b⟩ := D
  exact ⟨f, fd, ps, okX_of F S len hbody, hm, F.kp, b⟩
theorem metX_of {C : Addr} {x qual : Str} {st : Stmt} {ps N : List Str} {k : Nat} {sp : Sp} (D : MethE K C x qual st ps) (c : Cls K C) (S : FnScope N ps (defScope st)) (len : ∀ vs H Q E, sp vs H Q E → vs.length = ps.length)
    (hbody : ∀ (f : Addr) (cdv : Value) (A : Around) (outer : List Env) (s : Shared) (H : Hp) (vs : List V) (Q : VK) (E : XK), Room k (A.deeper (envOfC qual (defScope st) s.heap.objs.size f cdv)) → sp vs H Q E →
      ∃ t, PSs (cxOf (L2.CX P w) P w K mg base N qual (defScope st) f cdv A outer s H E) (defBody st) t ∧ t { nx := fun _ H' => Q .non H', rt := Q } (start N vs) H) : MetX P w K mg base (k + 1) C x sp := by
  obtain ⟨f, fd, F, hm, b⟩ := D
  exact ⟨f, fd, ps, c, hm, okX_of F S len hbody, b⟩
theorem makX_of {C : Addr} {cn qual : Str} {st : Stmt} {ps N : List Str} {k : Nat} {sp : Sp} (D : InitE K mg cn C qual st ps) (S : FnScope N ps (defScope st)) (len : ∀ vs H Q E, sp vs H Q E → vs.length = ps.length)
    (hbody : ∀ (f : Addr) (cdv : Value) (A : Around) (outer : List Env) (s : Shared) (H : Hp) (vs : List V) (Q : VK) (E : XK), Room k (A.deeper (envOfC qual (defScope st) s.heap.objs.size f cdv)) → sp vs H Q E →
      ∃ t, PSs (cxOf (L2.CX P w) P w K mg base N qual (defScope st) f cdv A outer s H E) (defBody st) t ∧ t { nx := fun _ H' => Q .non H', rt := Q } (start N vs) H) : MakX P w K mg base (k + 1) cn C sp := by
  obtain ⟨f, fd, F, M, hm, b⟩ := D
  exact ⟨f, fd, ps, M, okX_of F S len hbody, hm, b⟩
end
/-- what leaves a def that may raise -/
abbrev thruX {P : Program} {w : World} {K : PySem.W.Frag} {mg : Str → Option Value} {base : Heap} {N : List Str} {qual : Str} {scope : Scope} {f : Addr} {cdv : Value} {A : Around} {outer : List Env} {s : Shared} {H : Hp} {E : XK} :
    Passes (L2.CX P w) (cxOf (L2.CX P w) P w K mg base N qual scope f cdv A outer s H E) E := passes_call (W := fun cls d _ H => E cls d H) (takes_of rfl rfl rfl rfl) fun _ _ _ _ h => h
abbrev takeX {P : Program} {w : World} {K : PySem.W.Frag} {mg : Str → Option Value} {base : Heap} {N : List Str} {qual : Str} {scope : Scope} {f : Addr} {cdv : Value} {A : Around} {outer : List Env} {s : Shared} {H : Hp} {E : XK} :
    Takes (cxOf (L2.CX P w) P w K mg base N qual scope f cdv A outer s H E) (fun cls d _ H => E cls d H) := takes_of rfl rfl rfl rfl
end VL

set_option Elab.async false
set_option linter.all false
set_option maxRecDepth 100000
set_option maxHeartbeats 4000000
namespace VL
open PySem PySem.Spec PyProof.Rows L2

/-! ### what the text has: methods with keyword-only parameters, properties, written tuples, own exceptions without a text of their own -/
def WrT (K : PySem.W.Frag) (a : Addr) (xs : List V) : Prop := ∃ (o : Obj) (its : Array Value) (n : Nat), K.lookup a = some o ∧ o.cls = .type "tuple" ∧ o.data = .seq its n ∧ its.size ≤ sizeLine ∧ Vals xs its.toList ∧ o.dict = none
abbrev catG {α : Type} (us ws : List α) : List α := us ++ ws
def MethKE (K : PySem.W.Frag) (C : Addr) (x qual : Str) (st : Stmt) (ps : List Str) (n : Nat) (ks : List Str) : Prop :=
  ∃ (f : Addr) (fd : FuncData), Fun K x qual st f fd ∧ Meth K C x f ∧ KBn K fd ps n ks catG catG
def PropE (K : PySem.W.Frag) (C : Addr) (x qual : Str) (st : Stmt) : Prop := ∃ (p g : Addr) (fd : FuncData), PropOf K C x p g ∧ Fun K x qual st g fd ∧ Binds K fd ["self"] []
structure ExT (K : PySem.W.Frag) (mg : Str → Option Value) (x : Str) (D : Addr) : Prop where
  g : mg x = some (.ref D)
  xx : PySem.W.excIn K D [.type "ValueError", .type "Exception", .type "BaseException", .type "object"] "ValueError.__new__" = true
  kp : PySem.W.keepIn K (.ref D) = true
  bP : PySem.W.subIn K (.ref D) (.type "BaseException") = some true
  tP : PySem.W.typeIn K (.ref D) = some (.type "type")
  em : PySem.W.exmOne K (.ref D) (.ref D) = some true
  ec : ExcC K D
theorem fun_kbn {K : PySem.W.Frag} {x qual : Str} {st : Stmt} {f : Addr} {fd : FuncData} {ps : List Str} (F : Fun K x qual st f fd) (n : Nat) (ks : List Str)
    (h : ∀ (kV doc pm : Value) (an : Option Addr) (cdv ct : Value) (us ws : List Value), us.length = n → ws.length = ks.length → bindArgs (PySem.W.fnOf x qual (defArgs st) (defBody st) (defScope st) .none kV doc pm an cdv ct) ⟨us, ks.zip ws⟩ = pure (ps.zip (us ++ ws))) :
    KBn K fd ps n ks catG catG := by
  obtain ⟨oc, od, kV, doc, pm, an, cdv, ct, osl, rfl, lk, hcd⟩ := F.ex
  exact ⟨fun s us ws X l1 l2 => .of_eq (h kV doc pm an cdv ct us ws l1 l2), fun r1 r2 => r1.append r2⟩
/-! ### as callers see them -/
structure MetK (P : Program) (w : World) (K : PySem.W.Frag) (mg : Str → Option Value) (base : Heap) (k : Nat) (C : Addr) (m : Str) (sp : Sp) (n : Nat) (ks : List Str) (gV : List V → List V → List V) : Prop where
  ex : ∃ (f : Addr) (fd : FuncData) (ps : List Str) (g : List Value → List Value → List Value), Cls K C ∧ Meth K C m f ∧ FnOk P w K mg base CX0 k f fd ps sp ∧ KBn K fd ps n ks g gV
structure Pro (P : Program) (w : World) (K : PySem.W.Frag) (mg : Str → Option Value) (base : Heap) (k : Nat) (C : Addr) (x : Str) (sp : Sp) : Prop where
  ex : ∃ (p g : Addr) (fd : FuncData), Cls K C ∧ PropOf K C x p g ∧ FnOk P w K mg base CX0 k g fd ["self"] sp ∧ Binds K fd ["self"] []
/-- o.m(.., k = v, ..): n is one more than the values written -/
def tMethK (C : Addr) (m : Str) (sp : Sp) (n kn : Nat) (gV : List V → List V → List V) (ta : TE) (t tk : TA) : TE := fun σ H Q => ta σ H fun x H1 => ∃ a dx fs, x = .ref a ∧ H1 a = some (.ins C dx fs) ∧ fs.lookup m = none ∧ t σ H1 fun vs H2 => tk σ H2 fun zs H3 => vs.length + 1 = n ∧ zs.length = kn ∧ sp (gV (.ref a :: vs) zs) H3 Q E0
section
variable {X : Cx} {k j n : Nat} {C : Addr} {m x : Str} {ks : List Str} {sp : Sp} {pos apos : Pos} {e o : Expr} {es : List Expr} {kws : List Keyword} {ta : TE} {t tk : TA} {gV : List V → List V → List V}
theorem pe_mtK {pl : Sem Bool} (c : MetK X.prog X.w X.K X.mg X.base k C m sp n ks gV) (hr : Room j X.A) (hk : k ≤ j) (he : PE X o ta) (ha : PA X (e :: es) t) (hkw : PK X kws tk)
    (hall : (backToKw pos (keywordEach kws X.env)).all (·.1.isSome) = true := by rfl) (hks : (backToKw pos (keywordEach kws X.env)).filterMap (·.1) = ks := by rfl)
    (hst : starEach (e :: es) X.env = (false, eval e X.env) :: starEach es X.env := by rfl)
    (hpl : ((backTo pos (starEach (e :: es) X.env)).any (·.1) || (backToKw pos (keywordEach kws X.env)).any (·.1.isNone)) = false := by rfl)
    (ht : eval (.Call (.Attribute o m apos) (e :: es) kws pos) X.env = (do
      let ov ← eval o X.env
      standAt apos.atName
      let (f, first) ← holding [ov] (getMethod ov m pl)
      callWith pos f first (backTo pos (starEach (e :: es) X.env)) (backToKw pos (keywordEach kws X.env))) := by rfl) :
    PE X (.Call (.Attribute o m apos) (e :: es) kws pos) (tMethK C m sp n ks.length gV ta t tk) := by
  obtain ⟨f, fd, ps, g, hc, hm, F, b⟩ := c.ex
  refine ⟨fun pins s σ H Q I h => ?_⟩
  refine PySem.W.methodCall_KW (pl := pl) (thn (he.run pins s σ H _ I h) fun u s1 ⟨x, H1, I1, rx, a, dx, fs, ex, ea, l, q⟩ => ?_) ht
  subst ex
  obtain rfl : u = Value.ref a := rx
  refine getmeth_ok I1 ea hc hm l ?_
  refine PySem.W.callWith_KW (first := [.ref a]) (h₀ := X.base) I.ok.mod.kin hm.kp hall (thn (ha.run pos pins s1 σ H1 _ I1 q) fun us s2 ⟨vs, H2, I2, r, q2⟩ => ?_) hpl hst
  refine thn (hkw.run pos pins s2 σ H2 _ I2 q2) fun ws s3 ⟨zs, H3, I3, rz, l1, l2, q3⟩ => ⟨I3.kIn, ?_⟩
  rw [hks]
  exact run_fnN (us := .ref a :: us) (vs := .ref a :: vs) F (hr.mono hk) b pass0 I3 (.cons rfl r) rz l1 l2 q3
theorem pe_mtK0 {pl : Sem Bool} (c : MetK X.prog X.w X.K X.mg X.base k C m sp n ks gV) (hr : Room j X.A) (hk : k ≤ j) (he : PE X o ta) (hkw : PK X kws tk)
    (hall : (backToKw pos (keywordEach kws X.env)).all (·.1.isSome) = true := by rfl) (hks : (backToKw pos (keywordEach kws X.env)).filterMap (·.1) = ks := by rfl)
    (hpl : ((backTo pos (starEach [] X.env)).any (·.1) || (backToKw pos (keywordEach kws X.env)).any (·.1.isNone)) = false := by rfl)
    (ht : eval (.Call (.Attribute o m apos) [] kws pos) X.env = (do
      let ov ← eval o X.env
      standAt apos.atName
      let (f, first) ← holding [ov] (getMethod ov m pl)
      callWith pos f first (backTo pos (starEach [] X.env)) (backToKw pos (keywordEach kws X.env))) := by rfl) :
    PE X (.Call (.Attribute o m apos) [] kws pos) (tMethK C m sp n ks.length gV ta tNil tk) := by
  obtain ⟨f, fd, ps, g, hc, hm, F, b⟩ := c.ex
  refine ⟨fun pins s σ H Q I h => ?_⟩
  refine PySem.W.methodCall_KW (pl := pl) (thn (he.run pins s σ H _ I h) fun u s1 ⟨x, H1, I1, rx, a, dx, fs, ex, ea, l, q⟩ => ?_) ht
  subst ex
  obtain rfl : u = Value.ref a := rx
  refine getmeth_ok I1 ea hc hm l ?_
  refine PySem.W.callWith_KW0 (first := [.ref a]) (h₀ := X.base) I.ok.mod.kin hm.kp hall ?_ hpl
  refine thn (hkw.run pos pins s1 σ H1 _ I1 q) fun ws s3 ⟨zs, H3, I3, rz, l1, l2, q3⟩ => ⟨I3.kIn, ?_⟩
  rw [hks]
  exact run_fnN (us := [.ref a]) (vs := [.ref a]) F (hr.mono hk) b pass0 I3 (.cons rfl .nil) rz l1 l2 q3
theorem pe_pr (c : Pro X.prog X.w X.K X.mg X.base k C x sp) (hr : Room j X.A) (hk : k + 1 ≤ j) (he : PE X e ta) (hab : attributeBase e x X.env (eval e X.env) = eval e X.env := by rfl) : PE X (.Attribute e x pos) (tProp C sp [] E0 ta) := by
  obtain ⟨p, g, fd, hc, hp, F, b⟩ := c.ex
  exact pe_prop he hc hp F (hr.mono hk) b .nil pass0 hab
end
section
variable {P : Program} {w : World} {K : PySem.W.Frag} {mg : Str → Option Value} {base : Heap}
theorem metK_of {C : Addr} {x qual : Str} {st : Stmt} {ps ks N : List Str} {k n : Nat} {sp : Sp} (D : MethKE K C x qual st ps n ks) (c : Cls K C) (S : FnScope N ps (defScope st)) (len : ∀ vs H Q E, sp vs H Q E → vs.length = ps.length)
    (hbody : ∀ (f : Addr) (cdv : Value) (A : Around) (outer : List Env) (s : Shared) (H : Hp) (vs : List V) (Q : VK) (E : XK), Room k (A.deeper (envOfC qual (defScope st) s.heap.objs.size f cdv)) → sp vs H Q E →
      ∃ t, PSs (cxOf CX0 P w K mg base N qual (defScope st) f cdv A outer s H E).nox (defBody st) t ∧ t { nx := fun _ H' => Q .non H', rt := Q } (start N vs) H) : MetK P w K mg base (k + 1) C x sp n ks catG := by
  obtain ⟨f, fd, F, hm, b⟩ := D
  exact ⟨f, fd, ps, _, c, hm, F.ok S len (hbody f), b⟩
theorem pro_of {C : Addr} {x qual : Str} {st : Stmt} {N : List Str} {k : Nat} {sp : Sp} (D : PropE K C x qual st) (c : Cls K C) (S : FnScope N ["self"] (defScope st)) (len : ∀ vs H Q E, sp vs H Q E → vs.length = 1)
    (hbody : ∀ (f : Addr) (cdv : Value) (A : Around) (outer : List Env) (s : Shared) (H : Hp) (vs : List V) (Q : VK) (E : XK), Room k (A.deeper (envOfC qual (defScope st) s.heap.objs.size f cdv)) → sp vs H Q E →
      ∃ t, PSs (cxOf CX0 P w K mg base N qual (defScope st) f cdv A outer s H E).nox (defBody st) t ∧ t { nx := fun _ H' => Q .non H', rt := Q } (start N vs) H) : Pro P w K mg base (k + 1) C x sp := by
  obtain ⟨p, g, fd, hp, F, b⟩ := D
  exact ⟨p, g, fd, c, hp, F.ok S len (hbody g), b⟩
end
end VL

set_option Elab.async false
set_option linter.all false
set_option maxRecDepth 100000
set_option maxHeartbeats 4000000
namespace VL
open PySem PySem.Spec PyProof.Rows L2
/-! ### rules whose readings speak of K, with K told: within comprehensions and except suites -/
theorem u65 {A : Around} {k : Nat} (r : Room k A) : A.units + 65 < cLine := by have := r.un; omega
section
variable {X : Cx} {K : PySem.W.Frag} {e o : Expr} {f : Str} {pos : Pos} {ta : TE}
theorem pe_fldS (hK : X.K = K) (he : PE X e ta) (hb : attributeBase e f X.env (eval e X.env) = eval e X.env) : PE X (.Attribute e f pos) (tFld K ta f) := by subst hK; exact pe_fld he hb
theorem pe_conS (hK : X.K = K) (he : PE X e ta) (hb : attributeBase e f X.env (eval e X.env) = eval e X.env) : PE X (.Attribute e f pos) (tCon K ta f) := by subst hK; exact pe_con he hb
theorem pe_cvalS (hK : X.K = K) (he : PE X e ta) (hb : attributeBase e f X.env (eval e X.env) = eval e X.env := by rfl) : PE X (.Attribute e f pos) (ClX.tCVal K ta f) := by subst hK; exact ClX.pe_cval he hb
theorem ix_listS (hK : X.K = K) : IxR X (rIxL K) := by subst hK; exact ix_list
theorem ix_tupS (hK : X.K = K) : IxR X (rIxT K) := by subst hK; exact ix_tup
theorem sl_listS (hK : X.K = K) : SlR X (rSlL K) := by subst hK; exact sl_list
theorem sl_tupS (hK : X.K = K) : SlR X (rSlT K) := by subst hK; exact sl_tup
theorem op_in_seqS (hK : X.K = K) : OpR X (compareOp .In) (rIn K false) := by subst hK; exact op_in_seq
theorem op_notIn_seqS (hK : X.K = K) : OpR X (compareOp .NotIn) (rIn K true) := by subst hK; exact op_notIn_seq
theorem call_len_seqS (hK : X.K = K) : CallR X (.builtin "len") (fun xs H Q => ∃ p ys, xs = [.ref p] ∧ (SqL K H p ys ∨ SqT K H p ys) ∧ Q (.int ys.length) H) := by subst hK; exact call_len_seq
theorem call_list_ofS (hK : X.K = K) : CallR X (.type "list") (fun xs H Q => ∃ p ys, xs = [.ref p] ∧ (SqL K H p ys ∨ SqT K H p ys) ∧ ∀ l, H l = none → Q (.ref l) (upd H l (.lst ys))) := by subst hK; exact call_list_of
theorem call_isiS (hK : X.K = K) : CallR X (.builtin "isinstance") (rIsi K) := by subst hK; exact call_isi
theorem op_eqDS (hK : X.K = K) (hu : X.A.units + 64 < cLine) : OpR X (compareOp .Eq) (rEqD K) := by subst hK; exact op_eqD hu
theorem op_neDS (hK : X.K = K) (hu : X.A.units + 64 < cLine) : OpR X (compareOp .NotEq) (rNeD K) := by subst hK; exact op_neD hu
theorem cr_maxS (hK : X.K = K) (hc : X.calm = true) : CallR X (.builtin "max") (rMax K) := by subst hK; exact cr_max hc
theorem cr_minS (hK : X.K = K) (hc : X.calm = true) : CallR X (.builtin "min") (rMin K) := by subst hK; exact cr_min hc
theorem op_inDS (hK : X.K = K) (hu : X.A.units + 65 < cLine) : OpR X (compareOp .In) (rInD K) := by subst hK; exact op_inD hu
theorem pt_truthS (hK : X.K = K) (ha : PE X e ta) (he : ∀ whole, isTrue e X.env whole = (do let v ← whole; standAt e.pos; holding [v] (truthy v))) :
    PT X e (fun σ H Q => ta σ H fun x H' => ∃ k, TruV K x H' k ∧ Q k H') := by subst hK; exact pt_truth ha he
theorem pi_listS {tg : Expr} (hK : X.K = K) (hl : PE X e ta) : PI X tg e (iList K ta) := by subst hK; exact pi_list hl
theorem pi_tupS {tg : Expr} (hK : X.K = K) (hl : PE X e ta) : PI X tg e (iTup K ta) := by subst hK; exact pi_tup hl
theorem pg_tupS {es : List Expr} {k : Nat} {t : TGs} {n : Nat} (hK : X.K = K) (hc : X.calm = true) (h : PGs X es t)
    (hn : (assignEach es X.env).length = n := by rfl) (hst : (assignEach es X.env).findIdx? (·.1) = none := by rfl) : PG X (.Tuple es k pos) (gTup K n t) := by subst hK; exact pg_tup hc h hn hst
end
end VL

set_option Elab.async false
set_option linter.all false
set_option maxRecDepth 100000
set_option maxHeartbeats 4000000
namespace VL
open PySem PySem.Spec PyProof.Rows L2

/-! ### texts as lists of signs -/
abbrev TX (l : List Nat) : Str := ⟨l.toArray⟩
theorem TX_tl (l : List Nat) : (TX l).cps.toList = l := by simp
theorem TX_len (l : List Nat) : (TX l).length = l.length := by simp [Str.length]
theorem TX_cat (a b : List Nat) : TX a ++ TX b = TX (a ++ b) := SX.S_cat a b
theorem TX_inj {a b : List Nat} (h : TX a = TX b) : a = b := SX.S_inj h
theorem vstr_TX {a b : List Nat} : decide (V.str (TX a) = V.str (TX b)) = decide (a = b) := by
  by_cases e : a = b
  · subst e; simp
  · have : ¬ V.str (TX a) = V.str (TX b) := fun q => e (TX_inj (V.str.inj q))
    rw [decide_eq_false this, decide_eq_false e]
theorem one_eq {c d : Nat} : decide (V.str (TX [c]) = V.str (TX [d])) = decide (c = d) := by
  rw [vstr_TX]
  by_cases e : c = d
  · subst e; simp
  · simp [e]
/-- the sign at a place -/
theorem at_mid {pre r : List Nat} {c : Nat} {i : Int} (hi : i = (pre.length : Int)) : atI (TX (pre ++ c :: r)).cps.toList i = some c := by
  subst hi
  rw [TX_tl]
  unfold atI ixN
  rw [if_pos (by omega), if_pos (by simp; omega)]
  show (pre ++ c :: r)[(pre.length : Int).toNat]? = _
  rw [Int.toNat_natCast]
  simp
theorem getD_TX (l : List Nat) (v : Nat) : (TX l).cps.getD v 0 = l.getD v 0 := by
  simp only [Array.getD, List.getD_eq_getElem?_getD]
  by_cases h : v < l.length
  · rw [dif_pos (by simpa using h)]
    simp [h]
  · rw [dif_neg (by simpa using h), List.getElem?_eq_none (by omega)]
    rfl
theorem lt_one {c d : Nat} : ([c] < [d]) ↔ c < d := by
  constructor
  · intro h
    cases h with
    | rel h => exact h
    | cons h => cases h
  · intro h
    exact .rel h
/-- s.startswith(y, i) -/
theorem starts_at {pre R y : List Nat} {i : Int} (hi : i = (pre.length : Int)) : Txt.startswith3 (TX (pre ++ R)) (TX y) i = (R.take y.length == y) := by
  subst hi
  have e : fromIndex (TX (pre ++ R)).length (pre.length : Int) = pre.length := by
    unfold fromIndex
    rw [if_neg (by omega)]
    omega
  unfold Txt.startswith3
  rw [e, StrLaws.subAt_eq]
  have h1 : (TX (pre ++ R)).cps.toList.drop pre.length = R := by simp
  rw [h1, TX_len, TX_len]
  show (decide (pre.length + y.length ≤ (pre ++ R).length) && (R.take y.length == (TX y).cps.toList)) = _
  rw [TX_tl, List.length_append]
  by_cases h : y.length ≤ R.length
  · rw [decide_eq_true (by omega)]
    rfl
  · rw [decide_eq_false (by omega)]
    have : (R.take y.length == y) = false := by
      refine beq_eq_false_iff_ne.mpr fun q => h ?_
      have := congrArg List.length q
      rw [List.length_take] at this
      omega
    rw [this]
    rfl
/-- s.find("\n", i) -/
theorem find_nl {pre c r : List Nat} {d : Nat} {i : Int} (hi : i = (pre.length : Int)) (hc : d ∉ c) : Txt.find3 (TX (pre ++ (c ++ d :: r))) (TX [d]) i = ((pre.length + c.length : Nat) : Int) := by
  subst hi
  have e : fromIndex (TX (pre ++ (c ++ d :: r))).length (pre.length : Int) = pre.length := by
    unfold fromIndex
    rw [if_neg (by omega)]
    omega
  have hg : ∀ v, v < (pre ++ (c ++ d :: r)).length → (TX (pre ++ (c ++ d :: r))).cps.getD v 0 = (pre ++ (c ++ d :: r)).getD v 0 := fun v _ => getD_TX _ v
  have hat : (pre ++ (c ++ d :: r)).getD (pre.length + c.length) 0 = d := by simp [List.getD_eq_getElem?_getD]
  have hlt : pre.length + c.length < (pre ++ (c ++ d :: r)).length := by rw [List.length_append, List.length_append, List.length_cons]; omega
  rcases StrLaws.find3_spec (TX (pre ++ (c ++ d :: r))) d (pre.length : Int) with ⟨_, h2⟩ | ⟨k, h1, h2, h3, h4, h5⟩
  · rw [e, TX_len] at h2
    exact absurd (by rw [hg _ hlt]; exact hat) (h2 (pre.length + c.length) (by omega) hlt)
  · rw [e] at h2 h5
    rw [TX_len] at h3
    rw [h1]
    have hk : k = pre.length + c.length := by
      rcases Nat.lt_trichotomy k (pre.length + c.length) with q | q | q
      · exfalso
        rw [hg k h3] at h4
        have e3 : (pre ++ (c ++ d :: r)).getD k 0 = c.getD (k - pre.length) 0 := by
          rw [List.getD_eq_getElem?_getD, List.getD_eq_getElem?_getD, List.getElem?_append_right h2, List.getElem?_append_left (by omega)]
        rw [e3] at h4
        apply hc
        have hlt2 : k - pre.length < c.length := by omega
        rw [List.getD_eq_getElem?_getD, List.getElem?_eq_getElem hlt2] at h4
        have h4 : c[k - pre.length] = d := h4
        rw [← h4]
        exact List.getElem_mem hlt2
      · exact q
      · exfalso
        exact h5 (pre.length + c.length) (by omega) q (by rw [hg _ hlt]; exact hat)
    rw [hk]
/-- s[i:j] -/
theorem cut_mid {pre m r : List Nat} {i j : Int} (hi : i = (pre.length : Int)) (hj : j = ((pre.length + m.length : Nat) : Int)) : cutS (TX (pre ++ (m ++ r))) (some i) (some j) = TX m := by
  subst hi hj
  unfold cutS
  rw [TX_len, HT.sIx_nat, HT.sIx_nat, TX_tl]
  have e1 : min pre.length (pre ++ (m ++ r)).length = pre.length := by simp
  have e2 : min (pre.length + m.length) (pre ++ (m ++ r)).length = pre.length + m.length := by simp
  rw [e1, e2]
  refine congrArg TX ?_
  rw [List.drop_left, Nat.add_sub_cancel_left, List.take_left]

/-! ### rows -/
def rws : List Nat → List Nat → List (List Nat)
  | acc, [] => [acc]
  | acc, c :: r => if c = 10 then acc :: rws [] r else rws (acc ++ [c]) r
theorem spl_rws : ∀ (l acc : List Nat), TL.spl [10] 0 acc l = rws acc l
  | [], acc => by rw [TL.spl_nil]; rfl
  | c :: r, acc => by
    unfold rws
    by_cases h : c = 10
    · subst h
      rw [if_pos rfl, TL.spl_hit (by rfl)]
      exact congrArg (acc :: ·) (spl_rws r [])
    · rw [if_neg h, TL.spl_miss (by
        show TL.pre [10] (c :: r) = false
        unfold TL.pre
        simp [h])]
      exact spl_rws r _
theorem rws_ne : ∀ (l acc : List Nat), rws acc l ≠ []
  | [], acc => by unfold rws; simp
  | c :: r, acc => by
    unfold rws
    split
    · simp
    · exact rws_ne r _
def lnOf (l : List Nat) : Nat := (rws [] l).length
def clOf (l : List Nat) : Nat := ((rws [] l).getLast (rws_ne _ _)).length
theorem rws_plain : ∀ (l acc m : List Nat), 10 ∉ m → ∃ fr la, rws acc l = fr ++ [la] ∧ rws acc (l ++ m) = fr ++ [la ++ m]
  | [], acc, m, h => by
    refine ⟨[], acc, rfl, ?_⟩
    show rws acc m = [acc ++ m]
    induction m generalizing acc with
    | nil => rw [List.append_nil]; rfl
    | cons c m ih =>
      have hc : c ≠ 10 := fun e => h (by rw [e]; exact List.mem_cons_self)
      unfold rws
      rw [if_neg hc, ih _ fun e => h (List.mem_cons_of_mem _ e), List.append_assoc]
      rfl
  | c :: r, acc, m, h => by
    rw [List.cons_append]
    unfold rws
    by_cases hc : c = 10
    · rw [if_pos hc, if_pos hc]
      obtain ⟨fr, la, e1, e2⟩ := rws_plain r [] m h
      exact ⟨acc :: fr, la, by rw [e1]; rfl, by rw [e2]; rfl⟩
    · rw [if_neg hc, if_neg hc]
      exact rws_plain r _ m h
theorem rws_nl : ∀ (l acc : List Nat), rws acc (l ++ [10]) = rws acc l ++ [[]]
  | [], acc => by
    show rws acc [10] = [acc] ++ [[]]
    unfold rws
    rw [if_pos rfl]
    rfl
  | c :: r, acc => by
    rw [List.cons_append]
    unfold rws
    split
    · rw [rws_nl r []]; rfl
    · exact rws_nl r _
theorem getLast_of {α : Type} {l fr : List α} {la : α} (h : l ≠ []) (e : l = fr ++ [la]) : l.getLast h = la := by
  subst e
  simp
theorem ln_plain (l m : List Nat) (h : 10 ∉ m) : lnOf (l ++ m) = lnOf l := by
  obtain ⟨fr, la, e1, e2⟩ := rws_plain l [] m h
  unfold lnOf
  rw [e1, e2]
  simp
theorem cl_plain (l m : List Nat) (h : 10 ∉ m) : clOf (l ++ m) = clOf l + m.length := by
  obtain ⟨fr, la, e1, e2⟩ := rws_plain l [] m h
  unfold clOf
  rw [getLast_of _ e1, getLast_of _ e2, List.length_append]
theorem ln_nl (l : List Nat) : lnOf (l ++ [10]) = lnOf l + 1 := by
  unfold lnOf
  rw [rws_nl]
  simp
theorem cl_nl (l : List Nat) : clOf (l ++ [10]) = 0 := by
  unfold clOf
  rw [getLast_of _ (rws_nl l [])]
  rfl
theorem cl_le : ∀ l : List Nat, clOf l ≤ l.length := by
  intro l
  have : ∀ (l acc : List Nat), ((rws acc l).getLast (rws_ne _ _)).length ≤ acc.length + l.length := by
    intro l
    induction l with
    | nil => intro acc; simp [rws]
    | cons c r ih =>
      intro acc
      by_cases hc : c = 10
      · have e : rws acc (c :: r) = acc :: rws [] r := by
          show (if c = 10 then _ else _) = _
          rw [if_pos hc]
        have e2 : (rws acc (c :: r)).getLast (rws_ne _ _) = (rws [] r).getLast (rws_ne _ _) := by
          simp only [e]
          exact List.getLast_cons (rws_ne _ _)
        rw [e2]
        have := ih []
        simp at this ⊢
        omega
      · have e : rws acc (c :: r) = rws (acc ++ [c]) r := by
          show (if c = 10 then _ else _) = _
          rw [if_neg hc]
        have e2 : (rws acc (c :: r)).getLast (rws_ne _ _) = (rws (acc ++ [c]) r).getLast (rws_ne _ _) := by simp only [e]
        rw [e2]
        have := ih (acc ++ [c])
        simp at this ⊢
        omega
  have := this l []
  simpa [clOf] using this
/-- row = source.split("\n"): how many, and the last one's length -/
theorem split_rows (l : List Nat) : Txt.split (TX l) (TX [10]) = (rws [] l).map TX := by
  have := SX.split_S (a := l) (b := [10]) (by simp) (by decide)
  rw [spl_rws] at this
  exact this
theorem rows_last (l : List Nat) : ∃ la : List Nat, atI ((rws [] l).map fun r => V.str (TX r)) (-1) = some (.str (TX la)) ∧ la.length = clOf l := by
  refine ⟨(rws [] l).getLast (rws_ne _ _), ?_, rfl⟩
  have hp : 0 < (rws [] l).length := List.length_pos_iff.mpr (rws_ne _ _)
  unfold atI ixN
  rw [if_neg (by decide), if_pos (by rw [List.length_map]; omega)]
  show ((rws [] l).map fun r => V.str (TX r))[_]? = _
  have e : (-1 + (((rws [] l).map fun r => V.str (TX r)).length : Int)).toNat = (rws [] l).length - 1 := by rw [List.length_map]; omega
  rw [e, List.getElem?_map, List.getElem?_eq_getElem (by omega), List.getLast_eq_getElem]
  rfl

/-! ### signs -/
def isLet (c : Nat) : Bool := (decide (97 ≤ c) && decide (c ≤ 122)) || (decide (65 ≤ c) && decide (c ≤ 90))
def isDig (c : Nat) : Bool := decide (48 ≤ c) && decide (c ≤ 57)
def isWs (c : Nat) : Bool := isLet c || isDig c || decide (c = 95)
end VL

set_option Elab.async false
set_option linter.all false
set_option maxRecDepth 100000
set_option maxHeartbeats 4000000
namespace VL
open PySem PySem.Spec PyProof.Rows L2

section
variable {X : Cx} {CX : CXT} {k : Nat} {f : Addr} {fd : FuncData} {ps : List Str} {sp : Sp} {E : XK} {A1 : Around}
/-- a callee runs somewhere below the body -/
theorem run_at {pins : List (Addr × Obj)} {σ : L2.St} {H : Hp} {s : Shared} {Q : VK} {us : List Value} {vs : List V} (F : FnOk X.prog X.w X.K X.mg X.base CX k f fd ps sp) (sb : Sub X k A1) (hb : Binds X.K fd ps []) (hx : Passes CX X E)
    (I : Inv X pins σ H s) (r : Vals vs us) (h : sp vs H Q E) : wpAny (model X.prog X.w) A1 (call (.ref f) us) (EP X pins σ Q) X.xe s := by
  have e0 : Env0 X.prog X.w X.K X.mg X.base A1 X.stack s H := by
    have e := I.env0
    exact ⟨by rw [sb.fr]; exact e.frames, e.mod, e.bs, e.bsz, e.funs, e.frf, e.hok, e.bare⟩
  have hl := F.len _ _ _ _ h
  have hl2 : (us ++ ([] : List Value)).length = ps.length := by rw [List.append_nil, ← r.length]; exact hl
  refine wpAny_call (codeAny_mono (F.run A1 X.stack s H ⟨us, []⟩ us vs Q E sb.room e0 (by
    have q := hb s us I.kIn hl2
    rw [List.append_nil] at q
    exact q) r h) fun r s' hq => ?_)
  cases r with
  | error e => exact hx pins σ H s e s' I hq
  | ok fl =>
    cases fl with
    | ret w => exact I.after hq
    | next => exact False.elim hq
    | brk => exact False.elim hq
    | cont => exact False.elim hq

/-- x in o, o an instance with a __contains__ of the text -/
def rInOwn (C : Addr) (sp : Sp) (E : XK) : R2 := fun x y H Q => ∃ a dx fs, y = .ref a ∧ H a = some (.ins C dx fs) ∧ sp [.ref a, x] H (fun v H' => ∃ c, v = .bl c ∧ Q (.bl c) H') E
theorem op_in_own {C : Addr} (hs : PySem.W.findIn X.K (.ref C) "__contains__" = some (some (.ref f))) (hf : PySem.W.isFn X.K (.ref f) = true) (F : FnOk X.prog X.w X.K X.mg X.base CX k f fd ps sp) (hr : Room k X.A) (hb : Binds X.K fd ps []) (hx : Passes CX X E) :
    OpR X (compareOp .In) (rInOwn C sp E) := by
  intro pins s σ H x y v u Q I rx ry h
  obtain ⟨a, dx, fs, rfl, ha, q⟩ := h
  cases ry
  obtain ⟨mA, J, _⟩ := ins_get I.hok ha
  obtain ⟨od, J, _⟩ := J.look
  obtain ⟨m, hF⟩ := I.fr
  refine PySem.W.in_K hF I.ok.mod.kin J hs hf ?_
  refine wpAny_mono (run_at F ⟨hr, rfl⟩ hb hx I (.cons (show RelV (.ref a) (.ref a) from rfl) (.cons rx .nil)) q) (fun r s' hq => ?_) fun _ _ z => z
  obtain ⟨w', H', I', rw', c, rfl, q'⟩ := hq
  cases rw'
  exact wpAny_truthy_bool ⟨.bl c, H', I', rfl, q'⟩

def rNotInOwn (C : Addr) (sp : Sp) (E : XK) : R2 := fun x y H Q => ∃ a dx fs, y = .ref a ∧ H a = some (.ins C dx fs) ∧ sp [.ref a, x] H (fun v H' => ∃ c, v = .bl c ∧ Q (.bl (!c)) H') E
theorem op_notIn_own {C : Addr} (hs : PySem.W.findIn X.K (.ref C) "__contains__" = some (some (.ref f))) (hf : PySem.W.isFn X.K (.ref f) = true) (F : FnOk X.prog X.w X.K X.mg X.base CX k f fd ps sp) (hr : Room k X.A) (hb : Binds X.K fd ps []) (hx : Passes CX X E) :
    OpR X (compareOp .NotIn) (rNotInOwn C sp E) := by
  intro pins s σ H x y v u Q I rx ry h
  obtain ⟨a, dx, fs, rfl, ha, q⟩ := h
  cases ry
  obtain ⟨mA, J, _⟩ := ins_get I.hok ha
  obtain ⟨od, J, _⟩ := J.look
  obtain ⟨m, hF⟩ := I.fr
  refine PySem.W.notIn_K hF I.ok.mod.kin J hs hf ?_
  refine wpAny_mono (run_at F ⟨hr, rfl⟩ hb hx I (.cons (show RelV (.ref a) (.ref a) from rfl) (.cons rx .nil)) q) (fun r s' hq => ?_) fun _ _ z => z
  obtain ⟨w', H', I', rw', c, rfl, q'⟩ := hq
  cases rw'
  exact wpAny_truthy_bool ⟨.bl (!c), H', I', rfl, q'⟩

/-- len(o), o an instance with a __len__ of the text -/
def rLenOwn (C : Addr) (sp : Sp) (E : XK) : List V → Hp → VK → Prop := fun xs H Q => ∃ a dx fs, xs = [.ref a] ∧ H a = some (.ins C dx fs) ∧ sp [.ref a] H (fun v H' => ∃ n : Int, v = .int n ∧ 0 ≤ n ∧ n < 2 ^ 63 ∧ Q (.int n) H') E
theorem call_len_own {C : Addr} (hs : PySem.W.findIn X.K (.ref C) "__len__" = some (some (.ref f))) (hf : PySem.W.isFn X.K (.ref f) = true) (F : FnOk X.prog X.w X.K X.mg X.base CX k f fd ps sp) (hr : Room (k + 1) X.A) (hb : Binds X.K fd ps []) (hx : Passes CX X E) :
    CallR X (.builtin "len") (rLenOwn C sp E) := by
  intro pins s σ H xs us Q I rv h
  obtain ⟨a, dx, fs, rfl, ha, q⟩ := h
  obtain ⟨u, rfl, ru⟩ := rv.one
  cases ru
  obtain ⟨mA, J, _⟩ := ins_get I.hok ha
  obtain ⟨od, J, _⟩ := J.look
  have sb : Sub X k X.A.in1 := Sub.in1 (⟨hr, rfl⟩ : Sub X (k + 1) X.A)
  refine Calls.call_function_entry kind_len plain_len entry_len (args_len1 _) ?_
  unfold Builtin.«len»
  refine wpAny_bind (m := oneArg "len" _) (wpAny_pure ?_)
  refine wpAny_bind (m := callSpecial? (.ref a) (Str.ofString "__len__")) (PySem.W.special_fn I.kIn J hs (beq_iff_eq.mp hf) (wpAny_mono (run_at F sb hb hx I (.cons (show RelV (.ref a) (.ref a) from rfl) .nil) q) (fun r s' hr' => ?_) fun _ _ y => y))
  obtain ⟨v, H', I', r, n, rfl, h0, h1, hq⟩ := hr'
  obtain ⟨t, rfl⟩ := r
  refine wpAny_bind (wpAny_holding (wpAny_pure ?_))
  refine wpAny_bind (wpAny_letGo ?_)
  show wpAny _ _ (if n < 0 then _ else _) _ _ _
  rw [if_neg (by omega)]
  show wpAny _ _ (if n ≥ 2 ^ 63 then _ else _) _ _ _
  rw [if_neg (by omega)]
  exact wpAny_bind (wpAny_mkInt (wpAny_pure ⟨_, rfl, ⟨.int n, H', I'.tok _, ⟨_, rfl⟩, hq⟩⟩))
end
end VL

set_option Elab.async false
set_option linter.all false
set_option maxRecDepth 100000
set_option maxHeartbeats 4000000
namespace VL
open PySem PySem.Spec PyProof.Rows L2

/-! ### schedules: the mathematics -/
abbrev Sd := List (Nat × Int)
def look (L : Sd) (l : Nat) : Option Int := (L.find? fun e => decide (e.1 = l)).map (·.2)
structure OkD (L : Sd) : Prop where
  lt : ∀ e ∈ L, e.1 < 4
  nd : (L.map (·.1)).Nodup
def pat (l : Nat) : Int := if l = 0 then 0 else if l = 1 then 5000 else if l = 2 then 10000 else 60000
def overD (L : Sd) (now : Int) (l : Nat) : Bool := match look L l with | some t => decide (t + pat l ≤ now) | none => false
def lanesD (L : Sd) : List Nat := [0, 1, 2, 3].filter fun l => (look L l).isSome
def oversD (L : Sd) (now : Int) : List Nat := (lanesD L).filter (overD L now)
def passD (L : Sd) (now : Int) : List Nat := match (oversD L now).getLast? with | none => (lanesD L).take 1 | some m => (lanesD L).filter fun l => decide (l ≤ m)
def wholeD (L : Sd) (now : Int) : Bool := !(oversD L now).isEmpty
def wakeD (L : Sd) (l : Nat) (now : Int) : Sd := if (look L l).isSome then L else L ++ [(l, now)]
def wakeN (L : Sd) (l : Nat) (n : Int) : Int := if L.all (fun e => decide (l ≤ e.1)) then 0 else n
def endD (L : Sd) (P : List Nat) : Sd := L.filter fun e => !decide (e.1 ∈ P)
def pendD (L : Sd) : Sd := (lanesD L).map fun l => (l, (look L l).getD 0)
def kvsD (L : Sd) : List (Key × V) := L.map fun e => ((Sum.inl (e.1 : Int) : Key), V.int e.2)
theorem look_nil (l : Nat) : look [] l = none := rfl
theorem look_cons (e : Nat × Int) (L : Sd) (l : Nat) : look (e :: L) l = if e.1 = l then some e.2 else look L l := by
  unfold look
  rw [List.find?_cons]
  by_cases h : e.1 = l
  · simp [h]
  · simp [h]
theorem look_app (L : Sd) (e : Nat × Int) (l : Nat) : look (L ++ [e]) l = (look L l).or (if e.1 = l then some e.2 else none) := by
  induction L with
  | nil => rw [List.nil_append, look_cons, look_nil]; rfl
  | cons a L ih =>
    rw [List.cons_append, look_cons, look_cons, ih]
    by_cases h : a.1 = l
    · simp [h]
    · simp [h]
theorem look_mem {L : Sd} {l : Nat} {t : Int} (h : look L l = some t) : (l, t) ∈ L := by
  induction L with
  | nil => cases h
  | cons a L ih =>
    rw [look_cons] at h
    by_cases e : a.1 = l
    · rw [if_pos e] at h
      injection h with h
      have : a = (l, t) := by cases a; cases e; cases h; rfl
      rw [← this]
      exact List.mem_cons_self
    · rw [if_neg e] at h
      exact List.mem_cons_of_mem _ (ih h)
theorem look_of_mem {L : Sd} (nd : (L.map (·.1)).Nodup) {e : Nat × Int} (h : e ∈ L) : look L e.1 = some e.2 := by
  induction L with
  | nil => cases h
  | cons a L ih =>
    rw [look_cons]
    rw [List.map_cons, List.nodup_cons] at nd
    rcases List.mem_cons.mp h with rfl | h
    · rw [if_pos rfl]
    · rw [if_neg, ih nd.2 h]
      intro q
      exact nd.1 (List.mem_map.mpr ⟨e, h, q.symm⟩)
theorem look_none {L : Sd} {l : Nat} (h : look L l = none) : ∀ e ∈ L, e.1 ≠ l := by
  induction L with
  | nil => intro e he; cases he
  | cons a L ih =>
    rw [look_cons] at h
    by_cases e : a.1 = l
    · rw [if_pos e] at h; cases h
    · rw [if_neg e] at h
      intro x hx
      rcases List.mem_cons.mp hx with rfl | hx
      · exact e
      · exact ih h x hx
theorem look_some_lt {L : Sd} (O : OkD L) {l : Nat} (h : (look L l).isSome = true) : l < 4 := by
  cases e : look L l with
  | none => rw [e] at h; cases h
  | some t => exact O.lt _ (look_mem e)
theorem OkD.nil : OkD [] := ⟨fun e h => (by cases h), List.nodup_nil⟩
theorem OkD.wake {L : Sd} (O : OkD L) {l : Nat} (hl : l < 4) (now : Int) : OkD (wakeD L l now) := by
  unfold wakeD
  split
  · exact O
  · rename_i h
    have hn : look L l = none := by
      cases e : look L l with
      | none => rfl
      | some t => rw [e] at h; exact absurd rfl h
    refine ⟨fun e he => ?_, ?_⟩
    · rcases List.mem_append.mp he with he | he
      · exact O.lt _ he
      · rw [List.mem_singleton.mp he]; exact hl
    · rw [List.map_append, List.nodup_append]
      refine ⟨O.nd, by simp, fun a ha b hb => ?_⟩
      obtain ⟨e, he, rfl⟩ := List.mem_map.mp ha
      have : b = l := by simpa using hb
      rw [this]
      exact look_none hn e he
theorem look_wake {L : Sd} {l k : Nat} {now : Int} : look (wakeD L l now) k = if k = l then some ((look L l).getD now) else look L k := by
  unfold wakeD
  split
  · rename_i h
    split
    · rename_i e
      subst e
      cases q : look L k with
      | none => rw [q] at h; cases h
      | some t => rfl
    · rfl
  · rename_i h
    have hn : look L l = none := by
      cases e : look L l with
      | none => rfl
      | some t => rw [e] at h; exact absurd rfl h
    rw [look_app]
    by_cases e : k = l
    · subst e
      rw [if_pos rfl, hn, if_pos rfl]
      rfl
    · rw [if_neg e, if_neg fun q => e q.symm]
      cases look L k <;> rfl
theorem OkD.endd {L : Sd} (O : OkD L) (P : List Nat) : OkD (endD L P) :=
  ⟨fun e he => O.lt _ (List.mem_filter.mp he).1, O.nd.sublist (List.Sublist.map _ List.filter_sublist)⟩
theorem look_end {L : Sd} {P : List Nat} {k : Nat} : look (endD L P) k = if k ∈ P then none else look L k := by
  unfold endD
  induction L with
  | nil => rw [List.filter_nil, look_nil]; split <;> rfl
  | cons a L ih =>
    rw [List.filter_cons]
    by_cases h : a.1 ∈ P
    · rw [if_neg (by simp [h]), ih, look_cons]
      by_cases e : a.1 = k
      · rw [if_pos (by rw [← e]; exact h), if_pos (by rw [← e]; exact h)]
      · rw [if_neg e]
    · rw [if_pos (by simp [h]), look_cons, look_cons, ih]
      by_cases e : a.1 = k
      · rw [if_pos e, if_pos e, if_neg (by rw [← e]; exact h)]
      · rw [if_neg e, if_neg e]
theorem mem_lanes {L : Sd} (O : OkD L) {l : Nat} : l ∈ lanesD L ↔ (look L l).isSome = true := by
  unfold lanesD
  rw [List.mem_filter]
  refine ⟨fun h => h.2, fun h => ⟨?_, h⟩⟩
  have := look_some_lt O h
  simp
  omega
theorem lanes_sorted (L : Sd) : (lanesD L).Pairwise (· < ·) := List.Pairwise.sublist List.filter_sublist (by decide)
theorem eq_of_sorted : ∀ {a b : List Int}, a.Pairwise (· < ·) → b.Pairwise (· < ·) → (∀ x, x ∈ a ↔ x ∈ b) → a = b
  | [], [], _, _, _ => rfl
  | [], y :: b, _, _, h => absurd ((h y).mpr List.mem_cons_self) (by simp)
  | x :: a, [], _, _, h => absurd ((h x).mp List.mem_cons_self) (by simp)
  | x :: a, y :: b, ha, hb, h => by
    rw [List.pairwise_cons] at ha hb
    have e : x = y := by
      rcases Int.lt_trichotomy x y with q | q | q
      · rcases List.mem_cons.mp ((h x).mp List.mem_cons_self) with r | r
        · exact r
        · have := hb.1 _ r; omega
      · exact q
      · rcases List.mem_cons.mp ((h y).mpr List.mem_cons_self) with r | r
        · exact r.symm
        · have := ha.1 _ r; omega
    subst e
    rw [eq_of_sorted ha.2 hb.2 fun z => ⟨fun m => ?_, fun m => ?_⟩]
    · rcases List.mem_cons.mp ((h z).mp (List.mem_cons_of_mem _ m)) with r | r
      · have := ha.1 _ m; omega
      · exact r
    · rcases List.mem_cons.mp ((h z).mpr (List.mem_cons_of_mem _ m)) with r | r
      · have := hb.1 _ m; omega
      · exact r
theorem strict_of {a : List Int} (nd : a.Nodup) (h : a.Pairwise (· ≤ ·)) : a.Pairwise (· < ·) := by
  refine (nd.and h).imp fun {x y} q => ?_
  have := q.1
  have := q.2
  omega
theorem sorted_keys {L : Sd} (O : OkD L) {ns : List Int} (hp : ns.Perm (L.map fun e => (e.1 : Int))) (hs : ns.Pairwise (· ≤ ·)) : ns = (lanesD L).map fun (l : Nat) => (l : Int) := by
  have nd0 : (L.map fun e => (e.1 : Int)).Nodup := by
    have : (L.map fun e => (e.1 : Int)) = (L.map (·.1)).map (fun (n : Nat) => (n : Int)) := by rw [List.map_map]; rfl
    rw [this]
    exact List.Pairwise.map _ (fun a b h q => h (by omega)) O.nd
  refine eq_of_sorted (strict_of (hp.nodup_iff.mpr nd0) hs) ((lanes_sorted L).map _ fun a b h => by omega) fun x => ?_
  rw [hp.mem_iff, List.mem_map, List.mem_map]
  constructor
  · rintro ⟨e, he, rfl⟩
    exact ⟨e.1, (mem_lanes O).mpr (by rw [look_of_mem O.nd he]; rfl), rfl⟩
  · rintro ⟨l, hl, rfl⟩
    have h := (mem_lanes O).mp hl
    cases q : look L l with
    | none => rw [q] at h; cases h
    | some t => exact ⟨_, look_mem q, rfl⟩
theorem kvsD_len (L : Sd) : (kvsD L).length = L.length := by unfold kvsD; rw [List.length_map]
theorem OkD.len {L : Sd} (O : OkD L) : L.length ≤ 4 := by
  have h : ∀ (n : Nat) (xs : List Nat), (∀ x ∈ xs, x < n) → xs.Nodup → xs.length ≤ n := by
    intro n
    induction n with
    | zero =>
      intro xs h _
      cases xs with
      | nil => exact Nat.le_refl _
      | cons a xs => exact absurd (h a List.mem_cons_self) (Nat.not_lt_zero _)
    | succ n ih =>
      intro xs h nd
      have h1 : (xs.filter fun x => !decide (x = n)).length ≤ n := by
        refine ih _ (fun x hx => ?_) (nd.sublist List.filter_sublist)
        have := List.mem_filter.mp hx
        have h2 := h x this.1
        have h3 : x ≠ n := by simpa using this.2
        omega
      have h2 : xs.length ≤ (xs.filter fun x => !decide (x = n)).length + 1 := by
        clear h h1 ih
        induction xs with
        | nil => exact Nat.zero_le _
        | cons a xs ih2 =>
          rw [List.nodup_cons] at nd
          by_cases e : a = n
          · subst e
            have : xs.filter (fun x => !decide (x = a)) = xs := by
              rw [List.filter_eq_self]
              intro x hx
              have : x ≠ a := fun q => nd.1 (q ▸ hx)
              simpa using this
            rw [List.filter_cons, if_neg (by simp), this, List.length_cons]
            omega
          · rw [List.filter_cons, if_pos (by simp [e]), List.length_cons, List.length_cons]
            have := ih2 nd.2
            omega
      omega
  have := h 4 (L.map (·.1)) (fun x hx => by
    obtain ⟨e, he, rfl⟩ := List.mem_map.mp hx
    exact O.lt _ he) O.nd
  rw [List.length_map] at this
  exact this
theorem valV_kvsD (L : Sd) (l : Nat) : valV (kvsD L) (Sum.inl (l : Int) : Key) = (look L l).map V.int := by
  induction L with
  | nil => rfl
  | cons a L ih =>
    show valV (((Sum.inl (a.1 : Int) : Key), V.int a.2) :: kvsD L) _ = _
    rw [look_cons]
    by_cases e : a.1 = l
    · subst e
      rw [valV_pos rfl, if_pos rfl]
      rfl
    · rw [valV_neg (fun q => e (by have := Sum.inl.inj q; omega)), ih, if_neg e]
theorem kvsD_put {L : Sd} {l : Nat} {now : Int} (h : look L l = none) : putK (kvsD L) (Sum.inl (l : Int) : Key) (V.int now) = kvsD (L ++ [(l, now)]) := by
  rw [putK_new _ (by rw [valV_kvsD, h]; rfl)]
  unfold kvsD
  rw [List.map_append]
  rfl
theorem lanes_nil {L : Sd} (O : OkD L) : lanesD L = [] ↔ L = [] := by
  constructor
  · intro h
    cases L with
    | nil => rfl
    | cons a L =>
      have : a.1 ∈ lanesD (a :: L) := (mem_lanes O).mpr (by rw [look_cons, if_pos rfl]; rfl)
      rw [h] at this
      cases this
  · rintro rfl
    rfl
theorem lanes_len (L : Sd) : (lanesD L).length ≤ 4 := Nat.le_trans (List.length_filter_le _ _) (by decide)
theorem over_some {L : Sd} {now : Int} {l : Nat} (h : overD L now l = true) : (look L l).isSome = true := by
  unfold overD at h
  cases e : look L l with
  | none => rw [e] at h; cases h
  | some t => rfl
/-- a pass has all pending lanes above its last one -/
theorem pass_upper {L : Sd} (O : OkD L) {now : Int} {m : Nat} (hm : (passD L now).getLast? = some m) {l : Nat} (hl : l ∈ lanesD L) (hlt : l < m) : l ∈ passD L now := by
  unfold passD at hm ⊢
  cases q : (oversD L now).getLast? with
  | none =>
    rw [q] at hm
    dsimp only at hm ⊢
    cases e : lanesD L with
    | nil => rw [e] at hl; cases hl
    | cons a r =>
      rw [e] at hm hl
      have : a = m := by simpa using hm
      subst this
      have hs := lanes_sorted L
      rw [e, List.pairwise_cons] at hs
      rcases List.mem_cons.mp hl with rfl | h
      · omega
      · have := hs.1 _ h; omega
  | some k =>
    rw [q] at hm
    dsimp only at hm ⊢
    have h1 : m ∈ (lanesD L).filter fun l => decide (l ≤ k) := List.mem_of_getLast? hm
    have h2 : m ≤ k := of_decide_eq_true (List.mem_filter.mp h1).2
    exact List.mem_filter.mpr ⟨hl, decide_eq_true (by omega)⟩
theorem pass_sub {L : Sd} {now : Int} {l : Nat} (h : l ∈ passD L now) : l ∈ lanesD L := by
  unfold passD at h
  split at h
  · exact List.mem_of_mem_take h
  · exact (List.mem_filter.mp h).1
theorem pass_ne {L : Sd} {now : Int} (h : lanesD L ≠ []) : passD L now ≠ [] := by
  unfold passD
  cases q : (oversD L now).getLast? with
  | none =>
    cases e : lanesD L with
    | nil => exact absurd e h
    | cons a r => simp
  | some k =>
    have hk : k ∈ oversD L now := List.mem_of_getLast? q
    have : k ∈ (lanesD L).filter fun l => decide (l ≤ k) := List.mem_filter.mpr ⟨(List.mem_filter.mp hk).1, decide_eq_true (Nat.le_refl _)⟩
    intro e
    dsimp only at e
    rw [e] at this
    cases this
theorem end_len {L : Sd} {P : List Nat} {l : Nat} (h : (look L l).isSome = true) (hp : l ∈ P) : (endD L P).length < L.length := by
  unfold endD
  cases e : look L l with
  | none => rw [e] at h; cases h
  | some t =>
    have hm := look_mem e
    clear h e
    induction L with
    | nil => cases hm
    | cons a L ih =>
      rw [List.filter_cons]
      rcases List.mem_cons.mp hm with rfl | hm
      · rw [if_neg (by simp [hp])]
        exact Nat.lt_succ_of_le (List.length_filter_le _ _)
      · have := ih hm
        split
        · rw [List.length_cons, List.length_cons]; omega
        · rw [List.length_cons]; omega
end VL
namespace VL
open PySem PySem.Spec PyProof.Rows L2
theorem m2_ofs : True := trivial
/-! ### dict comprehensions over any walk; dicts read while locked -/
theorem dc_it {J : It} {n : Nat} {G : Hp → Prop} {Y : Nat → Hp → V → Hp → Prop} (w : Walk J n G Y) {g : TG} {tt : TT} {tk tv : TE} {vs : List Nat} {σ : L2.St} {H1 : Hp} {D : Addr} {Qd : Hp → Prop} (Pv : Nat → Hp → Prop) (h0 : Pv 0 (upd H1 D (.dK []))) (hG : ∀ i H, i ≤ n → Pv i H → G H)
    (hs : ∀ i x H H', i < n → Pv i H → Y i H x H' → g x (wipe σ vs) H' fun σ2 H2 => wipe σ2 vs = wipe σ vs ∧ tt σ2 H2 fun b H3 =>
      if b = true then tk σ2 H3 fun y H4 => tv σ2 H4 fun z H5 => ∃ kvs k, y = kV k ∧ H5 D = some (.dK kvs) ∧ kvs.length < sizeLine ∧ Pv (i + 1) (upd H5 D (.dK (putK kvs k z))) else Pv (i + 1) H3) (hd : ∀ H, Pv n H → Qd H) :
    ∃ W : Nat → Nat → Hp → Prop, (∃ m, W 0 m (upd H1 D (.dK []))) ∧ ∀ i m H, W i m H →
      (J.stop i H ∧ Qd H) ∨ (J.go i H ∧ ∃ Nx : Hp → Prop, (∀ H', Nx H' → ∃ m', m' < m ∧ W (i + 1) m' H') ∧ ∀ x H', J.yld i H x H' → g x (wipe σ vs) H' fun σ2 H2 => wipe σ2 vs = wipe σ vs ∧ tt σ2 H2 fun b H3 =>
        if b = true then tk σ2 H3 fun y H4 => tv σ2 H4 fun z H5 => ∃ kvs k, y = kV k ∧ H5 D = some (.dK kvs) ∧ kvs.length < sizeLine ∧ Nx (upd H5 D (.dK (putK kvs k z))) else Nx H3) := by
  refine ⟨fun i m H => m = n - i ∧ i ≤ n ∧ Pv i H, ⟨n, by simp, Nat.zero_le _, h0⟩, ?_⟩
  rintro i m H ⟨rfl, hi, p⟩
  have q := hG i H hi p
  by_cases hlt : i < n
  · refine .inr ⟨w.goes i H hlt q, Pv (i + 1), fun H' p' => ⟨n - (i + 1), by omega, rfl, hlt, p'⟩, fun x H' y => hs i x H H' hlt p (w.yields i H x H' hlt q y)⟩
  · have e : i = n := by omega
    subst e
    exact .inl ⟨w.stops H q, hd H p⟩
theorem DGet.kf {H : Hp} {a : Addr} {o : Obj} {kvs : List (Key × V)} {k : Key} (e : H a = some (.frz o (.dK kvs))) : DGet H a (kV k) (valV kvs k) := .inl ⟨kvs, k, .inr ⟨o, e⟩, rfl, rfl⟩
theorem unlock_eq {H : Hp} {D d : Addr} {x y u : HO} (h : D ≠ d) (hd : H d = some u) : upd (upd (upd H d x) D y) d u = upd H D y := by
  funext b
  by_cases e : b = d
  · subst e
    rw [upd_same, upd_ne h.symm, hd]
  · rw [upd_ne e]
    by_cases e2 : b = D
    · subst e2
      rw [upd_same, upd_same]
    · rw [upd_ne e2, upd_ne e2, upd_ne e]
theorem wakeN_eq (L : Sd) (l : Nat) (n : Int) : wakeN L l n = if ((L.filter fun e => decide (e.1 < l)).map fun e => V.int (e.1 : Int)).isEmpty = true then 0 else n := by
  unfold wakeN
  have : L.all (fun e => decide (l ≤ e.1)) = ((L.filter fun e => decide (e.1 < l)).map fun e => V.int (e.1 : Int)).isEmpty := by
    induction L with
    | nil => rfl
    | cons a L ih =>
      rw [List.all_cons, List.filter_cons, ih]
      by_cases h : a.1 < l
      · rw [decide_eq_false (by omega), if_pos (decide_eq_true h)]
        rfl
      · rw [decide_eq_true (by omega), if_neg (by simp; omega)]
        rfl
  rw [this]
theorem take_filter {α β : Type} {L : List α} {p : α → Bool} {f : α → β} {i : Nat} (hi : i < L.length) : ((L.take (i + 1)).filter p).map f = ((L.take i).filter p).map f ++ if p L[i] = true then [f L[i]] else [] := by
  rw [List.take_add_one, List.getElem?_eq_getElem hi, List.filter_append, List.map_append]
  congr 1
  show (List.filter p [L[i]]).map f = _
  rw [List.filter_cons]
  split <;> rfl
theorem inV_l (l : Nat) : ∀ P : List Nat, inV (.int (l : Int)) (P.map fun (k : Nat) => V.int (k : Int)) = decide (l ∈ P)
  | [] => rfl
  | a :: P => by
    show (eqV (.int (a : Int)) (.int (l : Int)) || inV (.int (l : Int)) (P.map fun (k : Nat) => V.int (k : Int))) = _
    rw [inV_l l P]
    show (((a : Int) == (l : Int)) || decide (l ∈ P)) = decide (l ∈ a :: P)
    by_cases e : a = l
    · subst e
      simp
    · have e2 : l ≠ a := fun q => e q.symm
      have e3 : ((a : Int) == (l : Int)) = false := beq_eq_false_iff_ne.mpr (by omega)
      simp [e2, e3]
theorem flat_l : ∀ P : List Nat, (P.map fun (k : Nat) => V.int (k : Int)).all flatV = true
  | [] => rfl
  | a :: P => by
    show (true && (P.map fun (k : Nat) => V.int (k : Int)).all flatV) = true
    rw [flat_l P]
    rfl
theorem endD_snoc {L : Sd} {P : List Nat} {i : Nat} (hi : i < L.length) : endD (L.take (i + 1)) P = if L[i].1 ∈ P then endD (L.take i) P else endD (L.take i) P ++ [L[i]] := by
  unfold endD
  rw [List.take_add_one, List.getElem?_eq_getElem hi, List.filter_append]
  show _ ++ List.filter _ [L[i]] = _
  by_cases h : L[i].1 ∈ P
  · rw [if_pos h, List.filter_cons, if_neg (by simp [h])]
    simp
  · rw [if_neg h, List.filter_cons, if_pos (by simp [h])]
    rfl
theorem look_take {L : Sd} (nd : (L.map (·.1)).Nodup) {P : List Nat} {i : Nat} (hi : i < L.length) : look (endD (L.take i) P) L[i].1 = none := by
  cases e : look (endD (L.take i) P) L[i].1 with
  | none => rfl
  | some t =>
    exfalso
    have hm := (List.mem_filter.mp (look_mem e)).1
    obtain ⟨j, hj, ej⟩ := List.getElem_of_mem hm
    have hj2 : j < i := by rw [List.length_take] at hj; omega
    have e1 : (L.map (·.1))[j]'(by rw [List.length_map]; omega) = (L.map (·.1))[i]'(by rw [List.length_map]; exact hi) := by
      rw [List.getElem_map, List.getElem_map]
      rw [List.getElem_take] at ej
      rw [ej]
    exact (List.pairwise_iff_getElem.mp nd) j i _ _ hj2 e1
theorem last_at {α : Type} {xs : List α} {x : α} : atI (xs ++ [x]) (-1) = some x := by
  unfold atI ixN
  rw [if_neg (by decide), if_pos (by rw [List.length_append]; simp; omega)]
  show (xs ++ [x])[_]? = _
  have e : (-1 + ((xs ++ [x]).length : Int)).toNat = xs.length := by rw [List.length_append]; simp; omega
  rw [e]
  simp
theorem at_last {l : List Nat} {m : Nat} (h : l.getLast? = some m) : atI (l.map fun (k : Nat) => V.int (k : Int)) (-1) = some (.int (m : Int)) := by
  obtain ⟨ys, e⟩ := List.getLast?_eq_some_iff.mp h
  rw [e, List.map_append]
  exact last_at
theorem cut_one (xs : List V) : cutV xs none (some 1) = xs.take 1 := by
  cases xs with
  | nil => rfl
  | cons a r =>
    unfold cutV
    have h1 : HT.sIx (a :: r).length 0 none = 0 := rfl
    have h2 : HT.sIx (a :: r).length (a :: r).length (some 1) = 1 := by
      unfold HT.sIx
      simp
    rw [h1, h2]
    rfl
theorem eq_of_sortedK {α : Type} {f : α → Int} : ∀ {a b : List α}, a.Pairwise (fun x y => f x < f y) → b.Pairwise (fun x y => f x < f y) → (∀ x, x ∈ a ↔ x ∈ b) → a = b
  | [], [], _, _, _ => rfl
  | [], y :: b, _, _, h => absurd ((h y).mpr List.mem_cons_self) (by simp)
  | x :: a, [], _, _, h => absurd ((h x).mp List.mem_cons_self) (by simp)
  | x :: a, y :: b, ha, hb, h => by
    rw [List.pairwise_cons] at ha hb
    have e : x = y := by
      rcases List.mem_cons.mp ((h x).mp List.mem_cons_self) with r | r
      · exact r
      · rcases List.mem_cons.mp ((h y).mpr List.mem_cons_self) with r2 | r2
        · exact r2.symm
        · have h1 := hb.1 _ r
          have h2 := ha.1 _ r2
          omega
    subst e
    rw [eq_of_sortedK ha.2 hb.2 fun z => ⟨fun m => ?_, fun m => ?_⟩]
    · rcases List.mem_cons.mp ((h z).mp (List.mem_cons_of_mem _ m)) with r | r
      · have := ha.1 _ m; rw [r] at this; omega
      · exact r
    · rcases List.mem_cons.mp ((h z).mpr (List.mem_cons_of_mem _ m)) with r | r
      · have := hb.1 _ m; rw [r] at this; omega
      · exact r
def cstE (e : Nat × Int) : Int × Int := ((e.1 : Int), e.2)
theorem pend_sorted {L : Sd} (O : OkD L) {A : List (Int × Int)} (hp : A.Perm (L.map cstE)) (hs : A.Pairwise fun x y => SrtO.lexB y x = false) : A = (pendD L).map cstE := by
  have nd0 : (L.map cstE).Pairwise (fun x y => x.1 ≠ y.1) := by
    have h := O.nd
    unfold List.Nodup at h
    rw [List.pairwise_map] at h
    rw [List.pairwise_map]
    exact h.imp fun {a b} q => by show (a.1 : Int) ≠ (b.1 : Int); omega
  have nd1 : A.Pairwise (fun x y => x.1 ≠ y.1) := hp.symm.pairwise nd0 fun {x y} h => Ne.symm h
  refine eq_of_sortedK (f := Prod.fst) ((hs.and nd1).imp fun {x y} q => ?_) ?_ fun x => ?_
  · have h1 := q.1
    have h2 := q.2
    unfold SrtO.lexB at h1
    rw [if_neg (fun e => h2 e.symm)] at h1
    have := of_decide_eq_false h1
    omega
  · unfold pendD
    rw [List.map_map]
    exact List.Pairwise.map _ (fun a b h => by show (a : Int) < (b : Int); omega) (lanes_sorted L)
  · rw [hp.mem_iff]
    unfold pendD
    rw [List.map_map, List.mem_map, List.mem_map]
    constructor
    · rintro ⟨e, he, rfl⟩
      have := look_of_mem O.nd he
      refine ⟨e.1, (mem_lanes O).mpr (by rw [this]; rfl), ?_⟩
      show cstE (e.1, (look L e.1).getD 0) = _
      rw [this]
      rfl
    · rintro ⟨l, hl, rfl⟩
      have h := (mem_lanes O).mp hl
      cases q : look L l with
      | none => rw [q] at h; cases h
      | some t =>
        refine ⟨_, look_mem q, ?_⟩
        show _ = cstE (l, (look L l).getD 0)
        rw [q]
        rfl
/-- the pair at an address -/
def kapH (H : Hp) (v : V) : Int × Int := match v with
  | .ref t => match H t with | some (.tup [.int i, .int j]) => (i, j) | _ => (0, 0)
  | _ => (0, 0)
theorem kapH_at {H : Hp} {t : Addr} {i j : Int} (h : H t = some (.tup [.int i, .int j])) : kapH H (.ref t) = (i, j) := by
  show (match H t with | some (.tup [.int i, .int j]) => (i, j) | _ => (0, 0)) = _
  rw [h]
theorem paired_kap {H : Hp} : ∀ {ys : List V} {B : List (Nat × Int)}, (∀ y ∈ ys, ∃ t, y = .ref t ∧ H t = some (.tup [.int (kapH H y).1, .int (kapH H y).2])) → ys.map (kapH H) = B.map cstE →
    ∃ ts : List Addr, ys = ts.map V.ref ∧ Paired (fun t (e : Nat × Int) => H t = some (.tup [.int (e.1 : Int), .int e.2])) ts B
  | [], [], _, _ => ⟨[], rfl, .nil⟩
  | [], b :: B, _, e => by cases e
  | y :: ys, [], _, e => by cases e
  | y :: ys, b :: B, h, e => by
    injection e with e1 e2
    obtain ⟨ts, e3, pr⟩ := paired_kap (fun z hz => h z (List.mem_cons_of_mem _ hz)) e2
    obtain ⟨t, e4, e5⟩ := h y List.mem_cons_self
    rw [e1] at e5
    exact ⟨t :: ts, by rw [e4, e3]; rfl, .cons e5 pr⟩
theorem kap_of_paired {H : Hp} : ∀ {ts : List Addr} {L : Sd}, Paired (fun t (q : Key × V) => H t = some (.tup [kV q.1, q.2])) ts (kvsD L) → (ts.map V.ref).map (kapH H) = L.map cstE ∧ ∀ y ∈ ts.map V.ref, ∃ t, y = .ref t ∧ H t = some (.tup [.int (kapH H y).1, .int (kapH H y).2])
  | [], [], _ => ⟨rfl, fun y hy => by cases hy⟩
  | [], e :: L, h => by cases h
  | t :: ts, [], h => by cases h
  | t :: ts, e :: L, h => by
    cases h with
    | cons r rr =>
      obtain ⟨e1, e2⟩ := kap_of_paired (L := L) rr
      have r' : H t = some (.tup [.int (e.1 : Int), .int e.2]) := r
      refine ⟨?_, fun y hy => ?_⟩
      · show kapH H (.ref t) :: (ts.map V.ref).map (kapH H) = cstE e :: L.map cstE
        rw [e1, kapH_at r']
        rfl
      · rcases List.mem_cons.mp hy with rfl | hy
        · exact ⟨t, rfl, by rw [kapH_at r']; exact r'⟩
        · exact e2 y hy
/-! ### a schedule on the heap -/
def fsD (d : Addr) (n : Int) : List (Str × V) := [("ticks", .ref d), ("portions", .int n)]
theorem fsD_ticks (d : Addr) (n : Int) : (fsD d n).lookup ("ticks" : Str) = some (.ref d) := by rfl
theorem fsD_portions (d : Addr) (n : Int) : (fsD d n).lookup ("portions" : Str) = some (.int n) := by rfl
theorem putD_ticks (d d' : Addr) (n : Int) : putF "ticks" (.ref d') (fsD d n) = fsD d' n := by rfl
theorem putD_portions (d : Addr) (n n' : Int) : putF "portions" (.int n') (fsD d n) = fsD d n' := by rfl
/-- a schedule stands at p, its dict at d -/
structure SchA (C : Addr) (H : Hp) (p d : Addr) (L : Sd) (n : Int) : Prop where
  ob : ∃ dx, H p = some (.ins C dx (fsD d n))
  dc : H d = some (.dK (kvsD L))
  ok : OkD L
/-- all but p and d is kept -/
def K2 (p d : Addr) (H H' : Hp) : Prop := ∀ b o, H b = some o → b ≠ p → b ≠ d → H' b = some o
theorem K2.refl {p d : Addr} {H : Hp} : K2 p d H H := fun _ _ e _ _ => e
theorem SchA.same {C p d : Addr} {H H' : Hp} {L : Sd} {n : Int} (S : SchA C H p d L n) (s : Same H H') : SchA C H' p d L n := by
  obtain ⟨⟨dx, h⟩, h2, ok⟩ := S
  exact ⟨⟨dx, s _ _ h⟩, s _ _ h2, ok⟩
theorem SchA.pd {C p d : Addr} {H : Hp} {L : Sd} {n : Int} (S : SchA C H p d L n) : p ≠ d := by
  obtain ⟨⟨dx, h⟩, h2, ok⟩ := S
  exact ne_of h h2 (by intro e; cases e)
/-- what is no instance and no dict is kept -/
theorem K2.lst {C p d a : Addr} {H H' : Hp} {L : Sd} {n : Int} (k : K2 p d H H') (S : SchA C H p d L n) {xs : List V} (h : H a = some (.lst xs)) : H' a = some (.lst xs) := by
  obtain ⟨⟨dx, h1⟩, h2, _⟩ := S
  exact k _ _ h (ne_of h h1 (by intro e; cases e)) (ne_of h h2 (by intro e; cases e))
theorem K2.tup {C p d a : Addr} {H H' : Hp} {L : Sd} {n : Int} (k : K2 p d H H') (S : SchA C H p d L n) {xs : List V} (h : H a = some (.tup xs)) : H' a = some (.tup xs) := by
  obtain ⟨⟨dx, h1⟩, h2, _⟩ := S
  exact k _ _ h (ne_of h h1 (by intro e; cases e)) (ne_of h h2 (by intro e; cases e))
def lV (l : Nat) : V := .int (l : Int)
/-! ### promises -/
def spSInit (C : Addr) : Sp := fun vs H Q _ => ∃ (p dx : Addr), vs = [.ref p] ∧ H p = some (.ins C dx []) ∧ ∀ d H', H d = none → SchA C H' p d [] 0 → (∀ b o, H b = some o → b ≠ p → H' b = some o) → Q .non H'
def spSHas (C : Addr) : Sp := fun vs H Q _ => ∃ (p d : Addr) (L : Sd) (n : Int) (l : Nat), vs = [.ref p, lV l] ∧ SchA C H p d L n ∧ Q (.bl (look L l).isSome) H
def spSWake (C : Addr) : Sp := fun vs H Q _ => ∃ (p d : Addr) (L : Sd) (n : Int) (l : Nat) (now : Int), vs = [.ref p, lV l, .int now] ∧ SchA C H p d L n ∧ l < 4 ∧ ∀ v H', SchA C H' p d (wakeD L l now) (wakeN L l n) → K2 p d H H' → Q v H'
def spSOver (C : Addr) : Sp := fun vs H Q _ => ∃ (p d : Addr) (L : Sd) (n : Int) (l : Nat) (now : Int), vs = [.ref p, lV l, .int now] ∧ SchA C H p d L n ∧ l < 4 ∧ Q (.bl (overD L now l)) H
def spSNext (C : Addr) : Sp := fun vs H Q _ => ∃ (p d : Addr) (L : Sd) (n : Int) (now : Int), vs = [.ref p, .int now] ∧ SchA C H p d L n ∧ (lanesD L = [] → ∀ H', Same H H' → Q .non H') ∧
  (lanesD L ≠ [] → ∀ t li H', Same H H' → H t = none → H li = none → H' t = some (.tup [.ref li, .bl (wholeD L now)]) → H' li = some (.lst ((passD L now).map lV)) → Q (.ref t) H')
def spSPortion (C : Addr) : Sp := fun vs H Q _ => ∃ (p d : Addr) (L : Sd) (n cost : Int), vs = [.ref p, .int cost] ∧ SchA C H p d L n ∧ ∀ H', SchA C H' p d L (if L = [] then n else n + 1) → K2 p d H H' → Q (.bl (decide (cost ≤ (if L = [] then n else n + 1)))) H'
def spSEnd (C : Addr) (K : PySem.W.Frag) : Sp := fun vs H Q _ => ∃ (p d la : Addr) (L : Sd) (n : Int) (P : List Nat), vs = [.ref p, .ref la] ∧ SchA C H p d L n ∧ SqL K H la (P.map lV) ∧ ∀ d' H', SchA C H' p d' (endD L P) 0 → K2 p d H H' → H d' = none → Q .non H'
def spSPending (C : Addr) : Sp := fun vs H Q _ => ∃ (p d : Addr) (L : Sd) (n : Int), vs = [.ref p] ∧ SchA C H p d L n ∧ ∀ r (ts : List Addr) H', Same H H' → H r = none → (∀ t ∈ ts, H t = none) → r ∉ ts → H' r = some (.lst (ts.map V.ref)) → Paired (fun t (e : Nat × Int) => H' t = some (.tup [lV e.1, .int e.2])) ts (pendD L) → Q (.ref r) H'
def spSDone (C : Addr) : Sp := fun vs H Q _ => ∃ (p d : Addr) (L : Sd) (n : Int), vs = [.ref p] ∧ SchA C H p d L n ∧ Q (.int n) H

/-! ### what k37 asks -/
theorem pendD_fst (L : Sd) : (pendD L).map (·.1) = lanesD L := by
  unfold pendD
  rw [List.map_map]
  exact List.map_id _
theorem lanes_cons {L : Sd} {m : Nat} {r : List Nat} (h : lanesD L = m :: r) : ∃ r', pendD L = (m, (look L m).getD 0) :: r' := ⟨r.map fun l => (l, (look L l).getD 0), by unfold pendD; rw [h]; rfl⟩
theorem lanes_min {L : Sd} (O : OkD L) {m : Nat} {r : List Nat} (h : lanesD L = m :: r) : ∀ e ∈ L, m ≤ e.1 := fun e he => by
  have hl : e.1 ∈ lanesD L := (mem_lanes O).mpr (by rw [look_of_mem O.nd he]; rfl)
  have hs := lanes_sorted L
  rw [h] at hl hs
  rw [List.pairwise_cons] at hs
  rcases List.mem_cons.mp hl with q | q
  · omega
  · have := hs.1 _ q; omega
theorem wakeN_min {L : Sd} (O : OkD L) {m : Nat} {r : List Nat} (h : lanesD L = m :: r) (l : Nat) (n : Int) : wakeN L l n = if l ≤ m then 0 else n := by
  unfold wakeN
  by_cases q : l ≤ m
  · rw [if_pos q, if_pos]
    rw [List.all_eq_true]
    intro e he
    exact decide_eq_true (Nat.le_trans q (lanes_min O h e he))
  · rw [if_neg q, if_neg]
    intro z
    rw [List.all_eq_true] at z
    have hm : m ∈ lanesD L := by rw [h]; exact List.mem_cons_self
    have h1 := (mem_lanes O).mp hm
    cases e : look L m with
    | none => rw [e] at h1; cases h1
    | some t =>
      have := of_decide_eq_true (z _ (look_mem e))
      exact q this
theorem lanes_wake {L : Sd} {l : Nat} {now : Int} : lanesD (wakeD L l now) = [0, 1, 2, 3].filter fun k => (look L k).isSome || decide (k = l) := by
  unfold lanesD
  refine List.filter_congr fun k _ => ?_
  rw [look_wake]
  by_cases e : k = l
  · rw [if_pos e, decide_eq_true e]; simp
  · rw [if_neg e, decide_eq_false e]; simp
theorem mem_pend {L : Sd} (O : OkD L) {l : Nat} {t : Int} : (l, t) ∈ pendD L ↔ look L l = some t := by
  unfold pendD
  rw [List.mem_map]
  constructor
  · rintro ⟨k, hk, e⟩
    injection e with e1 e2
    subst e1
    have := (mem_lanes O).mp hk
    cases q : look L k with
    | none => rw [q] at this; cases this
    | some t' => rw [q] at e2; rw [← e2]; rfl
  · intro e
    exact ⟨l, (mem_lanes O).mpr (by rw [e]; rfl), by rw [e]; rfl⟩
theorem pend_wake {L : Sd} (O : OkD L) {l : Nat} (hl : l < 4) {now : Int} : (pendD (wakeD L l now)).filter (fun e => decide (e ∈ pendD L)) = pendD L := by
  have O' := O.wake hl now
  have h1 : (pendD (wakeD L l now)).Pairwise (fun a b => (a.1 : Int) < (b.1 : Int)) := by
    unfold pendD
    exact List.Pairwise.map _ (fun a b h => by show (a : Int) < (b : Int); omega) (lanes_sorted _)
  have h2 : (pendD L).Pairwise (fun a b => (a.1 : Int) < (b.1 : Int)) := by
    unfold pendD
    exact List.Pairwise.map _ (fun a b h => by show (a : Int) < (b : Int); omega) (lanes_sorted _)
  refine eq_of_sortedK (f := fun e => (e.1 : Int)) (h1.sublist List.filter_sublist) h2 fun e => ?_
  rw [List.mem_filter]
  refine ⟨fun h => of_decide_eq_true h.2, fun h => ⟨?_, decide_eq_true h⟩⟩
  obtain ⟨k, t⟩ := e
  have h3 := (mem_pend O).mp h
  refine (mem_pend O').mpr ?_
  rw [look_wake]
  by_cases q : k = l
  · subst q
    rw [if_pos rfl, h3]
    rfl
  · rw [if_neg q, h3]
theorem pend_end {L : Sd} (O : OkD L) (P : List Nat) : pendD (endD L P) = (pendD L).filter fun e => !decide (e.1 ∈ P) := by
  have O' := O.endd P
  have h1 : (pendD (endD L P)).Pairwise (fun a b => (a.1 : Int) < (b.1 : Int)) := by
    unfold pendD
    exact List.Pairwise.map _ (fun a b h => by show (a : Int) < (b : Int); omega) (lanes_sorted _)
  have h2 : (pendD L).Pairwise (fun a b => (a.1 : Int) < (b.1 : Int)) := by
    unfold pendD
    exact List.Pairwise.map _ (fun a b h => by show (a : Int) < (b : Int); omega) (lanes_sorted _)
  refine eq_of_sortedK (f := fun e => (e.1 : Int)) h1 (h2.sublist List.filter_sublist) fun e => ?_
  obtain ⟨k, t⟩ := e
  rw [List.mem_filter, mem_pend O', mem_pend O, look_end]
  by_cases q : k ∈ P
  · simp [q]
  · simp [q]
theorem overs_some {L : Sd} (O : OkD L) {now : Int} {l : Nat} (h : overD L now l = true) : ∃ m, (oversD L now).getLast? = some m ∧ l ≤ m ∧ overD L now m = true ∧ m ∈ lanesD L := by
  have hl : l ∈ oversD L now := List.mem_filter.mpr ⟨(mem_lanes O).mpr (over_some h), h⟩
  cases e : (oversD L now).getLast? with
  | none => rw [List.getLast?_eq_none_iff.mp e] at hl; cases hl
  | some m =>
    have hm : m ∈ oversD L now := List.mem_of_getLast? e
    refine ⟨m, rfl, ?_, (List.mem_filter.mp hm).2, (List.mem_filter.mp hm).1⟩
    obtain ⟨ys, ey⟩ := List.getLast?_eq_some_iff.mp e
    have hs : (oversD L now).Pairwise (· < ·) := (lanes_sorted L).sublist List.filter_sublist
    rw [ey] at hl hs
    rcases List.mem_append.mp hl with q | q
    · have := (List.pairwise_append.mp hs).2.2 _ q m (by simp)
      omega
    · rw [List.mem_singleton.mp q]; exact Nat.le_refl _
theorem pass_whole {L : Sd} {now : Int} {m : Nat} (e : (oversD L now).getLast? = some m) : passD L now = (lanesD L).filter (fun l => decide (l ≤ m)) ∧ wholeD L now = true := by
  constructor
  · unfold passD; rw [e]
  · unfold wholeD
    cases q : oversD L now with
    | nil => rw [q] at e; cases e
    | cons a r => rfl
theorem last_filter : ∀ {l : List Nat} {m : Nat}, l.Pairwise (· < ·) → m ∈ l → (l.filter fun k => decide (k ≤ m)).getLast? = some m
  | [], _, _, h => by cases h
  | a :: l, m, hs, h => by
    rw [List.pairwise_cons] at hs
    rcases List.mem_cons.mp h with rfl | h
    · have : l.filter (fun k => decide (k ≤ m)) = [] := by
        rw [List.filter_eq_nil_iff]
        intro k hk q
        have := hs.1 _ hk
        have := of_decide_eq_true q
        omega
      rw [List.filter_cons, if_pos (by simp), this]
      rfl
    · have := hs.1 _ h
      rw [List.filter_cons, if_pos (decide_eq_true (by omega)), List.getLast?_cons, last_filter hs.2 h]
      rfl
theorem pass_last {L : Sd} {now : Int} {m : Nat} (e : (oversD L now).getLast? = some m) : (passD L now).getLast? = some m := by
  rw [(pass_whole e).1]
  exact last_filter (lanes_sorted L) (List.mem_filter.mp (List.mem_of_getLast? e)).1
theorem wake_zero {L : Sd} (h : look L 0 = none) {late : Int} {m : Nat} (e : (oversD L late).getLast? = some m) : passD (wakeD L 0 late) late = 0 :: passD L late ∧ wholeD (wakeD L 0 late) late = true := by
  have h1 : lanesD (wakeD L 0 late) = 0 :: lanesD L := by
    rw [lanes_wake]
    unfold lanesD
    rw [List.filter_cons, if_pos (by simp), List.filter_cons (x := 0), if_neg (by rw [h]; exact Bool.false_ne_true)]
    congr 1
    refine List.filter_congr fun k hk => ?_
    have : k ≠ 0 := by
      simp at hk
      omega
    rw [decide_eq_false this, Bool.or_false]
  have h2 : oversD (wakeD L 0 late) late = 0 :: oversD L late := by
    unfold oversD
    rw [h1, List.filter_cons, if_pos]
    · congr 1
      refine List.filter_congr fun k hk => ?_
      have hk0 : k ≠ 0 := by
        rintro rfl
        have := (List.mem_filter.mp hk).2
        rw [h] at this
        cases this
      unfold overD
      rw [look_wake, if_neg hk0]
    · unfold overD
      rw [look_wake, if_pos rfl, h]
      exact decide_eq_true (Int.le_of_eq (Int.add_zero late))
  have h3 : (oversD (wakeD L 0 late) late).getLast? = some m := by
    rw [h2, List.getLast?_cons, e]
    rfl
  refine ⟨?_, (pass_whole h3).2⟩
  rw [(pass_whole h3).1, (pass_whole e).1, h1, List.filter_cons, if_pos (by simp)]
end VL

set_option Elab.async false
set_option linter.all false
set_option maxRecDepth 100000
set_option maxHeartbeats 4000000
namespace VL
open PySem PySem.Spec PyProof.Rows L2
def wvD (L : Sd) : List V := [0, 1, 2, 3].map fun l => match look L l with | some t => V.int t | none => V.non
theorem over_none {L : Sd} {now : Int} (h : oversD L now = []) (l : Nat) (O : OkD L) : overD L now l = false := by
  cases e : overD L now l with
  | false => rfl
  | true =>
    unfold oversD at h
    rw [List.filter_eq_nil_iff] at h
    exact absurd e (h l ((mem_lanes O).mpr (over_some e)))
theorem ixN_nat {l n : Nat} (h : l < n) : ixN n (l : Int) = some l := by
  unfold ixN
  rw [if_pos (by omega), if_pos (by omega), Int.toNat_natCast]
def oV (o : Option Int) : V := match o with | some t => .int t | none => .non
theorem wvD_eq (L : Sd) : wvD L = [oV (look L 0), oV (look L 1), oV (look L 2), oV (look L 3)] := rfl
theorem wv_set {L1 L2 : Sd} {l : Nat} {o : Option Int} (hl : l < 4) (h : ∀ k, look L2 k = if k = l then o else look L1 k) : (wvD L1).set l (oV o) = wvD L2 := by
  rw [wvD_eq, wvD_eq, h 0, h 1, h 2, h 3]
  rcases l with _ | _ | _ | _ | l
  · rfl
  · rfl
  · rfl
  · rfl
  · omega
theorem wv_at {L : Sd} {l : Nat} (hl : l < 4) : (wvD L)[l]? = some (oV (look L l)) := by
  rw [wvD_eq]
  rcases l with _ | _ | _ | _ | l
  · rfl
  · rfl
  · rfl
  · rfl
  · omega
theorem wv_atI {L : Sd} {l : Nat} (hl : l < 4) : atI (wvD L) (l : Int) = some (oV (look L l)) := by
  unfold atI
  rw [show (wvD L).length = 4 from rfl, ixN_nat hl]
  exact wv_at hl
/-- a list of pairs as data -/
def dPairs (E : Sd) : List PyData := E.map fun e => .tuple [.int (e.1 : Int), .int e.2]
theorem dp_pairs {K : PySem.W.Frag} {H : Hp} : ∀ {ts : List Addr} {E : Sd}, Paired (fun t (e : Nat × Int) => H t = some (.tup [lV e.1, .int e.2])) ts E → DpAll K H (ts.map V.ref) (dPairs E)
  | [], [], _ => .nil
  | [], e :: E, h => by cases h
  | t :: ts, [], h => by cases h
  | t :: ts, e :: E, h => by
    cases h with
    | cons r rr => exact .cons (.tup (SqT.of r) (.cons (.int _) (.cons (.int _) .nil))) (dp_pairs rr)
theorem shaped_pairs (E : Sd) : SeqAt.shaped (.list (dPairs E)) = true := by
  have h1 : PyData.canLayAll0 (dPairs E) = true := by
    induction E with
    | nil => rfl
    | cons e E ih =>
      show PyData.canLayAll0 (.tuple [.int (e.1 : Int), .int e.2] :: dPairs E) = true
      simp [PyData.canLayAll0, PyData.canLay0, ih]
  have h2 : PyData.depthAll (dPairs E) ≤ 2 := by
    induction E with
    | nil => decide
    | cons e E ih =>
      show PyData.depthAll (.tuple [.int (e.1 : Int), .int e.2] :: dPairs E) ≤ 2
      have ih := ih (by
        have : PyData.canLayAll0 (.tuple [.int (e.1 : Int), .int e.2] :: dPairs E) = true := h1
        simpa [PyData.canLayAll0, PyData.canLay0] using this)
      simp [PyData.depthAll, PyData.depth]
      omega
  unfold SeqAt.shaped
  rw [Bool.and_eq_true]
  refine ⟨by simpa [PyData.canLay0] using h1, decide_eq_true ?_⟩
  show PyData.depth (.list (dPairs E)) ≤ 64
  simp [PyData.depth]
  omega
theorem eqv_self {d : PyData} (h : SeqAt.shaped d = true) : PyData.eqv d d = true := by
  refine SeqAt.eqv_refl _ ?_
  unfold SeqAt.shaped at h
  exact (Bool.and_eq_true_iff.mp h).1
theorem atI_cons {α : Type} {x : α} {xs : List α} : atI (x :: xs) 0 = some x := by
  unfold atI ixN
  rw [if_pos (Int.le_refl 0), if_pos (by rw [List.length_cons]; omega)]
  rfl
theorem at_len {P : List Nat} {m : Nat} (h : P.getLast? = some m) : atI (P.map lV) (((P.map lV).length : Int) - 1) = some (lV m) := by
  obtain ⟨ys, e⟩ := List.getLast?_eq_some_iff.mp h
  rw [e, List.map_append]
  unfold atI ixN
  have hl : ((ys.map lV ++ [m].map lV).length : Int) = (ys.length : Int) + 1 := by simp
  rw [hl, if_pos (by omega), if_pos (by omega)]
  show (ys.map lV ++ [m].map lV)[_]? = _
  have e : ((ys.length : Int) + 1 - 1).toNat = (ys.map lV).length := by rw [List.length_map]; omega
  rw [e]
  simp
def dInts (P : List Nat) : List PyData := P.map fun (k : Nat) => PyData.int (k : Int)
theorem dp_ints {K : PySem.W.Frag} {H : Hp} : ∀ P : List Nat, DpAll K H (P.map lV) (dInts P)
  | [] => .nil
  | a :: P => .cons (.int _) (dp_ints P)
theorem ints_lay : ∀ P : List Nat, PyData.canLayAll0 (dInts P) = true
  | [] => rfl
  | a :: P => by
    show PyData.canLayAll0 (.int (a : Int) :: dInts P) = true
    simp [PyData.canLayAll0, PyData.canLay0, ints_lay P]
theorem ints_depth : ∀ P : List Nat, PyData.depthAll (dInts P) = 0
  | [] => rfl
  | a :: P => by
    show PyData.depthAll (.int (a : Int) :: dInts P) = 0
    simp [PyData.depthAll, PyData.depth, ints_depth P]
theorem sh_pass (P : List Nat) (b : Bool) : SeqAt.shaped (.tuple [.list (dInts P), .bool b]) = true := by
  unfold SeqAt.shaped
  simp [PyData.canLay0, PyData.canLayAll0, PyData.depth, PyData.depthAll, ints_lay, ints_depth]
theorem sh_one {m : Nat} : SeqAt.shaped (.list [.int (m : Int)]) = true := by
  unfold SeqAt.shaped
  simp [PyData.canLay0, PyData.canLayAll0, PyData.depth, PyData.depthAll]
theorem eqv_pair (a b : Nat × Int) : PyData.eqv (.tuple [.int (a.1 : Int), .int a.2]) (.tuple [.int (b.1 : Int), .int b.2]) = decide (a = b) := by
  have e1 : PyData.eqv (.tuple [.int (a.1 : Int), .int a.2]) (.tuple [.int (b.1 : Int), .int b.2]) = (((a.1 : Int) == (b.1 : Int)) && (a.2 == b.2)) := by simp [PyData.eqv, PyData.eqvAll]
  rw [e1]
  by_cases h : a = b
  · subst h
    simp
  · rw [decide_eq_false h]
    obtain ⟨a1, a2⟩ := a
    obtain ⟨b1, b2⟩ := b
    by_cases h1 : (a1 : Int) = (b1 : Int)
    · have h3 : a1 = b1 := by omega
      have h2 : a2 ≠ b2 := fun e => h (by rw [h3, e])
      simp [h2]
    · simp [h1]
theorem pairedS_get {α β : Type} {G : α → β → Prop} : ∀ {l₁ : List α} {l₂ : List β}, Paired G l₁ l₂ → ∀ (i : Nat) (h1 : i < l₁.length), ∃ h2 : i < l₂.length, G l₁[i] l₂[i]
  | _, _, .cons r t, 0, _ => ⟨Nat.succ_pos _, r⟩
  | _, _, .cons r t, i + 1, h1 => by
    obtain ⟨h2, g⟩ := pairedS_get t i (Nat.lt_of_succ_lt_succ h1)
    exact ⟨Nat.succ_lt_succ h2, g⟩
theorem any_pairs (e : Nat × Int) : ∀ E : Sd, (dPairs E).any (fun z => PyData.eqv z (.tuple [.int (e.1 : Int), .int e.2])) = decide (e ∈ E)
  | [] => rfl
  | a :: E => by
    show (PyData.eqv (.tuple [.int (a.1 : Int), .int a.2]) (.tuple [.int (e.1 : Int), .int e.2]) || (dPairs E).any fun z => PyData.eqv z (.tuple [.int (e.1 : Int), .int e.2])) = _
    rw [any_pairs e E, eqv_pair]
    by_cases h : a = e
    · subst h; simp
    · have h2 : e ≠ a := fun q => h q.symm
      simp [h, h2]
theorem sh_pair (e : Nat × Int) : SeqAt.shaped (.tuple [.int (e.1 : Int), .int e.2]) = true := by
  unfold SeqAt.shaped
  simp [PyData.canLay0, PyData.canLayAll0, PyData.depth, PyData.depthAll]
theorem paired_snocS {α β : Type} {G : α → β → Prop} {a : α} {b : β} (h : G a b) : ∀ {l₁ : List α} {l₂ : List β}, Paired G l₁ l₂ → Paired G (l₁ ++ [a]) (l₂ ++ [b])
  | _, _, .nil => .cons h .nil
  | _, _, .cons r t => .cons r (paired_snocS h t)
theorem filt_snoc {α : Type} {L : List α} {p : α → Bool} {i : Nat} (hi : i < L.length) : (L.take (i + 1)).filter p = (L.take i).filter p ++ if p L[i] = true then [L[i]] else [] := by
  rw [List.take_add_one, List.getElem?_eq_getElem hi, List.filter_append]
  congr 1
  show List.filter p [L[i]] = _
  rw [List.filter_cons]
  split <;> rfl
theorem pairedS_len {α β : Type} {G : α → β → Prop} : ∀ {l₁ : List α} {l₂ : List β}, Paired G l₁ l₂ → l₁.length = l₂.length
  | _, _, .nil => rfl
  | _, _, .cons _ t => congrArg Nat.succ (pairedS_len t)
theorem pend_len (L : Sd) : (pendD L).length ≤ 4 := by
  unfold pendD
  rw [List.length_map]
  exact lanes_len L
end VL

set_option Elab.async false
set_option linter.all false
set_option maxRecDepth 100000
set_option maxHeartbeats 4000000
namespace VL
open PySem PySem.Spec PyProof.Rows L2

def top (i : Nat) : Stmt := PySem.Challenge.pw_viewloom_k35_schedules.main.body.getD i (.Pass ⟨0, 0, 0, 0⟩)
abbrev s_Schedule___init__ : Stmt := inClass (top 1) 6
abbrev s_Schedule_pending : Stmt := inClass (top 1) 7
abbrev s_Schedule_done : Stmt := inClass (top 1) 8
abbrev s_Schedule___contains__ : Stmt := inClass (top 1) 9
abbrev s_Schedule_wake : Stmt := inClass (top 1) 10
abbrev s_Schedule_is_overdue : Stmt := inClass (top 1) 11
abbrev s_Schedule_next_pass : Stmt := inClass (top 1) 12
abbrev s_Schedule_portion : Stmt := inClass (top 1) 13
abbrev s_Schedule_give_up : Stmt := inClass (top 1) 14
abbrev s_Schedule_end : Stmt := inClass (top 1) 15
abbrev s_Schedule_clear : Stmt := inClass (top 1) 16
abbrev s__law_cell : Stmt := top 3
abbrev s__law_is_integer : Stmt := top 4
abbrev s__law_start : Stmt := top 5
abbrev s__law_digit : Stmt := top 6
abbrev s__law_next : Stmt := top 7
abbrev s__law_shows : Stmt := top 8
abbrev s__law_step : Stmt := top 9
abbrev s_law : Stmt := top 10
abbrev t_Schedule_PATIENCE : List V := [(V.int 0), (V.int 5000), (V.int 10000), (V.int 60000)]
abbrev t_Schedule_NAMES : List V := [(V.str "sync"), (V.str "usual"), (V.str "transition"), (V.str "idle")]
structure Ad where
  u0 : Unit
  Schedule : Addr
structure Txt (K : PySem.W.Frag) (w : World) (mg : Str → Option Value) (C : Ad) : Prop where
  g_Schedule : GV mg "Schedule" (.ref C.Schedule)
  cl_Schedule : Cls K C.Schedule
  n_Schedule_ticks : NoAttr K C.Schedule "ticks"
  n_Schedule_portions : NoAttr K C.Schedule "portions"
  rd_Schedule : ClX.CRead K C.Schedule (.type "type")
  cc_Schedule_SYNC : ∃ u, ClX.CVal K C.Schedule (.type "type") "SYNC" (V.int 0) u ∧ Con K C.Schedule "SYNC" (V.int 0) u
  cc_Schedule_USUAL : ∃ u, ClX.CVal K C.Schedule (.type "type") "USUAL" (V.int 1) u ∧ Con K C.Schedule "USUAL" (V.int 1) u
  cc_Schedule_TRANSITION : ∃ u, ClX.CVal K C.Schedule (.type "type") "TRANSITION" (V.int 2) u ∧ Con K C.Schedule "TRANSITION" (V.int 2) u
  cc_Schedule_IDLE : ∃ u, ClX.CVal K C.Schedule (.type "type") "IDLE" (V.int 3) u ∧ Con K C.Schedule "IDLE" (V.int 3) u
  cc_Schedule_PATIENCE : ∃ a u, ClX.CVal K C.Schedule (.type "type") "PATIENCE" (.ref a) u ∧ Con K C.Schedule "PATIENCE" (.ref a) u ∧ (∀ H, SqT K H a t_Schedule_PATIENCE) ∧ WrT K a t_Schedule_PATIENCE
  cc_Schedule_NAMES : ∃ a u, ClX.CVal K C.Schedule (.type "type") "NAMES" (.ref a) u ∧ Con K C.Schedule "NAMES" (.ref a) u ∧ (∀ H, SqT K H a t_Schedule_NAMES) ∧ WrT K a t_Schedule_NAMES
  z_bool : mg "bool" = none
  z_int : mg "int" = none
  z_isinstance : mg "isinstance" = none
  z_len : mg "len" = none
  z_list : mg "list" = none
  z_max : mg "max" = none
  z_min : mg "min" = none
  z_property : mg "property" = none
  z_range : mg "range" = none
  z_sorted : mg "sorted" = none
  i_Schedule : InitE K mg "Schedule" C.Schedule "Schedule.__init__" s_Schedule___init__ ["self"]
  p_Schedule_pending : PropE K C.Schedule "pending" "Schedule.pending" s_Schedule_pending
  p_Schedule_done : PropE K C.Schedule "done" "Schedule.done" s_Schedule_done
  m_Schedule___contains__ : MethE K C.Schedule "__contains__" "Schedule.__contains__" s_Schedule___contains__ ["self", "lane"]
  m_Schedule_wake : MethKE K C.Schedule "wake" "Schedule.wake" s_Schedule_wake ["self", "lane", "now"] 2 ["now"]
  m_Schedule_is_overdue : MethKE K C.Schedule "is_overdue" "Schedule.is_overdue" s_Schedule_is_overdue ["self", "lane", "now"] 2 ["now"]
  m_Schedule_next_pass : MethKE K C.Schedule "next_pass" "Schedule.next_pass" s_Schedule_next_pass ["self", "now"] 1 ["now"]
  m_Schedule_portion : MethE K C.Schedule "portion" "Schedule.portion" s_Schedule_portion ["self", "cost"]
  m_Schedule_give_up : MethE K C.Schedule "give_up" "Schedule.give_up" s_Schedule_give_up ["self"]
  m_Schedule_end : MethE K C.Schedule "end" "Schedule.end" s_Schedule_end ["self", "lanes"]
  m_Schedule_clear : MethE K C.Schedule "clear" "Schedule.clear" s_Schedule_clear ["self"]
  d__law_cell : DefE K mg "_law_cell" s__law_cell ["script", "k"]
  d__law_is_integer : DefE K mg "_law_is_integer" s__law_is_integer ["told"]
  d__law_start : DefE K mg "_law_start" s__law_start ["cell", "k"]
  d__law_digit : DefE K mg "_law_digit" s__law_digit ["state", "many"]
  d__law_next : DefE K mg "_law_next" s__law_next ["since", "now"]
  d__law_shows : DefE K mg "_law_shows" s__law_shows ["schedule", "since", "done", "now"]
  d__law_step : DefE K mg "_law_step" s__law_step ["schedule", "since", "done", "now", "state"]
end VL

set_option Elab.async false
set_option linter.all false
set_option maxRecDepth 100000
set_option maxHeartbeats 4000000
namespace VL
open PySem PySem.Spec PyProof.Rows L2

abbrev MM : Int := 18446744073709551557
/-- a state of drawing -/
def StA (H : Hp) (a : Addr) : Prop := ∃ z, H a = some (.lst [.int z]) ∧ 0 ≤ z ∧ z < MM
/-- all but a is kept -/
def Kp (a : Addr) (H H' : Hp) : Prop := ∀ b o, H b = some o → b ≠ a → H' b = some o
theorem Kp.trans {a : Addr} {H H' H'' : Hp} (h : Kp a H H') (k : Kp a H' H'') : Kp a H H'' := fun b o e n => k b o (h b o e n) n
theorem Kp.refl {a : Addr} {H : Hp} : Kp a H H := fun _ _ e _ => e
theorem Kp.new {a t : Addr} {o : HO} {H : Hp} (h : H t = none) : Kp a H (upd H t o) := fun b u e _ => by rw [upd_ne (ne_of_none e h)]; exact e
theorem StA.new {a t : Addr} {o : HO} {H : Hp} (S : StA H a) (h : H t = none) : StA (upd H t o) a := by
  obtain ⟨z, e, r⟩ := S
  exact ⟨z, by rw [upd_ne (ne_of_none e h)]; exact e, r⟩
theorem StA.same {a : Addr} {H H' : Hp} (S : StA H a) (s : Same H H') : StA H' a := by
  obtain ⟨z, e, r⟩ := S
  exact ⟨z, s _ _ e, r⟩
theorem Same.new {t : Addr} {o : HO} {H : Hp} (h : H t = none) : Same H (upd H t o) := fun b u e => by rw [upd_ne (ne_of_none e h)]; exact e
theorem Kp.same {a : Addr} {H0 H H' : Hp} (k : Kp a H H') (s : Same H0 H) (n : H0 a = none) : Same H0 H' := fun b o e => k _ _ (s _ _ e) (ne_of_none e n)
def spLaw (K : PySem.W.Frag) : Sp := fun vs H Q _ => ∃ (a : Addr) (ns : List Int), vs = [.ref a] ∧ SqL K H a (ns.map V.int) ∧ ns.length ≤ 63 ∧ ∀ H', Q (.bl true) H'
def spCellA (K : PySem.W.Frag) : Sp := fun vs H Q _ => ∃ (a : Addr) (ns : List Int) (j : Int), vs = [.ref a, .int j] ∧ SqL K H a (ns.map V.int) ∧ 0 ≤ j ∧ ∀ z, Q (.int z) H
def spIsInt : Sp := fun vs H Q _ => ∃ i : Int, vs = [.int i] ∧ Q (.bl true) H
def spStart : Sp := fun vs H Q _ => ∃ c k : Int, vs = [.int c, .int k] ∧ ∀ p H', H p = none → Same H H' → StA H' p → Q (.ref p) H'
def spDigit : Sp := fun vs H Q _ => ∃ (a : Addr) (m : Int), vs = [.ref a, .int m] ∧ StA H a ∧ 0 < m ∧ ∀ r H', StA H' a → Kp a H H' → 0 ≤ r → r < m → Q (.int r) H'
theorem map_int_at {ns : List Int} {j : Int} (h0 : 0 ≤ j) (h1 : j < (ns.length : Int)) : ∃ z, atI (ns.map V.int) j = some (.int z) := by
  have hj : j.toNat < ns.length := by omega
  refine ⟨ns[j.toNat], ?_⟩
  unfold atI ixN
  rw [if_pos h0, if_pos (by rw [List.length_map]; exact h1)]
  show (ns.map V.int)[j.toNat]? = _
  rw [List.getElem?_map, List.getElem?_eq_getElem hj]
  rfl
theorem atI_map {α : Type} {rs : List α} {f : α → V} {r : Int} (h0 : 0 ≤ r) (h1 : r.toNat < rs.length) : atI (rs.map f) r = some (f rs[r.toNat]) := by
  unfold atI ixN
  rw [if_pos h0, if_pos (by rw [List.length_map]; omega)]
  show (rs.map f)[r.toNat]? = _
  rw [List.getElem?_map, List.getElem?_eq_getElem h1]
  rfl
theorem atI_get {α : Type} {xs : List α} {r : Int} (h0 : 0 ≤ r) (h1 : r.toNat < xs.length) : atI xs r = some xs[r.toNat] := by
  unfold atI ixN
  rw [if_pos h0, if_pos (by omega)]
  show xs[r.toNat]? = _
  rw [List.getElem?_eq_getElem h1]
section
variable {P : Program} {w : World} {K : PySem.W.Frag} {mg : Str → Option Value} {base : Heap} {C : Ad}
theorem sc__law_cell : FnScope ["script", "k"] ["script", "k"] (defScope s__law_cell) := ⟨rfl, rfl, rfl, by decide +kernel, rfl, by decide +kernel, by decide +kernel⟩
theorem ok_cell (T : Txt K w mg C) : Cal P w K mg base 1 "_law_cell" (spCellA K) := by
  refine cal_of T.d__law_cell sc__law_cell (fun vs H Q E h => ?_) (fun f cdv A outer s H vs Q E hr h => ?_)
  · obtain ⟨a, ns, j, rfl, _⟩ := h
    rfl
  · obtain ⟨a, ns, j, rfl, hS, h0, k⟩ := h
    refine ⟨_, (pss_cons (ps_if (pt_cmpR op_lt (pv 1) (pe_callB call_len_seq (by rfl) T.z_len PySem.boot_len (pa_cons (pv 0) pa_nil)) (nomark _)) (pss_one (ps_ret (pe_ix ix_list (pv 0) (pv 1) (fun _ _ => rfl)))) pss_nil) (pss_one (ps_ret pe_int))), ?_⟩
    refine ⟨_, rfl, _, rfl, a, _, rfl, .inl hS, _, _, rfl, rfl, _, rfl, ?_⟩
    refine ite2 (fun q => ?_) (fun q => ?_)
    · have q' := of_decide_eq_true q
      rw [List.length_map] at q'
      obtain ⟨z, hz⟩ := map_int_at h0 q'
      exact ⟨_, rfl, _, rfl, a, _, j, _, rfl, rfl, hS, hz, k z⟩
    · exact k 0
theorem sc__law_is_integer : FnScope ["told"] ["told"] (defScope s__law_is_integer) := ⟨rfl, rfl, rfl, by decide +kernel, rfl, by decide +kernel, by decide +kernel⟩
theorem ok_isInt (T : Txt K w mg C) : Cal P w K mg base 1 "_law_is_integer" spIsInt := by
  refine cal_of T.d__law_is_integer sc__law_is_integer (fun vs H Q E h => ?_) (fun f cdv A outer s H vs Q E hr h => ?_)
  · obtain ⟨i, rfl, _⟩ := h
    rfl
  · obtain ⟨i, rfl, k⟩ := h
    refine ⟨_, (pss_one (ps_ret (pe_and (pe_callB call_isi (by rfl) T.z_isinstance (by decide +kernel) (pa_cons (pv 0) (pa_cons (pe_bltn (v := .ty "int") (by rfl) T.z_int (by decide +kernel) rfl) pa_nil))) (pe_one (pe_not (pe_callB call_isi (by rfl) T.z_isinstance (by decide +kernel) (pa_cons (pv 0) (pa_cons (pe_bltn (v := .ty "bool") (by rfl) T.z_bool (by decide +kernel) rfl) pa_nil)))))))), ?_⟩
    refine ⟨_, rfl, .int i, .ty "int", _, _, true, rfl, .ty _, .base (.int i), kit_ty (by decide +kernel), true, rfl, ?_⟩
    refine iteT ?_
    exact ⟨_, rfl, .int i, .ty "bool", _, _, false, rfl, .ty _, .base (.int i), kit_ty (by decide +kernel), false, rfl, k⟩
theorem sc__law_start : FnScope ["cell", "k"] ["cell", "k"] (defScope s__law_start) := ⟨rfl, rfl, rfl, by decide +kernel, rfl, by decide +kernel, by decide +kernel⟩
theorem ok_start (T : Txt K w mg C) : Cal P w K mg base 1 "_law_start" spStart := by
  refine cal_of T.d__law_start sc__law_start (fun vs H Q E h => ?_) (fun f cdv A outer s H vs Q E hr h => ?_)
  · obtain ⟨c, k, rfl, _⟩ := h
    rfl
  · obtain ⟨c, j, rfl, k⟩ := h
    refine ⟨_, (pss_one (ps_ret (pe_lst (pa_cons (pe_op op_mod (pe_callTy call_int1 (by rfl) T.z_int (by decide +kernel) (pa_cons (pe_op op_add (pe_op op_mul (pv 0) pe_int) (pe_op op_mul (pe_op op_add (pv 1) pe_int) pe_int)) pa_nil)) pe_int) pa_nil)))), ?_⟩
    refine ⟨_, rfl, _, _, rfl, rfl, .inr ⟨by decide, by decide⟩, _, rfl, _, _, rfl, rfl, _, _, rfl, rfl, .inr ⟨by decide, by decide⟩, _, _, rfl, rfl, .inl ⟨_, rfl, _, _, rfl, rfl, (by show (0 : Int) < MM; decide), ?_⟩⟩
    refine ⟨by show 1 ≤ sizeLine; decide, fun p hp => ?_⟩
    refine k p _ hp (fun b o e => by rw [upd_ne (ne_of_none e hp)]; exact e) ⟨_, upd_same, Int.emod_nonneg _ (by decide), Int.emod_lt_of_pos _ (by decide)⟩
theorem sc__law_digit : FnScope ["state", "many"] ["state", "many"] (defScope s__law_digit) := ⟨rfl, rfl, rfl, by decide +kernel, rfl, by decide +kernel, by decide +kernel⟩
theorem ok_digit (T : Txt K w mg C) : Cal P w K mg base 1 "_law_digit" spDigit := by
  refine cal_of T.d__law_digit sc__law_digit (fun vs H Q E h => ?_) (fun f cdv A outer s H vs Q E hr h => ?_)
  · obtain ⟨a, m, rfl, _⟩ := h
    rfl
  · obtain ⟨a, m, rfl, ⟨z, hS, h0, h1⟩, hm, k⟩ := h
    refine ⟨_, (pss_cons (ps_asg (pe_op op_mod (pe_callTy call_int1 (by rfl) T.z_int (by decide +kernel) (pa_cons (pe_op op_add (pe_op op_mul (pe_ix ix_list (pv 0) pe_int (fun _ _ => rfl)) pe_int) pe_int) pa_nil)) pe_int) (pg_sub (pv 0) pe_int set_list)) (pss_one (ps_ret (pe_op op_mod (pe_callTy call_int1 (by rfl) T.z_int (by decide +kernel) (pa_cons (pe_op op_fdiv (pe_ix ix_list (pv 0) pe_int (fun _ _ => rfl)) pe_int) pa_nil)) (pv 1))))), ?_⟩
    refine ⟨_, rfl, a, _, 0, _, rfl, rfl, SqL.of hS, rfl, _, _, rfl, rfl, .inr ⟨by decide, by decide⟩, _, _, rfl, rfl, .inl ⟨_, rfl, _, _, rfl, rfl, (by show (0 : Int) < MM; decide), ?_⟩⟩
    refine ⟨_, rfl, a, _, 0, 0, rfl, rfl, hS, rfl, ?_⟩
    refine ⟨_, rfl, a, _, 0, _, rfl, rfl, SqL.of upd_same, rfl, _, _, rfl, rfl, ⟨by decide, by decide⟩, .inl ⟨_, rfl, _, rfl, _, _, rfl, rfl, hm, ?_⟩⟩
    exact k _ _ ⟨_, upd_same, Int.emod_nonneg _ (by decide), Int.emod_lt_of_pos _ (by decide)⟩ (fun b o e n => by rw [upd_ne n]; exact e) (Int.emod_nonneg _ (by omega)) (Int.emod_lt_of_pos _ hm)
end
end VL

set_option Elab.async false
set_option linter.all false
set_option maxRecDepth 100000
set_option maxHeartbeats 4000000
namespace VL
open PySem PySem.Spec PyProof.Rows L2
theorem paired_memS {α β : Type} {F G : α → β → Prop} : ∀ {l₁ : List α} {l₂ : List β}, (∀ a b, a ∈ l₁ → F a b → G a b) → Paired F l₁ l₂ → Paired G l₁ l₂
  | _, _, _, .nil => .nil
  | _, _, f, .cons r t => .cons (f _ _ List.mem_cons_self r) (paired_memS (fun a b m => f a b (List.mem_cons_of_mem _ m)) t)
theorem at_pat {l : Nat} (h : l < 4) : atI t_Schedule_PATIENCE (l : Int) = some (.int (pat l)) := by
  rcases l with _ | _ | _ | _ | l
  · rfl
  · rfl
  · rfl
  · rfl
  · omega
section
variable {P : Program} {w : World} {K : PySem.W.Frag} {mg : Str → Option Value} {base : Heap} {C : Ad}
theorem sc_Schedule___init__ : FnScope ["self"] ["self"] (defScope s_Schedule___init__) := ⟨rfl, rfl, rfl, by decide +kernel, rfl, by decide +kernel, by decide +kernel⟩
theorem ok_sinit (T : Txt K w mg C) : Mak P w K mg base 1 "Schedule" C.Schedule (spSInit C.Schedule) := by
  refine mak_of T.i_Schedule sc_Schedule___init__ (fun vs H Q E h => ?_) (fun f cdv A outer s H vs Q E hr h => ?_)
  · obtain ⟨p, dx, rfl, _⟩ := h
    rfl
  · obtain ⟨p, dx, rfl, hp, k⟩ := h
    refine ⟨_, (pss_cons (ps_fld (pv 0) pe_dnewK rfl) (pss_one (ps_fld (pv 0) pe_int rfl))), ?_⟩
    intro d hd
    have npd : p ≠ d := ne_of_none hp hd
    refine ⟨_, rfl, p, _, dx, [], rfl, (by rw [upd_ne npd]; exact hp), T.cl_Schedule, T.n_Schedule_ticks, (by show 0 < 1000; decide), ?_⟩
    refine ⟨_, rfl, p, _, dx, _, rfl, upd_same, T.cl_Schedule, T.n_Schedule_portions, (by show 1 < 1000; decide), ?_⟩
    rw [upd_upd]
    refine k d _ hd ⟨⟨dx, upd_same⟩, ?_, OkD.nil⟩ fun b o e nb => ?_
    · rw [upd_ne npd.symm, upd_same]
      rfl
    · rw [upd_ne nb, upd_ne (ne_of_none e hd)]
      exact e
theorem sc_Schedule___contains__ : FnScope ["self", "lane"] ["self", "lane"] (defScope s_Schedule___contains__) := ⟨rfl, rfl, rfl, by decide +kernel, rfl, by decide +kernel, by decide +kernel⟩
theorem ok_shas {f : Addr} {fd : FuncData} (F : Fun K "__contains__" "Schedule.__contains__" s_Schedule___contains__ f fd) (T : Txt K w mg C) : FnOk P w K mg base CX0 1 f fd ["self", "lane"] (spSHas C.Schedule) := by
  refine F.ok sc_Schedule___contains__ (fun vs H Q E h => ?_) (fun cdv A outer s H vs Q E hr h => ?_)
  · obtain ⟨p, d, L, n, l, rfl, _⟩ := h
    rfl
  · obtain ⟨p, d, L, n, l, rfl, S, k⟩ := h
    have hu := hu_of hr
    obtain ⟨⟨dx, h1⟩, hd, ok⟩ := id S
    refine ⟨_, (pss_one (ps_ret (pe_cmp (pc_din hu (pv 1) (pe_fld (pv 0) rfl))))), ?_⟩
    refine ⟨_, rfl, _, rfl, p, _, dx, _, _, rfl, h1, T.cl_Schedule, T.n_Schedule_ticks, fsD_ticks d n, d, _, rfl, DGet.k (k := Sum.inl (l : Int)) hd, ?_⟩
    rw [valV_kvsD, Option.isSome_map]
    exact k
theorem sc_Schedule_is_overdue : FnScope ["self", "lane", "now"] ["self", "lane", "now"] (defScope s_Schedule_is_overdue) := ⟨rfl, rfl, rfl, by decide +kernel, rfl, by decide +kernel, by decide +kernel⟩
theorem ok_sover (T : Txt K w mg C) : MetK P w K mg base 1 C.Schedule "is_overdue" (spSOver C.Schedule) 2 ["now"] catG := by
  obtain ⟨na, nu, cv, cn, hq, _⟩ := T.cc_Schedule_PATIENCE
  refine metK_of T.m_Schedule_is_overdue T.cl_Schedule sc_Schedule_is_overdue (fun vs H Q E h => ?_) (fun f cdv A outer s H vs Q E hr h => ?_)
  · obtain ⟨p, d, L, n, l, now, rfl, _⟩ := h
    rfl
  · obtain ⟨p, d, L, n, l, now, rfl, S, hl, k⟩ := h
    have hu := hu_of hr
    obtain ⟨⟨dx, h1⟩, hd, ok⟩ := id S
    refine ⟨_, (pss_one (ps_ret (pe_and (pe_cmp (pc_din hu (pv 1) (pe_fld (pv 0) rfl))) (pe_one (pe_cmpR op_le (pe_op op_add (pe_dget hu (pe_fld (pv 0) rfl) (pv 1) (fun _ _ => rfl)) (pe_ix ix_tup (pe_con (pv 0) rfl) (pv 1) (fun _ _ => rfl))) (pv 2) (nomark _)))))), ?_⟩
    refine ⟨_, rfl, _, rfl, p, _, dx, _, _, rfl, h1, T.cl_Schedule, T.n_Schedule_ticks, fsD_ticks d n, d, _, rfl, DGet.k (k := Sum.inl (l : Int)) hd, ?_⟩
    rw [valV_kvsD, Option.isSome_map]
    unfold overD at k
    cases e : look L l with
    | none =>
      rw [e] at k
      exact ⟨false, rfl, k⟩
    | some t =>
      rw [e] at k
      refine ⟨true, rfl, ?_⟩
      rw [if_pos rfl]
      refine ⟨_, rfl, p, _, dx, _, _, rfl, h1, T.cl_Schedule, T.n_Schedule_ticks, fsD_ticks d n, _, rfl, d, .int t, rfl, ?_, ?_⟩
      · have := DGet.k (k := Sum.inl (l : Int)) hd
        rw [valV_kvsD, e] at this
        exact this
      · refine ⟨_, rfl, p, _, dx, _, _, nu, rfl, h1, T.cl_Schedule, cn, rfl, _, rfl, na, _, (l : Int), .int (pat l), rfl, rfl, hq _, at_pat hl, ?_⟩
        refine ⟨_, _, rfl, rfl, _, rfl, _, _, rfl, rfl, ?_⟩
        exact k
theorem sc_Schedule_wake : FnScope ["self", "lane", "now", "other"] ["self", "lane", "now"] (defScope s_Schedule_wake) := ⟨rfl, rfl, rfl, by decide +kernel, rfl, by decide +kernel, by decide +kernel⟩
theorem ok_swake (T : Txt K w mg C) : MetK P w K mg base 1 C.Schedule "wake" (spSWake C.Schedule) 2 ["now"] catG := by
  refine metK_of T.m_Schedule_wake T.cl_Schedule sc_Schedule_wake (fun vs H Q E h => ?_) (fun f cdv A outer s H vs Q E hr h => ?_)
  · obtain ⟨p, d, L, n, l, now, rfl, _⟩ := h
    rfl
  · obtain ⟨p, d, L, n, l, now, rfl, S, hl, k⟩ := h
    have hu := hu_of hr
    obtain ⟨⟨dx, h1⟩, hd, ok⟩ := id S
    have pd := S.pd
    refine ⟨_, (pss_cons (ps_if (pt_not (pt_truth (pe_lock (pe_lc (own := [("other", 3)]) (g := gName 3) (tt := _) rfl sc_Schedule_wake.nd (pi_keys (pe_fld (pv 0) rfl)) (blkOk_by (N := ["self", "lane", "now", "other"]) (sc := (defScope s_Schedule_wake)) (by decide +kernel)) (fun _ _ _ _ _ => pg_name (i := 3) sc_Schedule_wake.nd rfl (Or.inl rfl)) (fun _ _ _ _ _ => pts_one (pt_cmpR op_lt (pv 3) (pv 1) (nomark _))) (fun _ _ _ _ _ => (pv 3)))) (fun _ => rfl))) (pss_one (ps_fld (pv 0) pe_int rfl)) pss_nil) (pss_one (ps_expr (pe_dsetd (pe_fld (pv 0) rfl) (pv 1) (pv 2) ⟨rfl, rfl, rfl, rfl⟩)))), ?_⟩
    refine ⟨d, _, hd, trivial, fun od => ?_⟩
    have hlk : upd H d (.frz od (.dK (kvsD L))) d = some (.frz od (.dK (kvsD L))) := upd_same
    have h1' : upd H d (.frz od (.dK (kvsD L))) p = some (.ins C.Schedule dx (fsD d n)) := by rw [upd_ne pd]; exact h1
    refine ⟨_, rfl, p, _, dx, _, _, rfl, h1', T.cl_Schedule, T.n_Schedule_ticks, fsD_ticks d n, d, od, rfl, .inl ⟨_, hlk, fun D hD => ?_⟩⟩
    have hDd : D ≠ d := fun z => by rw [z, upd_same] at hD; cases hD
    have hDp : D ≠ p := (ne_of_none h1' hD).symm
    refine lc_it (walk_keys (d := d) (o := od) (kvs := kvsD L)) (fun i H' => H' = upd (upd H d (.frz od (.dK (kvsD L)))) D (.lst (((L.take i).filter fun e => decide (e.1 < l)).map fun e => lV e.1))) rfl (fun i H' _ e => by rw [e, upd_ne hDd.symm]; exact upd_same) ?_ ?_
    · rintro i x H1 H2 hi rfl ⟨rfl, kk, vv, hk, rfl⟩
      have hi' : i < L.length := by rw [kvsD_len] at hi; exact hi
      have ek : kk = Sum.inl ((L[i].1 : Nat) : Int) := by
        unfold kvsD at hk
        rw [List.getElem?_map, List.getElem?_eq_getElem hi'] at hk
        exact (congrArg Prod.fst (Option.some.inj hk)).symm
      subst ek
      refine ⟨rfl, ?_⟩
      refine ⟨_, rfl, _, rfl, _, _, rfl, rfl, _, rfl, ?_⟩
      have et := take_filter (L := L) (p := fun e => decide (e.1 < l)) (f := fun e => lV e.1) hi'
      refine ite2 (fun q => ?_) (fun q => ?_)
      · have q' : L[i].1 < l := by have := of_decide_eq_true q; omega
        rw [if_pos (decide_eq_true q')] at et
        refine ⟨_, rfl, _, upd_same, ?_, ?_⟩
        · rw [List.length_map]
          have h1 := List.length_filter_le (fun e : Nat × Int => decide (e.1 < l)) (L.take i)
          have h2 := List.length_take_le i L
          have := ok.len
          exact small1000 (by omega)
        · rw [upd_upd]
          show _ = upd _ D (.lst (((L.take (i + 1)).filter fun e => decide (e.1 < l)).map fun e => lV e.1))
          rw [et]
          rfl
      · have q' : ¬ L[i].1 < l := fun z => q (decide_eq_true (by show ((L[i].1 : Nat) : Int) < (l : Int); omega))
        rw [if_neg (by simp; omega), List.append_nil] at et
        show _ = upd _ D (.lst (((L.take (i + 1)).filter fun e => decide (e.1 < l)).map fun e => lV e.1))
        rw [et]
    · rintro H1 rfl
      rw [kvsD_len, List.take_length]
      refine ⟨by rw [upd_ne hDd.symm]; exact upd_same, ?_⟩
      have hDn : H D = none := by rw [upd_ne hDd] at hD; exact hD
      rw [unlock_eq hDd hd]
      generalize hF : ((L.filter fun e => decide (e.1 < l)).map fun e => lV e.1) = F
      have eN : wakeN L l n = if F.isEmpty = true then 0 else n := by rw [← hF]; exact wakeN_eq L l n
      refine ⟨!F.isEmpty, .inl ⟨F, SqL.of upd_same, rfl⟩, ?_⟩
      have h1D : upd H D (.lst F) p = some (.ins C.Schedule dx (fsD d n)) := by rw [upd_ne hDp.symm]; exact h1
      have hdD : upd H D (.lst F) d = some (.dK (kvsD L)) := by rw [upd_ne hDd.symm]; exact hd
      have keep0 : K2 p d H (upd H D (.lst F)) := fun b o e _ _ => by rw [upd_ne (ne_of_none e hDn)]; exact e
      -- what setdefault does
      have fin : ∀ (n' : Int) (H' : Hp), n' = wakeN L l n → H' p = some (.ins C.Schedule dx (fsD d n')) → H' d = some (.dK (kvsD L)) → K2 p d H H' →
          (∃ (kvs : List (Key × V)) (kk : Key), H' d = some (.dK kvs) ∧ lV l = kV kk ∧ kvs.length < sizeLine ∧ (∀ v, valV kvs kk = some v → Q .non H') ∧ (valV kvs kk = none → Q .non (upd H' d (.dK (putK kvs kk (V.int now)))))) := by
        intro n' H' en hp' hd' hk
        refine ⟨_, Sum.inl (l : Int), hd', rfl, ?_, fun v hv => ?_, fun hv => ?_⟩
        · rw [kvsD_len]
          have := ok.len
          exact small1000 (by omega)
        · rw [valV_kvsD] at hv
          refine k .non H' ⟨⟨dx, by rw [← en]; exact hp'⟩, ?_, ok.wake hl now⟩ hk
          unfold wakeD
          rw [if_pos (by cases e : look L l with | none => rw [e] at hv; cases hv | some t => rfl)]
          exact hd'
        · rw [valV_kvsD] at hv
          have hn : look L l = none := by cases e : look L l with | none => rfl | some t => rw [e] at hv; cases hv
          rw [kvsD_put hn]
          refine k .non _ ⟨⟨dx, by rw [upd_ne pd, ← en]; exact hp'⟩, ?_, ok.wake hl now⟩ fun b o e n1 n2 => by rw [upd_ne n2]; exact hk _ _ e n1 n2
          unfold wakeD
          rw [if_neg (by rw [hn]; exact Bool.false_ne_true)]
          exact upd_same
      refine ite2 (fun q => ?_) (fun q => ?_)
      · have q' : F.isEmpty = true := by simpa using q
        rw [if_pos q'] at eN
        refine ⟨_, rfl, p, _, dx, _, rfl, h1D, T.cl_Schedule, T.n_Schedule_portions, (by show 2 < 1000; decide), ?_⟩
        rw [putD_portions]
        refine ⟨_, rfl, p, _, dx, _, _, rfl, upd_same, T.cl_Schedule, T.n_Schedule_ticks, fsD_ticks d 0, d, rfl, .inl ⟨_, .inl (by rw [upd_ne pd.symm]; exact hdD)⟩, _, rfl, _, rfl, ?_⟩
        exact fin 0 _ eN.symm upd_same (by rw [upd_ne pd.symm]; exact hdD) fun b o e n1 n2 => by rw [upd_ne n1]; exact keep0 _ _ e n1 n2
      · have q' : ¬ F.isEmpty = true := fun z => q (by simpa using z)
        rw [if_neg q'] at eN
        refine ⟨_, rfl, p, _, dx, _, _, rfl, h1D, T.cl_Schedule, T.n_Schedule_ticks, fsD_ticks d n, d, rfl, .inl ⟨_, .inl hdD⟩, _, rfl, _, rfl, ?_⟩
        exact fin n _ eN.symm h1D hdD keep0
theorem sc_Schedule_portion : FnScope ["self", "cost"] ["self", "cost"] (defScope s_Schedule_portion) := ⟨rfl, rfl, rfl, by decide +kernel, rfl, by decide +kernel, by decide +kernel⟩
theorem ok_sportion (T : Txt K w mg C) : Met P w K mg base 1 C.Schedule "portion" (spSPortion C.Schedule) := by
  refine met_of T.m_Schedule_portion T.cl_Schedule sc_Schedule_portion (fun vs H Q E h => ?_) (fun f cdv A outer s H vs Q E hr h => ?_)
  · obtain ⟨p, d, L, n, cost, rfl, _⟩ := h
    rfl
  · obtain ⟨p, d, L, n, cost, rfl, S, k⟩ := h
    obtain ⟨⟨dx, h1⟩, hd, ok⟩ := id S
    have pd := S.pd
    refine ⟨_, (pss_cons (ps_if (pt_truth (pe_fld (pv 0) rfl) (fun _ => rfl)) (pss_one (ps_fldaug (pv 0) pe_int in_add)) pss_nil) (pss_one (ps_ret (pe_cmpR op_ge (pe_fld (pv 0) rfl) (pv 1) (nomark _))))), ?_⟩
    refine ⟨_, rfl, p, _, dx, _, _, rfl, h1, T.cl_Schedule, T.n_Schedule_ticks, fsD_ticks d n, !(kvsD L).isEmpty, .inr (.inr ⟨_, hd, rfl⟩), ?_⟩
    refine ite2 (fun q => ?_) (fun q => ?_)
    · have hL : L ≠ [] := fun e => by rw [e] at q; cases q
      rw [if_neg hL] at k
      refine ⟨_, rfl, p, _, dx, _, _, rfl, h1, T.cl_Schedule, T.n_Schedule_portions, fsD_portions d n, _, _, rfl, rfl, dx, _, h1, (by show 2 < 1000; decide), ?_⟩
      rw [putD_portions]
      refine ⟨_, rfl, p, _, dx, _, _, rfl, upd_same, T.cl_Schedule, T.n_Schedule_portions, fsD_portions d _, _, rfl, _, _, rfl, rfl, ?_⟩
      exact k _ ⟨⟨dx, upd_same⟩, by rw [upd_ne pd.symm]; exact hd, ok⟩ fun b o e n1 n2 => by rw [upd_ne n1]; exact e
    · have hL : L = [] := by cases L with | nil => rfl | cons a L => exact absurd rfl q
      rw [if_pos hL] at k
      refine ⟨_, rfl, p, _, dx, _, _, rfl, h1, T.cl_Schedule, T.n_Schedule_portions, fsD_portions d n, _, rfl, _, _, rfl, rfl, ?_⟩
      exact k H S K2.refl
theorem sc_Schedule_end : FnScope ["self", "lanes", "lane"] ["self", "lanes"] (defScope s_Schedule_end) := ⟨rfl, rfl, rfl, by decide +kernel, rfl, by decide +kernel, by decide +kernel⟩
theorem ok_send (T : Txt K w mg C) : Met P w K mg base 1 C.Schedule "end" (spSEnd C.Schedule K) := by
  refine met_of T.m_Schedule_end T.cl_Schedule sc_Schedule_end (fun vs H Q E h => ?_) (fun f cdv A outer s H vs Q E hr h => ?_)
  · obtain ⟨p, d, la, L, n, P, rfl, _⟩ := h
    rfl
  · obtain ⟨p, d, la, L, n, P, rfl, S, hP, k⟩ := h
    have hu := hu_of hr
    obtain ⟨⟨dx, h1⟩, hd, ok⟩ := id S
    have pd := S.pd
    refine ⟨_, (pss_cons (ps_fld (pv 0) (pe_lock (pe_dc (own := [("lane", 2)]) (g := gName 2) (tt := _) rfl sc_Schedule_end.nd (pi_keys (pe_fld (pv 0) rfl)) (blkOk_by (N := ["self", "lanes", "lane"]) (sc := (defScope s_Schedule_end)) (by decide +kernel)) (fun _ _ _ _ _ => pg_name (i := 2) sc_Schedule_end.nd rfl (Or.inl rfl)) (fun _ _ _ _ _ => pts_one (pt_cmpR (op_notIn_seqS (K := K) rfl) (pv 2) (pv 1) rfl)) (fun _ _ _ _ _ => (pv 2)) (fun _ _ _ _ _ => (pe_dget hu (pe_fldS (K := K) rfl (pv 0) rfl) (pv 2) (fun _ _ => rfl))))) rfl) (pss_one (ps_fld (pv 0) pe_int rfl))), ?_⟩
    refine ⟨d, _, hd, trivial, fun od => ?_⟩
    have hlk : upd H d (.frz od (.dK (kvsD L))) d = some (.frz od (.dK (kvsD L))) := upd_same
    have h1' : upd H d (.frz od (.dK (kvsD L))) p = some (.ins C.Schedule dx (fsD d n)) := by rw [upd_ne pd]; exact h1
    refine ⟨_, rfl, p, _, dx, _, _, rfl, h1', T.cl_Schedule, T.n_Schedule_ticks, fsD_ticks d n, d, od, rfl, .inl ⟨_, hlk, fun D hD => ?_⟩⟩
    have hDd : D ≠ d := fun z => by rw [z, upd_same] at hD; cases hD
    have hDp : D ≠ p := (ne_of_none h1' hD).symm
    have hDn : H D = none := by rw [upd_ne hDd] at hD; exact hD
    have hP1 : ∀ x : HO, SqL K (upd (upd H d (.frz od (.dK (kvsD L)))) D x) la (P.map lV) := fun x => by
      rcases hP with (hP | ⟨o, hP⟩) | hP
      · exact .inl (.inl (by rw [upd_ne (ne_of_none hP hDn), upd_ne (ne_of hP hd (by intro e; cases e))]; exact hP))
      · exact .inl (.inr ⟨o, by rw [upd_ne (ne_of_none hP hDn), upd_ne (ne_of hP hd (by intro e; cases e))]; exact hP⟩)
      · exact .inr hP
    refine dc_it (walk_keys (d := d) (o := od) (kvs := kvsD L)) (fun i H' => H' = upd (upd H d (.frz od (.dK (kvsD L)))) D (.dK (kvsD (endD (L.take i) P)))) rfl (fun i H' _ e => by rw [e, upd_ne hDd.symm]; exact upd_same) ?_ ?_
    · rintro i x H1 H2 hi rfl ⟨rfl, kk, vv, hk, rfl⟩
      have hi' : i < L.length := by rw [kvsD_len] at hi; exact hi
      have ek : kk = Sum.inl ((L[i].1 : Nat) : Int) := by
        unfold kvsD at hk
        rw [List.getElem?_map, List.getElem?_eq_getElem hi'] at hk
        exact (congrArg Prod.fst (Option.some.inj hk)).symm
      subst ek
      refine ⟨rfl, ?_⟩
      refine ⟨_, rfl, _, rfl, la, _, rfl, .inl (hP1 _), rfl, flat_l P, _, rfl, ?_⟩
      have e0 : (if true = true then !inV (.int ((L[i].1 : Nat) : Int)) (P.map lV) else inV (.int ((L[i].1 : Nat) : Int)) (P.map lV)) = !decide (L[i].1 ∈ P) := by
        rw [if_pos rfl]
        exact congrArg (!·) (inV_l L[i].1 P)
      have es := endD_snoc (P := P) hi'
      have eg : look L L[i].1 = some L[i].2 := look_of_mem ok.nd (List.getElem_mem hi')
      have hlk2 : upd (upd H d (.frz od (.dK (kvsD L)))) D (.dK (kvsD (endD (L.take i) P))) d = some (.frz od (.dK (kvsD L))) := by rw [upd_ne hDd.symm]; exact upd_same
      refine ite2 (fun q => ?_) (fun q => ?_)
      · have hn : L[i].1 ∉ P := fun z => by
          have q2 : (if true = true then !inV (.int ((L[i].1 : Nat) : Int)) (P.map lV) else inV (.int ((L[i].1 : Nat) : Int)) (P.map lV)) = true := q
          rw [e0, decide_eq_true z] at q2
          cases q2
        rw [if_neg hn] at es
        refine ⟨_, rfl, _, rfl, p, _, dx, _, _, rfl, (by rw [upd_ne hDp.symm]; exact h1'), T.cl_Schedule, T.n_Schedule_ticks, fsD_ticks d n, _, rfl, d, .int L[i].2, rfl, ?_, ?_⟩
        · have := DGet.kf (k := Sum.inl ((L[i].1 : Nat) : Int)) hlk2
          rw [valV_kvsD, eg] at this
          exact this
        · refine ⟨_, Sum.inl ((L[i].1 : Nat) : Int), rfl, upd_same, ?_, ?_⟩
          · rw [kvsD_len]
            have h1 := List.length_filter_le (fun e : Nat × Int => !decide (e.1 ∈ P)) (L.take i)
            have h2 := List.length_take_le i L
            have := ok.len
            exact small1000 (by show (endD (L.take i) P).length ≤ 1000; unfold endD; omega)
          · rw [upd_upd, kvsD_put (look_take ok.nd hi'), es]
      · have hn : L[i].1 ∈ P := by
          have q2 : ¬ (if true = true then !inV (.int ((L[i].1 : Nat) : Int)) (P.map lV) else inV (.int ((L[i].1 : Nat) : Int)) (P.map lV)) = true := q
          rw [e0] at q2
          simpa using q2
        rw [if_pos hn] at es
        rw [es]
    · rintro H1 rfl
      rw [kvsD_len, List.take_length]
      refine ⟨by rw [upd_ne hDd.symm]; exact upd_same, ?_⟩
      rw [unlock_eq hDd hd]
      refine ⟨_, rfl, p, _, dx, _, rfl, (by rw [upd_ne hDp.symm]; exact h1), T.cl_Schedule, T.n_Schedule_ticks, (by show 2 < 1000; decide), ?_⟩
      rw [putD_ticks]
      refine ⟨_, rfl, p, _, dx, _, rfl, upd_same, T.cl_Schedule, T.n_Schedule_portions, (by show 2 < 1000; decide), ?_⟩
      rw [putD_portions, upd_upd]
      refine k D _ ⟨⟨dx, upd_same⟩, by rw [upd_ne hDp]; exact upd_same, ok.endd P⟩ (fun b o e n1 n2 => by rw [upd_ne n1, upd_ne (ne_of_none e hDn)]; exact e) hDn
theorem sc_Schedule_next_pass : FnScope ["self", "now", "lanes", "overdue", "lane"] ["self", "now"] (defScope s_Schedule_next_pass) := ⟨rfl, rfl, rfl, by decide +kernel, rfl, by decide +kernel, by decide +kernel⟩
theorem ok_snext (T : Txt K w mg C) : MetK P w K mg base 2 C.Schedule "next_pass" (spSNext C.Schedule) 1 ["now"] catG := by
  have Mis_overdue : MetK P w K mg base 1 C.Schedule "is_overdue" (spSOver C.Schedule) 2 ["now"] catG := ok_sover T
  refine metK_of T.m_Schedule_next_pass T.cl_Schedule sc_Schedule_next_pass (fun vs H Q E h => ?_) (fun f cdv A outer s H vs Q E hr h => ?_)
  · obtain ⟨p, d, L, n, now, rfl, _⟩ := h
    rfl
  · obtain ⟨p, d, L, n, now, rfl, S, k0, k1⟩ := h
    have hu := hu_of hr
    obtain ⟨⟨dx, h1⟩, hd, ok⟩ := id S
    refine ⟨_, (pss_cons (ps_set (i := 2) sc_Schedule_next_pass.nd rfl (Or.inl rfl) (pe_callB cr_sortedI (by rfl) T.z_sorted (by decide +kernel) (pa_cons (pe_callTy (call_listD rfl) (by rfl) T.z_list (by decide +kernel) (pa_cons (pe_fld (pv 0) rfl) pa_nil)) pa_nil))) (pss_cons (ps_if (pt_not (pt_truth (pv 2) (fun _ => rfl))) (pss_one (ps_ret pe_non)) pss_nil) (pss_cons (ps_set (i := 3) sc_Schedule_next_pass.nd rfl (Or.inr rfl) (pe_lc (own := [("lane", 4)]) (g := gName 4) (tt := _) rfl sc_Schedule_next_pass.nd (pi_list (pv 2)) (blkOk_by (N := ["self", "now", "lanes", "overdue", "lane"]) (sc := (defScope s_Schedule_next_pass)) (by decide +kernel)) (fun _ _ _ _ _ => pg_name (i := 4) sc_Schedule_next_pass.nd rfl (Or.inl rfl)) (fun _ _ _ _ _ => pts_one (pt_val (pe_mtK Mis_overdue hr (by decide) (pv 0) (pa_cons (pv 4) pa_nil) (pk_cons (pv 1) pk_nil)))) (fun _ _ _ _ _ => (pv 4)))) (pss_cons (ps_if (pt_not (pt_truth (pv 3) (fun _ => rfl))) (pss_one (ps_ret (pe_tup (pa_cons (pe_slice sl_list (pv 2) po_none (po_some pe_int)) (pa_cons pe_bl pa_nil))))) pss_nil) (pss_one (ps_ret (pe_tup (pa_cons (pe_lc (own := [("lane", 4)]) (g := gName 4) (tt := _) rfl sc_Schedule_next_pass.nd (pi_list (pv 2)) (blkOk_by (N := ["self", "now", "lanes", "overdue", "lane"]) (sc := (defScope s_Schedule_next_pass)) (by decide +kernel)) (fun _ _ _ _ _ => pg_name (i := 4) sc_Schedule_next_pass.nd rfl (Or.inl rfl)) (fun _ _ _ _ _ => pts_one (pt_cmpR op_le (pv 4) (pe_ix (ix_listS (K := K) rfl) (pv 3) (pe_un un_neg pe_int) (fun _ _ => rfl)) (nomark _))) (fun _ _ _ _ _ => (pv 4))) (pa_cons pe_bl pa_nil))))))))), ?_⟩
    refine ⟨_, rfl, p, _, dx, _, _, rfl, h1, T.cl_Schedule, T.n_Schedule_ticks, fsD_ticks d n, d, _, rfl, .inl hd, fun a ha => ?_⟩
    have ek : ((kvsD L).map fun kv => kV kv.1) = (L.map fun e => (e.1 : Int)).map V.int := by
      unfold kvsD
      rw [List.map_map, List.map_map]
      rfl
    rw [ek]
    refine ⟨a, _, rfl, SqL.of upd_same, fun ns' b hp hs hb => ?_⟩
    have en : ns'.map V.int = (lanesD L).map lV := by
      rw [sorted_keys ok hp hs, List.map_map]
      rfl
    rw [en]
    have s1 : Same H (upd (upd H a (.lst ((L.map fun e => (e.1 : Int)).map V.int))) b (.lst ((lanesD L).map lV))) := (Same.new ha).trans (Same.new hb)
    have hb1 : upd (upd H a (.lst ((L.map fun e => (e.1 : Int)).map V.int))) b (.lst ((lanesD L).map lV)) b = some (.lst ((lanesD L).map lV)) := upd_same
    generalize upd (upd H a (.lst ((L.map fun e => (e.1 : Int)).map V.int))) b (.lst ((lanesD L).map lV)) = H1 at s1 hb1 ⊢
    refine ⟨_, rfl, !((lanesD L).map lV).isEmpty, .inl ⟨_, SqL.of hb1, rfl⟩, ?_⟩
    refine ite2 (fun q => ?_) (fun q => ?_)
    · have he : lanesD L = [] := by
        cases e : lanesD L with
        | nil => rfl
        | cons a r => rw [e] at q; exact absurd q (by simp)
      exact k0 he H1 s1
    · have hne : lanesD L ≠ [] := fun e => q (by rw [e]; rfl)
      have k1 := k1 hne
      -- overdue
      refine ⟨_, rfl, b, rfl, ⟨_, SqL.of hb1⟩, fun D hD => ?_⟩
      have hDb : b ≠ D := ne_of_none hb1 hD
      have hDn : H D = none := s1.free hD
      have sD : ∀ x : HO, Same H (upd H1 D x) := fun x c o e => by rw [upd_ne (ne_of_none (s1 _ _ e) hD)]; exact s1 _ _ e
      refine lc_it (walk_list (K := K) (a := b) (xs := (lanesD L).map lV)) (fun i H' => H' = upd H1 D (.lst ((((lanesD L).take i).filter (overD L now)).map lV))) rfl (fun i H' _ e => by rw [e]; exact SqL.of (by rw [upd_ne hDb]; exact hb1)) ?_ ?_
      · rintro i x H2 H3 hi rfl ⟨rfl, hx⟩
        have hi' : i < (lanesD L).length := by rw [List.length_map] at hi; exact hi
        have ex : x = lV (lanesD L)[i] := by
          rw [List.getElem?_map, List.getElem?_eq_getElem hi'] at hx
          exact (Option.some.inj hx).symm
        subst ex
        have hl4 : (lanesD L)[i] < 4 := look_some_lt ok ((mem_lanes ok).mp (List.getElem_mem hi'))
        have et := take_filter (L := lanesD L) (p := overD L now) (f := lV) hi'
        have S2 : SchA C.Schedule (upd H1 D (.lst ((((lanesD L).take i).filter (overD L now)).map lV))) p d L n := S.same (sD _)
        obtain ⟨dx2, h2⟩ := S2.ob
        refine ⟨rfl, ?_⟩
        refine ⟨_, rfl, p, dx2, _, rfl, h2, rfl, _, rfl, _, rfl, rfl, rfl, ?_⟩
        refine ⟨p, d, L, n, (lanesD L)[i], now, rfl, S2, hl4, _, rfl, ?_⟩
        refine ite2 (fun q => ?_) (fun q => ?_)
        · rw [if_pos q] at et
          refine ⟨_, rfl, _, upd_same, ?_, ?_⟩
          · rw [List.length_map]
            have h1 := List.length_filter_le (overD L now) ((lanesD L).take i)
            have h2 := List.length_take_le i (lanesD L)
            have := lanes_len L
            exact small1000 (by omega)
          · rw [upd_upd, et]
        · rw [if_neg q, List.append_nil] at et
          rw [et]
      · rintro H2 rfl
        rw [List.length_map, List.take_length]
        have hb2 : upd H1 D (.lst ((oversD L now).map lV)) b = some (.lst ((lanesD L).map lV)) := by rw [upd_ne hDb]; exact hb1
        have s2 := sD (.lst ((oversD L now).map lV))
        have hD2 : upd H1 D (.lst ((oversD L now).map lV)) D = some (.lst ((oversD L now).map lV)) := upd_same
        rw [show (lanesD L).filter (overD L now) = oversD L now from rfl]
        generalize upd H1 D (.lst ((oversD L now).map lV)) = H2 at hb2 s2 hD2 ⊢
        refine ⟨_, rfl, !((oversD L now).map lV).isEmpty, .inl ⟨_, SqL.of hD2, rfl⟩, ?_⟩
        have out : ∀ (Ps : List V) (wh : Bool) (li : Addr) (H3 : Hp), Ps = (passD L now).map lV → wh = wholeD L now → H li = none → Same H H3 → H3 li = some (.lst Ps) → ∀ t, H3 t = none → Q (.ref t) (upd H3 t (.tup [.ref li, .bl wh])) := by
          intro Ps wh li H3 ep ew hli s3 h3 t ht
          subst ep ew
          refine k1 t li _ (s3.trans (Same.new ht)) (s3.free ht) hli upd_same ?_
          rw [upd_ne (ne_of_none h3 ht)]
          exact h3
        cases qo : (oversD L now).getLast? with
        | none =>
          have hov : oversD L now = [] := List.getLast?_eq_none_iff.mp qo
          rw [hov]
          refine iteT ?_
          refine ⟨_, rfl, 1, rfl, b, _, rfl, SqL.of hb2, fun q hq => ⟨by show 2 ≤ sizeLine; decide, fun t ht => ?_⟩⟩
          refine out _ false q _ ?_ ?_ (s2.free hq) (s2.trans (Same.new hq)) upd_same t ht
          · rw [cut_one, ← List.map_take]
            unfold passD
            rw [qo]
          · unfold wholeD
            rw [hov]
            rfl
        | some m =>
          have hov : ((oversD L now).map lV).isEmpty = false := by
            cases e : oversD L now with
            | nil => rw [e] at qo; cases qo
            | cons a r => rfl
          rw [hov]
          refine iteF ?_
          refine ⟨_, rfl, b, rfl, ⟨_, SqL.of hb2⟩, fun E2 hE2 => ?_⟩
          have hEb : b ≠ E2 := ne_of_none hb2 hE2
          have hED : D ≠ E2 := ne_of_none hD2 hE2
          refine lc_it (walk_list (K := K) (a := b) (xs := (lanesD L).map lV)) (fun i H' => H' = upd H2 E2 (.lst ((((lanesD L).take i).filter fun l => decide (l ≤ m)).map lV))) rfl (fun i H' _ e => by rw [e]; exact SqL.of (by rw [upd_ne hEb]; exact hb2)) ?_ ?_
          · rintro i x H3 H4 hi rfl ⟨rfl, hx⟩
            have hi' : i < (lanesD L).length := by rw [List.length_map] at hi; exact hi
            have ex : x = lV (lanesD L)[i] := by
              rw [List.getElem?_map, List.getElem?_eq_getElem hi'] at hx
              exact (Option.some.inj hx).symm
            subst ex
            have et := take_filter (L := lanesD L) (p := fun l => decide (l ≤ m)) (f := lV) hi'
            refine ⟨rfl, ?_⟩
            refine ⟨_, rfl, _, rfl, 1, rfl, D, _, _, _, rfl, rfl, SqL.of (by rw [upd_ne hED]; exact hD2), at_last qo, _, _, rfl, rfl, _, rfl, ?_⟩
            refine ite2 (fun q => ?_) (fun q => ?_)
            · have q' : (lanesD L)[i] ≤ m := by have := of_decide_eq_true q; omega
              rw [if_pos (decide_eq_true q')] at et
              refine ⟨_, rfl, _, upd_same, ?_, ?_⟩
              · rw [List.length_map]
                have h1 := List.length_filter_le (fun l => decide (l ≤ m)) ((lanesD L).take i)
                have h2 := List.length_take_le i (lanesD L)
                have := lanes_len L
                exact small1000 (by omega)
              · rw [upd_upd, et]
            · have q' : ¬ (lanesD L)[i] ≤ m := fun z => q (decide_eq_true (by omega))
              rw [if_neg (by simp; omega), List.append_nil] at et
              rw [et]
          · rintro H3 rfl
            rw [List.length_map, List.take_length]
            refine ⟨by show 2 ≤ sizeLine; decide, fun t ht => ?_⟩
            refine out _ true E2 _ ?_ ?_ (s2.free hE2) (s2.trans (Same.new hE2)) upd_same t ht
            · unfold passD
              rw [qo]
            · unfold wholeD
              cases e : oversD L now with
              | nil => rw [e] at qo; cases qo
              | cons a r => rfl
theorem sc_Schedule_pending : FnScope ["self"] ["self"] (defScope s_Schedule_pending) := ⟨rfl, rfl, rfl, by decide +kernel, rfl, by decide +kernel, by decide +kernel⟩
theorem ok_spending (T : Txt K w mg C) : Pro P w K mg base 1 C.Schedule "pending" (spSPending C.Schedule) := by
  refine pro_of T.p_Schedule_pending T.cl_Schedule sc_Schedule_pending (fun vs H Q E h => ?_) (fun f cdv A outer s H vs Q E hr h => ?_)
  · obtain ⟨p, d, L, n, rfl, _⟩ := h
    rfl
  · obtain ⟨p, d, L, n, rfl, S, k⟩ := h
    obtain ⟨⟨dx, h1⟩, hd, ok⟩ := id S
    refine ⟨_, (pss_one (ps_ret (pe_callB cr_sortedPO (by rfl) T.z_sorted (by decide +kernel) (pa_cons (LiI.pe_listItems rfl (pe_fld (pv 0) rfl) (by rfl) T.z_list (by decide +kernel)) pa_nil)))), ?_⟩
    refine ⟨_, rfl, p, _, dx, _, _, rfl, h1, T.cl_Schedule, T.n_Schedule_ticks, fsD_ticks d n, d, _, rfl, hd, fun H1 a ts s1 ha hts hat h1a pr => ?_⟩
    obtain ⟨e1, e2⟩ := kap_of_paired pr
    refine ⟨a, _, kapH H1, rfl, SqL.of h1a, e2, fun ys b hs hst hb => ?_⟩
    have hp : (ys.map (kapH H1)).Perm (L.map cstE) := by rw [← e1]; exact hst.perm.map _
    have hs2 : (ys.map (kapH H1)).Pairwise fun x y => SrtO.lexB y x = false := List.Pairwise.map _ (fun _ _ h => h) hs
    obtain ⟨ts', e3, pr'⟩ := paired_kap (H := H1) (ys := ys) (B := pendD L) (fun y hy => e2 y (hst.perm.mem_iff.mp hy)) (pend_sorted ok hp hs2)
    have hin : ∀ t ∈ ts', t ∈ ts := fun t ht => by
      have h1 : V.ref t ∈ ys := by rw [e3]; exact List.mem_map.mpr ⟨t, ht, rfl⟩
      obtain ⟨t2, h2, h3⟩ := List.mem_map.mp (hst.perm.mem_iff.mp h1)
      injection h3 with h3
      rw [← h3]
      exact h2
    subst e3
    have hnb : ∀ t ∈ ts', H1 t ≠ none := fun t ht e => by
      obtain ⟨t2, h2, h3⟩ := e2 (V.ref t) (List.mem_map.mpr ⟨t, hin t ht, rfl⟩)
      injection h2 with h2
      rw [← h2, e] at h3
      cases h3
    refine k b ts' _ (fun c o e => by rw [upd_ne (ne_of_none (s1 _ _ e) hb)]; exact s1 _ _ e) (Same.free s1 hb) (fun t ht => hts t (hin t ht)) (fun hm => hnb b hm hb) upd_same ?_
    exact paired_memS (fun t e ht h => by rw [upd_ne (fun z => hnb t ht (by rw [z]; exact hb))]; exact h) pr'
theorem sc_Schedule_done : FnScope ["self"] ["self"] (defScope s_Schedule_done) := ⟨rfl, rfl, rfl, by decide +kernel, rfl, by decide +kernel, by decide +kernel⟩
theorem ok_sdone (T : Txt K w mg C) : Pro P w K mg base 1 C.Schedule "done" (spSDone C.Schedule) := by
  refine pro_of T.p_Schedule_done T.cl_Schedule sc_Schedule_done (fun vs H Q E h => ?_) (fun f cdv A outer s H vs Q E hr h => ?_)
  · obtain ⟨p, d, L, n, rfl, _⟩ := h
    rfl
  · obtain ⟨p, d, L, n, rfl, S, k⟩ := h
    obtain ⟨⟨dx, h1⟩, hd, ok⟩ := id S
    refine ⟨_, (pss_one (ps_ret (pe_fld (pv 0) rfl))), ?_⟩
    exact ⟨_, rfl, p, _, dx, _, _, rfl, h1, T.cl_Schedule, T.n_Schedule_portions, fsD_portions d n, k⟩
end
end VL

set_option Elab.async false
set_option linter.all false
set_option maxRecDepth 100000
set_option maxHeartbeats 4000000
set_option pp.maxSteps 300
namespace VL
open PySem PySem.Spec PyProof.Rows L2

theorem oV_non (o : Option Int) : decide (oV o = V.non) = !o.isSome := by
  cases o with
  | none => rfl
  | some t => exact decide_eq_false (by intro e; cases e)
theorem take4 {i : Nat} (hi : i < 4) : [0, 1, 2, 3][i]? = some i := by
  rcases i with _ | _ | _ | _ | i
  · rfl
  · rfl
  · rfl
  · rfl
  · omega
theorem lanes_take {L : Sd} {i : Nat} (hi : i < 4) {β : Type} (f : Nat → β) : (([0, 1, 2, 3].take (i + 1)).filter fun l => (look L l).isSome).map f = (([0, 1, 2, 3].take i).filter fun l => (look L l).isSome).map f ++ if (look L i).isSome = true then [f i] else [] := by
  have h := take_filter (L := [0, 1, 2, 3]) (p := fun l => (look L l).isSome) (f := f) (i := i) hi
  have e : ([0, 1, 2, 3] : List Nat)[i]'hi = i := by
    have := take4 hi
    rw [List.getElem?_eq_getElem hi] at this
    exact Option.some.inj this
  rw [e] at h
  exact h
def spLNext : Sp := fun vs H Q _ => ∃ (wl : Addr) (L : Sd) (now : Int), vs = [.ref wl, .int now] ∧ H wl = some (.lst (wvD L)) ∧ OkD L ∧ (lanesD L = [] → ∀ H', Same H H' → Q .non H') ∧
  (lanesD L ≠ [] → ∀ t li H', Same H H' → H t = none → H li = none → H' t = some (.tup [.ref li, .bl (wholeD L now)]) → H' li = some (.lst ((passD L now).map lV)) → Q (.ref t) H')
def spLShows (C : Addr) : Sp := fun vs H Q _ => ∃ (p d wl : Addr) (L : Sd) (n now : Int), vs = [.ref p, .ref wl, .int n, .int now] ∧ SchA C H p d L n ∧ H wl = some (.lst (wvD L)) ∧ ∀ H', Same H H' → Q (.bl true) H'
theorem Same.put {H H' : Hp} {D : Addr} {o : HO} (s : Same H H') (n : H D = none) : Same H (upd H' D o) := fun b u e => by rw [upd_ne (ne_of_none e n)]; exact s _ _ e
section
variable {P : Program} {w : World} {K : PySem.W.Frag} {mg : Str → Option Value} {base : Heap} {C : Ad}
theorem sc_Schedule_give_up : FnScope ["self"] ["self"] (defScope s_Schedule_give_up) := ⟨rfl, rfl, rfl, by decide +kernel, rfl, by decide +kernel, by decide +kernel⟩
theorem ok_sgive (T : Txt K w mg C) : Met P w K mg base 1 C.Schedule "give_up" (fun vs H Q _ => ∃ (p d : Addr) (L : Sd) (n : Int), vs = [.ref p] ∧ SchA C.Schedule H p d L n ∧ ∀ H', SchA C.Schedule H' p d L 0 → K2 p d H H' → Q .non H') := by
  refine met_of T.m_Schedule_give_up T.cl_Schedule sc_Schedule_give_up (fun vs H Q E h => ?_) (fun f cdv A outer s H vs Q E hr h => ?_)
  · obtain ⟨p, d, L, n, rfl, _⟩ := h
    rfl
  · obtain ⟨p, d, L, n, rfl, S, k⟩ := h
    obtain ⟨⟨dx, h1⟩, hd, ok⟩ := id S
    refine ⟨_, (pss_one (ps_fld (pv 0) pe_int rfl)), ?_⟩
    refine ⟨_, rfl, p, _, dx, _, rfl, h1, T.cl_Schedule, T.n_Schedule_portions, (by show 2 < 1000; decide), ?_⟩
    rw [putD_portions]
    exact k _ ⟨⟨dx, upd_same⟩, by rw [upd_ne S.pd.symm]; exact hd, ok⟩ fun b o e n1 n2 => by rw [upd_ne n1]; exact e
theorem sc_Schedule_clear : FnScope ["self"] ["self"] (defScope s_Schedule_clear) := ⟨rfl, rfl, rfl, by decide +kernel, rfl, by decide +kernel, by decide +kernel⟩
theorem ok_sclear (T : Txt K w mg C) : Met P w K mg base 1 C.Schedule "clear" (fun vs H Q _ => ∃ (p d : Addr) (L : Sd) (n : Int), vs = [.ref p] ∧ SchA C.Schedule H p d L n ∧ ∀ d' H', SchA C.Schedule H' p d' [] 0 → K2 p d H H' → H d' = none → Q .non H') := by
  refine met_of T.m_Schedule_clear T.cl_Schedule sc_Schedule_clear (fun vs H Q E h => ?_) (fun f cdv A outer s H vs Q E hr h => ?_)
  · obtain ⟨p, d, L, n, rfl, _⟩ := h
    rfl
  · obtain ⟨p, d, L, n, rfl, S, k⟩ := h
    obtain ⟨⟨dx, h1⟩, hd, ok⟩ := id S
    refine ⟨_, (pss_cons (ps_fld (pv 0) pe_dnewK rfl) (pss_one (ps_fld (pv 0) pe_int rfl))), ?_⟩
    intro d' nd'
    have hp' : p ≠ d' := ne_of_none h1 nd'
    refine ⟨_, rfl, p, _, dx, _, rfl, (by rw [upd_ne hp']; exact h1), T.cl_Schedule, T.n_Schedule_ticks, (by show 2 < 1000; decide), ?_⟩
    rw [putD_ticks]
    refine ⟨_, rfl, p, _, dx, _, rfl, upd_same, T.cl_Schedule, T.n_Schedule_portions, (by show 2 < 1000; decide), ?_⟩
    rw [putD_portions, upd_upd]
    exact k d' _ ⟨⟨dx, upd_same⟩, by rw [upd_ne hp'.symm]; exact upd_same, OkD.nil⟩ (fun b o e n1 n2 => by rw [upd_ne n1, upd_ne (ne_of_none e nd')]; exact e) nd'
theorem sc__law_next : FnScope ["since", "now", "lanes", "late", "lane"] ["since", "now"] (defScope s__law_next) := ⟨rfl, rfl, rfl, by decide +kernel, rfl, by decide +kernel, by decide +kernel⟩
theorem ok_lnext (T : Txt K w mg C) : Cal P w K mg base 1 "_law_next" spLNext := by
  refine cal_of T.d__law_next sc__law_next (fun vs H Q E h => ?_) (fun f cdv A outer s H vs Q E hr h => ?_)
  · obtain ⟨wl, L, now, rfl, _⟩ := h
    rfl
  · obtain ⟨wl, L, now, rfl, hw, ok, k0, k1⟩ := h
    refine ⟨_, (pss_cons (ps_setLc (i := 2) (own := [("lane", 4)]) (g := gName 4) (tt := _) rfl sc__law_next.nd rfl rfl (sw_true rfl rfl rfl (by decide +kernel)) (pi_range1 (by rfl) T.z_range (pa_cons pe_int pa_nil)) (blkOk_by (N := ["since", "now", "lanes", "late", "lane"]) (sc := (defScope s__law_next)) (by decide +kernel)) (fun _ _ _ _ _ => pg_name (i := 4) sc__law_next.nd rfl (Or.inl rfl)) (fun _ _ _ _ _ => pts_one (pt_cmp (pc_notN (pe_ix (ix_listS (K := K) rfl) (pv 0) (pv 4) (fun _ _ => rfl))))) (fun _ _ _ _ _ => (pv 4))) (pss_cons (ps_set (i := 3) sc__law_next.nd rfl (Or.inr rfl) (pe_lc (own := [("lane", 4)]) (g := gName 4) (tt := _) rfl sc__law_next.nd (pi_list (pv 2)) (blkOk_by (N := ["since", "now", "lanes", "late", "lane"]) (sc := (defScope s__law_next)) (by decide +kernel)) (fun _ _ _ _ _ => pg_name (i := 4) sc__law_next.nd rfl (Or.inl rfl)) (fun _ _ _ _ _ => pts_one (pt_cmpR op_le (pe_op op_add (pe_ix (ix_listS (K := K) rfl) (pv 0) (pv 4) (fun _ _ => rfl)) (pe_ix (ix_tupS (K := K) rfl) (pe_tup (pa_cons pe_int (pa_cons pe_int (pa_cons pe_int (pa_cons pe_int pa_nil))))) (pv 4) (fun _ _ => rfl))) (pv 1) (nomark _))) (fun _ _ _ _ _ => (pv 4)))) (pss_cons (ps_if (pt_cmpR op_eq (pe_callB call_len_seq (by rfl) T.z_len PySem.boot_len (pa_cons (pv 2) pa_nil)) pe_int (nomark _)) (pss_one (ps_ret pe_non)) pss_nil) (pss_cons (ps_if (pt_cmpR op_gt (pe_callB call_len_seq (by rfl) T.z_len PySem.boot_len (pa_cons (pv 3) pa_nil)) pe_int (nomark _)) (pss_one (ps_ret (pe_tup (pa_cons (pe_lc (own := [("lane", 4)]) (g := gName 4) (tt := _) rfl sc__law_next.nd (pi_list (pv 2)) (blkOk_by (N := ["since", "now", "lanes", "late", "lane"]) (sc := (defScope s__law_next)) (by decide +kernel)) (fun _ _ _ _ _ => pg_name (i := 4) sc__law_next.nd rfl (Or.inl rfl)) (fun _ _ _ _ _ => pts_one (pt_cmpR op_le (pv 4) (pe_callB (cr_maxS (K := K) rfl rfl) (by rfl) T.z_max (by decide +kernel) (pa_cons (pv 3) pa_nil)) (nomark _))) (fun _ _ _ _ _ => (pv 4))) (pa_cons pe_bl pa_nil))))) pss_nil) (pss_one (ps_ret (pe_tup (pa_cons (pe_lst (pa_cons (pe_callB (cr_min rfl) (by rfl) T.z_min (by decide +kernel) (pa_cons (pv 2) pa_nil)) pa_nil)) (pa_cons pe_bl pa_nil))))))))), ?_⟩
    refine ⟨4, rfl, by decide, by decide, fun b hb => ?_⟩
    have hwb : wl ≠ b := ne_of_none hw hb
    refine lc_it (walk_range (lo := 0) (n := 4)) (fun i H' => H' = upd H b (.lst ((([0, 1, 2, 3].take i).filter fun l => (look L l).isSome).map lV))) rfl (fun _ _ _ _ => trivial) ?_ ?_
    · rintro i x H1 H2 hi rfl ⟨rfl, ex⟩
      have ex : x = lV i := ex.trans (congrArg V.int (Int.zero_add _))
      subst ex
      have hat := wv_atI (L := L) hi
      have et := lanes_take (L := L) hi lV
      refine ⟨rfl, ?_⟩
      refine ⟨_, rfl, _, rfl, wl, _, (i : Int), _, rfl, rfl, SqL.of (by rw [upd_ne hwb]; exact hw), hat, _, rfl, ?_⟩
      rw [oV_non, Bool.not_not]
      refine ite2 (fun q => ?_) (fun q => ?_)
      · rw [if_pos q] at et
        refine ⟨_, rfl, _, upd_same, ?_, ?_⟩
        · rw [List.length_map]
          have h1 := List.length_filter_le (fun l => (look L l).isSome) ([0, 1, 2, 3].take i)
          have h2 := List.length_take_le i [0, 1, 2, 3]
          exact small1000 (by omega)
        · rw [upd_upd, et]
      · rw [if_neg q, List.append_nil] at et
        rw [et]
    · rintro H1 rfl
      have hb1 : upd H b (.lst ((lanesD L).map lV)) b = some (.lst ((lanesD L).map lV)) := upd_same
      have s1 : Same H (upd H b (.lst ((lanesD L).map lV))) := Same.new hb
      rw [show ([0, 1, 2, 3].take 4).filter (fun l => (look L l).isSome) = lanesD L from rfl]
      generalize upd H b (.lst ((lanesD L).map lV)) = H2 at hb1 s1 ⊢
      -- late
      refine ⟨_, rfl, b, rfl, ⟨_, SqL.of hb1⟩, fun D hD => ?_⟩
      have hDb : b ≠ D := ne_of_none hb1 hD
      have hwD : wl ≠ D := ne_of_none (s1 _ _ hw) hD
      refine lc_it (walk_list (K := K) (a := b) (xs := (lanesD L).map lV)) (fun i H' => H' D = some (.lst ((((lanesD L).take i).filter (overD L now)).map lV)) ∧ Same H2 H') ⟨upd_same, Same.new hD⟩ (fun i H' _ e => SqL.of (e.2 _ _ hb1)) ?_ ?_
      · rintro i x H3 H4 hi ⟨hD3, s3⟩ ⟨rfl, hx⟩
        have hi' : i < (lanesD L).length := by rw [List.length_map] at hi; exact hi
        have ex : x = lV (lanesD L)[i] := by
          rw [List.getElem?_map, List.getElem?_eq_getElem hi'] at hx
          exact (Option.some.inj hx).symm
        subst ex
        have hsome := (mem_lanes ok).mp (List.getElem_mem hi')
        have hl4 : (lanesD L)[i] < 4 := look_some_lt ok hsome
        have et := take_filter (L := lanesD L) (p := overD L now) (f := lV) hi'
        have hat := wv_atI (L := L) hl4
        obtain ⟨t', ht'⟩ : ∃ t', look L (lanesD L)[i] = some t' := by
          cases e : look L (lanesD L)[i] with
          | none => rw [e] at hsome; cases hsome
          | some t' => exact ⟨t', rfl⟩
        rw [ht'] at hat
        have hw3 := s3 _ _ (s1 _ _ hw)
        refine ⟨rfl, ?_⟩
        refine ⟨_, rfl, _, rfl, wl, _, ((lanesD L)[i] : Int), .int t', rfl, rfl, SqL.of hw3, hat, ?_⟩
        refine ⟨by show 4 ≤ sizeLine; decide, fun t ht => ?_⟩
        refine ⟨_, rfl, t, _, ((lanesD L)[i] : Int), .int (pat (lanesD L)[i]), rfl, rfl, SqT.of upd_same, at_pat hl4, _, _, rfl, rfl, _, rfl, _, _, rfl, rfl, _, rfl, ?_⟩
        have eo : overD L now (lanesD L)[i] = decide (t' + pat (lanesD L)[i] ≤ now) := by unfold overD; rw [ht']
        have hDt : D ≠ t := ne_of_none hD3 ht
        have s4 : Same H2 (upd H4 t (.tup [.int 0, .int 5000, .int 10000, .int 60000])) := s3.trans (Same.new ht)
        have hD4 : upd H4 t (.tup [.int 0, .int 5000, .int 10000, .int 60000]) D = some (.lst ((((lanesD L).take i).filter (overD L now)).map lV)) := by rw [upd_ne hDt]; exact hD3
        rw [← eo]
        refine ite2 (fun q => ?_) (fun q => ?_)
        · rw [if_pos q] at et
          refine ⟨_, rfl, _, hD4, ?_, ?_⟩
          · rw [List.length_map]
            have h1 := List.length_filter_le (overD L now) ((lanesD L).take i)
            have h2 := List.length_take_le i (lanesD L)
            have := lanes_len L
            exact small1000 (by omega)
          · exact ⟨by rw [upd_same, et], Same.put s4 hD⟩
        · rw [if_neg q, List.append_nil] at et
          exact ⟨by rw [et]; exact hD4, s4⟩
      · rintro H3 ⟨hD3, s3⟩
        rw [List.length_map, List.take_length, show (lanesD L).filter (overD L now) = oversD L now from rfl] at hD3
        have s13 := s1.trans s3
        have hb3 := s3 _ _ hb1
        have out : ∀ (Ps : List V) (wh : Bool) (li : Addr) (H5 : Hp), lanesD L ≠ [] → Ps = (passD L now).map lV → wh = wholeD L now → H li = none → Same H H5 → H5 li = some (.lst Ps) → ∀ t, H5 t = none → Q (.ref t) (upd H5 t (.tup [.ref li, .bl wh])) := by
          intro Ps wh li H5 hne ep ew hli s5 h5 t ht
          subst ep ew
          refine k1 hne t li _ (s5.trans (Same.new ht)) (s5.free ht) hli upd_same ?_
          rw [upd_ne (ne_of_none h5 ht)]
          exact h5
        refine ⟨_, rfl, b, _, rfl, .inl (SqL.of hb3), rfl, _, rfl, ?_⟩
        rw [List.length_map]
        refine ite2 (fun q => ?_) (fun q => ?_)
        · have he : lanesD L = [] := by
            have q2 := of_decide_eq_true q
            injection q2 with q2
            exact List.length_eq_zero_iff.mp (by omega)
          exact k0 he H3 s13
        · have hne : lanesD L ≠ [] := fun e => q (decide_eq_true (by rw [e]; rfl))
          refine ⟨_, rfl, D, _, rfl, .inl (SqL.of hD3), _, _, rfl, rfl, _, rfl, ?_⟩
          rw [List.length_map]
          refine ite2 (fun q => ?_) (fun q => ?_)
          · obtain ⟨m, hm⟩ : ∃ m, (oversD L now).getLast? = some m := by
              cases e : (oversD L now).getLast? with
              | none =>
                rw [List.getLast?_eq_none_iff.mp e] at q
                exact absurd (of_decide_eq_true q) (by simp)
              | some m => exact ⟨m, rfl⟩
            have hps := pass_whole hm
            refine ⟨_, rfl, b, rfl, ⟨_, SqL.of hb3⟩, fun E2 hE2 => ?_⟩
            have hEb : b ≠ E2 := ne_of_none hb3 hE2
            have hED : D ≠ E2 := ne_of_none hD3 hE2
            refine lc_it (walk_list (K := K) (a := b) (xs := (lanesD L).map lV)) (fun i H' => H' = upd H3 E2 (.lst ((((lanesD L).take i).filter fun l => decide (l ≤ m)).map lV))) rfl (fun i H' _ e => by rw [e]; exact SqL.of (by rw [upd_ne hEb]; exact hb3)) ?_ ?_
            · rintro i x H4 H5 hi rfl ⟨rfl, hx⟩
              have hi' : i < (lanesD L).length := by rw [List.length_map] at hi; exact hi
              have ex : x = lV (lanesD L)[i] := by
                rw [List.getElem?_map, List.getElem?_eq_getElem hi'] at hx
                exact (Option.some.inj hx).symm
              subst ex
              have et := take_filter (L := lanesD L) (p := fun l => decide (l ≤ m)) (f := lV) hi'
              have eov : (oversD L now).map lV = ((oversD L now).map fun (k : Nat) => (k : Int)).map V.int := by rw [List.map_map]; rfl
              refine ⟨rfl, ?_⟩
              refine ⟨_, rfl, _, rfl, D, (oversD L now).map fun (k : Nat) => (k : Int), rfl, SqL.of (by rw [upd_ne hED, ← eov]; exact hD3), ?_, fun mx hmx hall => ?_⟩
              · rw [List.length_map]
                have := of_decide_eq_true q
                omega
              have emx : mx = (m : Int) := by
                obtain ⟨k, hk, rfl⟩ := List.mem_map.mp hmx
                have h1 := hall (m : Int) (List.mem_map.mpr ⟨m, List.mem_of_getLast? hm, rfl⟩)
                obtain ⟨m2, hm2, hle, _⟩ := overs_some ok (List.mem_filter.mp hk).2
                rw [hm] at hm2
                injection hm2 with hm2
                omega
              subst emx
              refine ⟨_, _, rfl, rfl, _, rfl, ?_⟩
              refine ite2 (fun q => ?_) (fun q => ?_)
              · have q' : (lanesD L)[i] ≤ m := by have := of_decide_eq_true q; omega
                rw [if_pos (decide_eq_true q')] at et
                refine ⟨_, rfl, _, upd_same, ?_, ?_⟩
                · rw [List.length_map]
                  have h1 := List.length_filter_le (fun l => decide (l ≤ m)) ((lanesD L).take i)
                  have h2 := List.length_take_le i (lanesD L)
                  have := lanes_len L
                  exact small1000 (by omega)
                · rw [upd_upd, et]
              · have q' : ¬ (lanesD L)[i] ≤ m := fun z => q (decide_eq_true (by omega))
                rw [if_neg (by simp; omega), List.append_nil] at et
                rw [et]
            · rintro H4 rfl
              rw [List.length_map, List.take_length]
              refine ⟨by show 2 ≤ sizeLine; decide, fun t ht => ?_⟩
              exact out _ true E2 _ hne (by rw [hps.1]) hps.2.symm (s13.free hE2) (s13.trans (Same.new hE2)) upd_same t ht
          · have hov : oversD L now = [] := by
              cases e : oversD L now with
              | nil => rfl
              | cons a r => rw [e] at q; exact absurd (decide_eq_true (by simp)) q
            cases e : lanesD L with
            | nil => exact absurd e hne
            | cons m r =>
              have ebl : (lanesD L).map lV = ((lanesD L).map fun (k : Nat) => (k : Int)).map V.int := by rw [List.map_map]; rfl
              refine ⟨_, rfl, b, (lanesD L).map fun (k : Nat) => (k : Int), rfl, SqL.of (by rw [← ebl]; exact hb3), by rw [List.length_map, e]; exact Nat.succ_pos _, fun mn hmn hall => ?_⟩
              have emn : mn = (m : Int) := by
                obtain ⟨k, hk, rfl⟩ := List.mem_map.mp hmn
                have h1 := hall (m : Int) (List.mem_map.mpr ⟨m, by rw [e]; exact List.mem_cons_self, rfl⟩)
                have hs := lanes_sorted L
                rw [e] at hk hs
                rw [List.pairwise_cons] at hs
                rcases List.mem_cons.mp hk with z | z
                · omega
                · have := hs.1 _ z; omega
              subst emn
              refine ⟨by show 1 ≤ sizeLine; decide, fun l1 hl1 => ?_⟩
              refine ⟨by show 2 ≤ sizeLine; decide, fun t ht => ?_⟩
              refine out [lV m] false l1 _ hne ?_ ?_ (s13.free hl1) (s13.trans (Same.new hl1)) upd_same t ht
              · unfold passD
                rw [hov, e]
                rfl
              · unfold wholeD
                rw [hov]
                rfl
theorem sc__law_shows : FnScope ["schedule", "since", "done", "now", "lane", "late"] ["schedule", "since", "done", "now"] (defScope s__law_shows) := ⟨rfl, rfl, rfl, by decide +kernel, rfl, by decide +kernel, by decide +kernel⟩
theorem ok_lshows (T : Txt K w mg C) : Cal P w K mg base 4 "_law_shows" (spLShows C.Schedule) := by
  have G_law_next : Cal P w K mg base 1 "_law_next" spLNext := ok_lnext T
  have G_law_is_integer : Cal P w K mg base 1 "_law_is_integer" spIsInt := ok_isInt T
  have Mis_overdue : MetK P w K mg base 1 C.Schedule "is_overdue" (spSOver C.Schedule) 2 ["now"] catG := ok_sover T
  have Mnext_pass : MetK P w K mg base 2 C.Schedule "next_pass" (spSNext C.Schedule) 1 ["now"] catG := ok_snext T
  have Ppending : Pro P w K mg base 1 C.Schedule "pending" (spSPending C.Schedule) := ok_spending T
  have Pdone : Pro P w K mg base 1 C.Schedule "done" (spSDone C.Schedule) := ok_sdone T
  obtain ⟨na, nu, cv, cn, hq, _⟩ := T.cc_Schedule_PATIENCE
  obtain ⟨fc, fdc, Fc, ⟨vc, ic, kc⟩, bc⟩ := T.m_Schedule___contains__
  have GC : FnOk P w K mg base CX0 1 fc fdc ["self", "lane"] (spSHas C.Schedule) := ok_shas Fc T
  refine cal_of T.d__law_shows sc__law_shows (fun vs H Q E h => ?_) (fun f cdv A outer s H vs Q E hr h => ?_)
  · obtain ⟨p, d, wl, L, n, now, rfl, _⟩ := h
    rfl
  · obtain ⟨p, d, wl, L, n, now, rfl, S, hw, k⟩ := h
    obtain ⟨⟨dx, h1⟩, hd, ok⟩ := id S
    refine ⟨_, (pss_cons (ps_if (pt_cmpR (op_neD hr.units) (pe_pr Ppending hr (by decide) (pv 0)) (pe_lc (own := [("lane", 4)]) (g := gName 4) (tt := _) rfl sc__law_shows.nd (pi_range1 (by rfl) T.z_range (pa_cons pe_int pa_nil)) (blkOk_by (N := ["schedule", "since", "done", "now", "lane", "late"]) (sc := (defScope s__law_shows)) (by decide +kernel)) (fun _ _ _ _ _ => pg_name (i := 4) sc__law_shows.nd rfl (Or.inl rfl)) (fun _ _ _ _ _ => pts_one (pt_cmp (pc_notN (pe_ix (ix_listS (K := K) rfl) (pv 1) (pv 4) (fun _ _ => rfl))))) (fun _ _ _ _ _ => (pe_tup (pa_cons (pv 4) (pa_cons (pe_ix (ix_listS (K := K) rfl) (pv 1) (pv 4) (fun _ _ => rfl)) pa_nil))))) (nomark _)) (pss_one (ps_ret pe_bl)) pss_nil) (pss_cons (ps_if (PW.pt (pw_or (pt_cmpR (op_neD hr.units) (pe_mtK0 Mnext_pass hr (by decide) (pv 0) (pk_cons (pv 3) pk_nil)) (pe_c G_law_next hr (by decide) (by rfl) (pa_cons (pv 1) (pa_cons (pv 3) pa_nil))) (nomark _)) (pw_or (pt_not (pt_val (pe_c G_law_is_integer hr (by decide) (by rfl) (pa_cons (pe_pr Pdone hr (by decide) (pv 0)) pa_nil)))) (pw_or1 (pt_cmpR op_ne (pe_pr Pdone hr (by decide) (pv 0)) (pv 2) (nomark _)))))) (pss_one (ps_ret pe_bl)) pss_nil) (pss_cons (ps_for PassesOwn.never rfl (pi_range1 (by rfl) T.z_range (pa_cons pe_int pa_nil)) (pg_name (i := 4) sc__law_shows.nd rfl (Or.inl rfl)) (pss_cons (ps_set (i := 5) sc__law_shows.nd rfl (Or.inl rfl) (pe_and (pe_cmp (pc_notN (pe_ix ix_list (pv 1) (pv 4) (fun _ _ => rfl)))) (pe_one (pe_cmpR op_le (pe_op op_add (pe_ix ix_list (pv 1) (pv 4) (fun _ _ => rfl)) (pe_ix ix_tup (ClX.pe_cval (C8.pe_gc (by rfl) T.g_Schedule)) (pv 4) (fun _ _ => rfl))) (pv 3) (nomark _))))) (pss_one (ps_if (PW.pt (pw_or (pt_cmpR op_ne (pe_cmpR (op_in_own vc ic GC (hr.mono (by decide)) bc pass0) (pv 4) (pv 0) rfl) (pe_cmp (pc_notN (pe_ix ix_list (pv 1) (pv 4) (fun _ _ => rfl)))) (nomark _)) (pw_or1 (pt_cmpR op_ne (pe_mtK Mis_overdue hr (by decide) (pv 0) (pa_cons (pv 4) pa_nil) (pk_cons (pv 3) pk_nil)) (pv 5) (nomark _))))) (pss_one (ps_ret pe_bl)) pss_nil)))) (pss_one (ps_ret pe_bl))))), ?_⟩
    -- pending
    refine ⟨_, rfl, p, dx, _, rfl, h1, p, d, L, n, rfl, S, fun r ts H1 s1 nr nts hrt h1r pr => ?_⟩
    refine ⟨4, rfl, by decide, by decide, fun D hD => ?_⟩
    have hw1 := s1 _ _ hw
    refine lc_it (walk_range (lo := 0) (n := 4)) (fun i H' => ∃ us, H' D = some (.lst (us.map V.ref)) ∧ Same H1 H' ∧ us.length ≤ 4 ∧ Paired (fun t (e : Nat × Int) => H' t = some (.tup [lV e.1, .int e.2])) us ((([0, 1, 2, 3].take i).filter fun l => (look L l).isSome).map fun l => (l, (look L l).getD 0))) ⟨[], upd_same, Same.new hD, Nat.zero_le _, .nil⟩ (fun _ _ _ _ => trivial) ?_ ?_
    · rintro i x H2 H3 hi ⟨us, hD2, s2, hu4, pu⟩ ⟨rfl, ex⟩
      have ex : x = lV i := ex.trans (congrArg V.int (Int.zero_add _))
      subst ex
      have hat := wv_atI (L := L) hi
      have et := lanes_take (L := L) hi fun l => (l, (look L l).getD 0)
      refine ⟨rfl, ?_⟩
      refine ⟨_, rfl, _, rfl, wl, _, (i : Int), _, rfl, rfl, SqL.of (s2 _ _ hw1), hat, _, rfl, ?_⟩
      rw [oV_non, Bool.not_not]
      refine ite2 (fun q => ?_) (fun q => ?_)
      · rw [if_pos q] at et
        obtain ⟨t', ht'⟩ : ∃ t', look L i = some t' := by
          cases e : look L i with
          | none => rw [e] at q; cases q
          | some t' => exact ⟨t', rfl⟩
        rw [ht'] at hat
        refine ⟨_, rfl, _, rfl, _, rfl, wl, _, (i : Int), .int t', rfl, rfl, SqL.of (s2 _ _ hw1), hat, ?_⟩
        refine ⟨by show 2 ≤ sizeLine; decide, fun t ht => ?_⟩
        have hDt : D ≠ t := ne_of_none hD2 ht
        refine ⟨us.map V.ref, by rw [upd_ne hDt]; exact hD2, by rw [List.length_map]; exact small1000 (by omega), ?_⟩
        have s3 := s2.trans (Same.new (o := .tup [lV i, .int t']) ht)
        have l4 : us.length < 4 := by
          rw [pairedS_len pu, List.length_map]
          exact Nat.lt_of_le_of_lt (List.length_filter_le _ _) (Nat.lt_of_le_of_lt (List.length_take_le i _) hi)
        refine ⟨us ++ [t], by rw [upd_same, List.map_append]; rfl, Same.put s3 hD, by rw [List.length_append]; show us.length + 1 ≤ 4; omega, ?_⟩
        rw [et]
        refine paired_snocS (G := fun t_1 (e : Nat × Int) => upd (upd H3 t (.tup [lV i, .int t'])) D (.lst (us.map V.ref ++ [.ref t])) t_1 = some (.tup [lV e.1, .int e.2])) ?_ (paired_memS (fun u e _ h => ?_) pu)
        · show upd (upd H3 t (.tup [lV i, .int t'])) D _ t = some (.tup [lV i, .int ((look L i).getD 0)])
          rw [upd_ne hDt.symm, upd_same, ht']
          rfl
        · rw [upd_ne (ne_of h hD2 (by intro e; cases e)), upd_ne (ne_of_none h ht)]
          exact h
      · rw [if_neg q, List.append_nil] at et
        exact ⟨us, hD2, s2, hu4, by rw [et]; exact pu⟩
    rintro H2 ⟨us, hD2, s2, hu4, pu⟩
    have pu : Paired (fun t (e : Nat × Int) => H2 t = some (.tup [lV e.1, .int e.2])) us (pendD L) := pu
    have pr2 : Paired (fun t (e : Nat × Int) => H2 t = some (.tup [lV e.1, .int e.2])) ts (pendD L) := paired_memS (fun u e _ h => s2 _ _ h) pr
    refine ⟨_, _, .lst (SqL.of (s2 _ _ h1r)) (dp_pairs pr2), .lst (SqL.of hD2) (dp_pairs pu), shaped_pairs _, shaped_pairs _, _, rfl, ?_⟩
    rw [eqv_self (shaped_pairs _)]
    refine iteF ?_
    have s12 := s1.trans s2
    clear pu pr2 hD2
    -- next_pass
    have S2 := S.same s12
    obtain ⟨dx2, hp2⟩ := S2.ob
    have hw2 := s12 _ _ hw
    refine ⟨_, rfl, p, dx2, _, rfl, hp2, rfl, _, rfl, rfl, rfl, p, d, L, n, now, rfl, S2, fun he H3 s3 => ?_, fun hne t li H3 s3 nt nli ht hli => ?_⟩
    · refine ⟨_, rfl, _, rfl, wl, L, now, rfl, s3 _ _ hw2, ok, fun _ H4 s4 => ?_, fun hne => absurd he hne⟩
      refine ⟨.none, .none, .non, .non, by decide +kernel, by decide +kernel, _, rfl, ?_⟩
      rw [show PyData.eqv .none .none = true by decide +kernel]
      refine iteF ?_
      have s14 := (s12.trans s3).trans s4
      have S4 := S.same s14
      obtain ⟨dx4, hp4⟩ := S4.ob
      have hw4 := s14 _ _ hw
      refine ⟨_, rfl, p, dx4, _, rfl, hp4, p, d, L, n, rfl, S4, n, rfl, _, rfl, ?_⟩
      refine iteF ?_
      refine ⟨_, rfl, p, dx4, _, rfl, hp4, p, d, L, n, rfl, S4, _, rfl, rfl, _, rfl, ?_⟩
      refine iteNS rfl ?_
      refine ⟨4, rfl, by decide, by decide, ?_⟩
      refine for_range (lo := 0) (n := 4) (fun i' σ H' => H' = H4 ∧ ∃ la lt, σ = [some (.ref p), some (.ref wl), some (.int n), some (.int now), la, lt]) ⟨rfl, none, none, rfl⟩ ?_ ?_
      · rintro l σ H5 hl ⟨rfl, la, lt, rfl⟩
        have e0 : (0 : Int) + (l : Int) = (l : Int) := Int.zero_add _
        rw [e0]
        have hat := wv_atI (L := L) hl
        refine ⟨_, rfl, _, rfl, wl, _, (l : Int), _, rfl, rfl, SqL.of hw4, hat, ?_⟩
        cases e : look L l with
        | none =>
          rw [e] at hat
          refine ⟨false, rfl, ?_⟩
          refine iteF ?_
          refine ⟨_, rfl, _, rfl, p, dx4, _, rfl, hp4, ⟨p, d, L, n, l, rfl, S4, _, rfl, ?_⟩⟩
          refine ⟨_, rfl, _, rfl, wl, _, (l : Int), _, rfl, rfl, SqL.of hw4, hat, rfl, _, rfl, ?_⟩
          rw [e]
          refine iteF ?_
          refine ⟨_, rfl, p, dx4, _, rfl, hp4, rfl, _, rfl, _, rfl, rfl, rfl, p, d, L, n, l, now, rfl, S4, hl, _, rfl, rfl, _, rfl, ?_⟩
          have eo : overD L now l = false := by unfold overD; rw [e]
          rw [eo]
          refine iteF ?_
          exact ⟨rfl, _, _, rfl⟩
        | some t' =>
          rw [e] at hat
          refine ⟨true, rfl, ?_⟩
          refine iteT ?_
          refine ⟨_, rfl, _, rfl, wl, _, (l : Int), .int t', rfl, rfl, SqL.of hw4, hat, _, _, _, _, rfl, T.rd_Schedule, cv, _, rfl, na, _, (l : Int), .int (pat l), rfl, rfl, hq _, at_pat hl, _, _, rfl, rfl, _, rfl, _, _, rfl, rfl, ?_⟩
          have eo : overD L now l = decide (t' + pat l ≤ now) := by unfold overD; rw [e]
          refine ⟨_, rfl, _, rfl, p, dx4, _, rfl, hp4, ⟨p, d, L, n, l, rfl, S4, _, rfl, ?_⟩⟩
          refine ⟨_, rfl, _, rfl, wl, _, (l : Int), _, rfl, rfl, SqL.of hw4, hat, rfl, _, rfl, ?_⟩
          rw [e]
          refine iteF ?_
          refine ⟨_, rfl, p, dx4, _, rfl, hp4, rfl, _, rfl, _, rfl, rfl, rfl, p, d, L, n, l, now, rfl, S4, hl, _, rfl, rfl, _, rfl, ?_⟩
          refine iteNS (by rw [eo]) ?_
          exact ⟨rfl, _, _, rfl⟩
      · rintro σ H5 ⟨rfl, la, lt, rfl⟩
        exact k _ s14
    · refine ⟨_, rfl, _, rfl, wl, L, now, rfl, s3 _ _ hw2, ok, fun he => absurd he hne, fun _ t2 li2 H4 s4 nt2 nli2 ht2 hli2 => ?_⟩
      refine ⟨.tuple [.list (dInts (passD L now)), .bool (wholeD L now)], .tuple [.list (dInts (passD L now)), .bool (wholeD L now)],
        .tup (SqT.of (s4 _ _ ht)) (.cons (.lst (SqL.of (s4 _ _ hli)) (dp_ints _)) (.cons (.bl _) .nil)),
        .tup (SqT.of ht2) (.cons (.lst (SqL.of hli2) (dp_ints _)) (.cons (.bl _) .nil)), sh_pass _ _, sh_pass _ _, _, rfl, ?_⟩
      rw [eqv_self (sh_pass _ _)]
      refine iteF ?_
      have s14 := (s12.trans s3).trans s4
      have S4 := S.same s14
      obtain ⟨dx4, hp4⟩ := S4.ob
      have hw4 := s14 _ _ hw
      refine ⟨_, rfl, p, dx4, _, rfl, hp4, p, d, L, n, rfl, S4, n, rfl, _, rfl, ?_⟩
      refine iteF ?_
      refine ⟨_, rfl, p, dx4, _, rfl, hp4, p, d, L, n, rfl, S4, _, rfl, rfl, _, rfl, ?_⟩
      refine iteNS rfl ?_
      refine ⟨4, rfl, by decide, by decide, ?_⟩
      refine for_range (lo := 0) (n := 4) (fun i' σ H' => H' = H4 ∧ ∃ la lt, σ = [some (.ref p), some (.ref wl), some (.int n), some (.int now), la, lt]) ⟨rfl, none, none, rfl⟩ ?_ ?_
      · rintro l σ H5 hl ⟨rfl, la, lt, rfl⟩
        have e0 : (0 : Int) + (l : Int) = (l : Int) := Int.zero_add _
        rw [e0]
        have hat := wv_atI (L := L) hl
        refine ⟨_, rfl, _, rfl, wl, _, (l : Int), _, rfl, rfl, SqL.of hw4, hat, ?_⟩
        cases e : look L l with
        | none =>
          rw [e] at hat
          refine ⟨false, rfl, ?_⟩
          refine iteF ?_
          refine ⟨_, rfl, _, rfl, p, dx4, _, rfl, hp4, ⟨p, d, L, n, l, rfl, S4, _, rfl, ?_⟩⟩
          refine ⟨_, rfl, _, rfl, wl, _, (l : Int), _, rfl, rfl, SqL.of hw4, hat, rfl, _, rfl, ?_⟩
          rw [e]
          refine iteF ?_
          refine ⟨_, rfl, p, dx4, _, rfl, hp4, rfl, _, rfl, _, rfl, rfl, rfl, p, d, L, n, l, now, rfl, S4, hl, _, rfl, rfl, _, rfl, ?_⟩
          have eo : overD L now l = false := by unfold overD; rw [e]
          rw [eo]
          refine iteF ?_
          exact ⟨rfl, _, _, rfl⟩
        | some t' =>
          rw [e] at hat
          refine ⟨true, rfl, ?_⟩
          refine iteT ?_
          refine ⟨_, rfl, _, rfl, wl, _, (l : Int), .int t', rfl, rfl, SqL.of hw4, hat, _, _, _, _, rfl, T.rd_Schedule, cv, _, rfl, na, _, (l : Int), .int (pat l), rfl, rfl, hq _, at_pat hl, _, _, rfl, rfl, _, rfl, _, _, rfl, rfl, ?_⟩
          have eo : overD L now l = decide (t' + pat l ≤ now) := by unfold overD; rw [e]
          refine ⟨_, rfl, _, rfl, p, dx4, _, rfl, hp4, ⟨p, d, L, n, l, rfl, S4, _, rfl, ?_⟩⟩
          refine ⟨_, rfl, _, rfl, wl, _, (l : Int), _, rfl, rfl, SqL.of hw4, hat, rfl, _, rfl, ?_⟩
          rw [e]
          refine iteF ?_
          refine ⟨_, rfl, p, dx4, _, rfl, hp4, rfl, _, rfl, _, rfl, rfl, rfl, p, d, L, n, l, now, rfl, S4, hl, _, rfl, rfl, _, rfl, ?_⟩
          refine iteNS (by rw [eo]) ?_
          exact ⟨rfl, _, _, rfl⟩
      · rintro σ H5 ⟨rfl, la, lt, rfl⟩
        exact k _ s14
end
end VL

set_option Elab.async false
set_option linter.all false
set_option maxRecDepth 100000
set_option maxHeartbeats 4000000
set_option pp.maxSteps 300
namespace VL
open PySem PySem.Spec PyProof.Rows L2

structure Jw (C : Addr) (H0 H : Hp) (p d q wl : Addr) (L : Sd) (n : Int) : Prop where
  same : Same H0 H
  np : H0 p = none
  nd : H0 d = none
  nq : H0 q = none
  nw : H0 wl = none
  S : SchA C H p d L n
  Sq : StA H q
  wv : H wl = some (.lst (wvD L))
  qw : q ≠ wl
  z : L = [] → n = 0
theorem Jw.ob {C p d q wl : Addr} {H0 H : Hp} {L : Sd} {n : Int} (J : Jw C H0 H p d q wl L n) : ∃ dx, H p = some (.ins C dx (fsD d n)) := J.S.ob
theorem Jw.mono {C p d q wl : Addr} {H0 H H' : Hp} {L : Sd} {n : Int} (J : Jw C H0 H p d q wl L n) (s : Same H H') : Jw C H0 H' p d q wl L n :=
  ⟨J.same.trans s, J.np, J.nd, J.nq, J.nw, J.S.same s, J.Sq.same s, s _ _ J.wv, J.qw, J.z⟩
theorem Jw.kp {C p d q wl : Addr} {H0 H H' : Hp} {L : Sd} {n : Int} (J : Jw C H0 H p d q wl L n) (k : Kp q H H') (Sq : StA H' q) : Jw C H0 H' p d q wl L n := by
  obtain ⟨s0, np, nd, nq, nw, ⟨⟨dx, h1⟩, hd, ok⟩, ⟨z, hz, _⟩, wv, qw, zz⟩ := J
  have h2 : p ≠ q := ne_of h1 hz (by intro e; cases e)
  have h3 : d ≠ q := ne_of hd hz (by intro e; cases e)
  exact ⟨k.same s0 nq, np, nd, nq, nw, ⟨⟨dx, k _ _ h1 h2⟩, k _ _ hd h3, ok⟩, Sq, k _ _ wv qw.symm, qw, zz⟩
/-- the schedule and what waits have changed -/
theorem Jw.step {C p d d' q wl : Addr} {H0 H H1 : Hp} {L L' : Sd} {n n' : Int} {xs : List V} (J : Jw C H0 H p d q wl L n) (k : K2 p d H H1) (S' : SchA C H1 p d' L' n') (hd' : d' = d ∨ H d' = none) (ex : xs = wvD L') (z : L' = [] → n' = 0) :
    Jw C H0 (upd H1 wl (.lst xs)) p d' q wl L' n' := by
  obtain ⟨s0, np, nd, nq, nw, S, ⟨zz, hz, b⟩, wv, qw, _⟩ := J
  have hw1 := k.lst S wv
  obtain ⟨⟨dx, h1⟩, hd, ok⟩ := S'
  have hpw : p ≠ wl := ne_of h1 hw1 (by intro e; cases e)
  have hdw : d' ≠ wl := ne_of hd hw1 (by intro e; cases e)
  refine ⟨fun c o e => by rw [upd_ne (ne_of_none e nw)]; exact k _ _ (s0 _ _ e) (ne_of_none e np) (ne_of_none e nd), np, ?_, nq, nw, ⟨⟨dx, by rw [upd_ne hpw]; exact h1⟩, by rw [upd_ne hdw]; exact hd, ok⟩, ⟨zz, by rw [upd_ne qw]; exact k.lst S hz, b⟩, by rw [upd_same, ex], qw, z⟩
  rcases hd' with rfl | h
  · exact nd
  · exact s0.free h
theorem upd_id {H : Hp} {a : Addr} {o : HO} (h : H a = some o) : upd H a o = H := by
  funext b
  by_cases e : b = a
  · subst e
    rw [upd_same, h]
  · rw [upd_ne e]
theorem Jw.step0 {C p d d' q wl : Addr} {H0 H H1 : Hp} {L L' : Sd} {n n' : Int} (J : Jw C H0 H p d q wl L n) (k : K2 p d H H1) (S' : SchA C H1 p d' L' n') (hd' : d' = d ∨ H d' = none) (ex : wvD L = wvD L') (z : L' = [] → n' = 0) :
    Jw C H0 H1 p d' q wl L' n' := by
  have h := J.step k S' hd' rfl z
  rwa [upd_id (by rw [← ex]; exact k.lst J.S J.wv)] at h
/-- what comes next, told -/
def UpD (H : Hp) (q wl : Addr) (L : Sd) (now : Int) (x : V) : Prop := (x = .non ∧ lanesD L = []) ∨ ∃ t li, x = .ref t ∧ lanesD L ≠ [] ∧ H t = some (.tup [.ref li, .bl (wholeD L now)]) ∧ H li = some (.lst ((passD L now).map lV)) ∧ li ≠ q ∧ li ≠ wl
theorem UpD.kp {H H' : Hp} {q wl : Addr} {L : Sd} {now : Int} {x : V} (U : UpD H q wl L now x) (Sq : StA H q) (k : Kp q H H') : UpD H' q wl L now x := by
  rcases U with U | ⟨t, li, e1, e2, h1, h2, n1, n2⟩
  · exact .inl U
  · obtain ⟨z, hz, _⟩ := Sq
    exact .inr ⟨t, li, e1, e2, k _ _ h1 (ne_of h1 hz (by intro e; cases e)), k _ _ h2 n1, n1, n2⟩
def Up2 (H : Hp) (q wl D : Addr) (L : Sd) (now : Int) (x : V) : Prop := (x = .non ∧ lanesD L = []) ∨ ∃ t li, x = .ref t ∧ lanesD L ≠ [] ∧ H t = some (.tup [.ref li, .bl (wholeD L now)]) ∧ H li = some (.lst ((passD L now).map lV)) ∧ li ≠ q ∧ li ≠ wl ∧ li ≠ D
theorem Up2.kp {H H' : Hp} {q wl D : Addr} {L : Sd} {now : Int} {x : V} (U : Up2 H q wl D L now x) (Sq : StA H q) (k : Kp q H H') : Up2 H' q wl D L now x := by
  rcases U with U | ⟨t, li, e1, e2, h1, h2, n1, n2⟩
  · exact .inl U
  · obtain ⟨z, hz, _⟩ := Sq
    exact .inr ⟨t, li, e1, e2, k _ _ h1 (ne_of h1 hz (by intro e; cases e)), k _ _ h2 n1, n1, n2⟩
def spLStep (C : Addr) : Sp := fun vs H Q _ => ∃ (p d q wl : Addr) (L : Sd) (n now : Int) (H0 : Hp), vs = [.ref p, .ref wl, .int n, .int now, .ref q] ∧ Jw C H0 H p d q wl L n ∧ 0 ≤ n ∧ ∀ d' L' n' H', Jw C H0 H' p d' q wl L' n' → 0 ≤ n' → Q (.int n') H'
section
variable {P : Program} {w : World} {K : PySem.W.Frag} {mg : Str → Option Value} {base : Heap} {C : Ad}
theorem sc__law_step : FnScope ["schedule", "since", "done", "now", "state", "kind", "upcoming", "lane", "cost", "lanes", "other"] ["schedule", "since", "done", "now", "state"] (defScope s__law_step) := ⟨rfl, rfl, rfl, by decide +kernel, rfl, by decide +kernel, by decide +kernel⟩
theorem ok_lstep (T : Txt K w mg C) : Cal P w K mg base 3 "_law_step" (spLStep C.Schedule) := by
  have G_law_next : Cal P w K mg base 1 "_law_next" spLNext := ok_lnext T
  have G_law_digit : Cal P w K mg base 1 "_law_digit" spDigit := ok_digit T
  have Mwake : MetK P w K mg base 1 C.Schedule "wake" (spSWake C.Schedule) 2 ["now"] catG := ok_swake T
  have Mportion : Met P w K mg base 1 C.Schedule "portion" (spSPortion C.Schedule) := ok_sportion T
  have Mend : Met P w K mg base 1 C.Schedule "end" (spSEnd C.Schedule K) := ok_send T
  have Mgive_up := ok_sgive (P := P) (base := base) T
  have Mclear := ok_sclear (P := P) (base := base) T
  refine cal_of T.d__law_step sc__law_step (fun vs H Q E h => ?_) (fun f cdv A outer s H vs Q E hr h => ?_)
  · obtain ⟨p, d, q, wl, L, n, now, H0, rfl, _⟩ := h
    rfl
  · obtain ⟨p, d, q, wl, L, n, now, H0, rfl, J, hn, k⟩ := h
    have ok := J.S.ok
    refine ⟨_, (pss_cons (ps_set (i := 5) sc__law_step.nd rfl (Or.inl rfl) (pe_c G_law_digit hr (by decide) (by rfl) (pa_cons (pv 4) (pa_cons pe_int pa_nil)))) (C8.pss_cut (ps_set (i := 6) sc__law_step.nd rfl (Or.inl rfl) (pe_c G_law_next hr (by decide) (by rfl) (pa_cons (pv 1) (pa_cons (pv 3) pa_nil)))) (pss_cons (ps_if (pt_cmpR op_lt (pv 5) pe_int (nomark _)) (pss_cons (ps_set (i := 7) sc__law_step.nd rfl (Or.inl rfl) (pe_c G_law_digit hr (by decide) (by rfl) (pa_cons (pv 4) (pa_cons pe_int pa_nil)))) (pss_cons (ps_expr (pe_mtK Mwake hr (by decide) (pv 0) (pa_cons (pv 7) pa_nil) (pk_cons (pv 3) pk_nil))) (C8.pss_cut (ps_if (PW.pt (pw_and (pt_cmp (pc_notN (pv 6))) (pw_and1 (pt_cmpR op_le (pv 7) (pe_callB (cr_min rfl) (by rfl) T.z_min (by decide +kernel) (pa_cons (pe_lc (own := [("other", 10)]) (g := gName 10) (tt := _) rfl sc__law_step.nd (pi_range1 (by rfl) T.z_range (pa_cons pe_int pa_nil)) (blkOk_by (N := ["schedule", "since", "done", "now", "state", "kind", "upcoming", "lane", "cost", "lanes", "other"]) (sc := (defScope s__law_step)) (by decide +kernel)) (fun _ _ _ _ _ => pg_name (i := 10) sc__law_step.nd rfl (Or.inl rfl)) (fun _ _ _ _ _ => pts_one (pt_cmp (pc_notN (pe_ix (ix_listS (K := K) rfl) (pv 1) (pv 10) (fun _ _ => rfl))))) (fun _ _ _ _ _ => (pv 10))) pa_nil)) (nomark _))))) (pss_one (ps_set (i := 2) sc__law_step.nd rfl (Or.inl rfl) pe_int)) pss_nil) (pss_cons (ps_if (pt_cmp (pc_isN (pe_ix ix_list (pv 1) (pv 7) (fun _ _ => rfl)))) (pss_one (ps_asg (pv 3) (pg_sub (pv 1) (pv 7) set_list))) pss_nil) (pss_one (ps_ret (pv 2))))))) pss_nil) (pss_cons (ps_if (pt_cmpR op_lt (pv 5) pe_int (nomark _)) (pss_cons (ps_set (i := 8) sc__law_step.nd rfl (Or.inl rfl) (pe_op op_add pe_int (pe_c G_law_digit hr (by decide) (by rfl) (pa_cons (pv 4) (pa_cons pe_int pa_nil))))) (pss_cons (ps_if (pt_cmpR op_ne (pe_mt Mportion hr (by decide) (pv 0) (pa_cons (pv 8) pa_nil)) (pe_and (pe_cmp (pc_notN (pv 6))) (pe_one (pe_cmpR op_ge (pe_op op_add (pv 2) pe_int) (pv 8) (nomark _)))) (nomark _)) (pss_one (ps_ret (pe_un un_neg pe_int))) pss_nil) (pss_one (ps_ret (pe_op op_add (pv 2) (pe_callTy call_int1 (by rfl) T.z_int (by decide +kernel) (pa_cons (pe_cmp (pc_notN (pv 6))) pa_nil))))))) pss_nil) (pss_cons (ps_if (pt_cmpR op_eq (pv 5) pe_int (nomark _)) (pss_cons (ps_expr (pe_mt0 Mgive_up hr (by decide) (pv 0))) (pss_one (ps_ret pe_int))) pss_nil) (C8.pss_cut (ps_if (PW.pt (pw_and (pt_cmpR op_eq (pv 5) pe_int (nomark _)) (pw_and1 (pt_cmpR op_eq (pe_c G_law_digit hr (by decide) (by rfl) (pa_cons (pv 4) (pa_cons pe_int pa_nil))) pe_int (nomark _))))) (pss_cons (ps_expr (pe_mt0 Mclear hr (by decide) (pv 0))) (pss_cons (ps_for PassesOwn.never rfl (pi_range1 (by rfl) T.z_range (pa_cons pe_int pa_nil)) (pg_name (i := 7) sc__law_step.nd rfl (Or.inl rfl)) (pss_one (ps_asg pe_non (pg_sub (pv 1) (pv 7) set_list)))) (pss_one (ps_ret pe_int)))) pss_nil) (pss_cons (ps_setLc (i := 9) (own := [("lane", 7)]) (g := gName 7) (tt := _) rfl sc__law_step.nd rfl rfl (sw_true rfl rfl rfl (by decide +kernel)) (pi_range1 (by rfl) T.z_range (pa_cons pe_int pa_nil)) (blkOk_by (N := ["schedule", "since", "done", "now", "state", "kind", "upcoming", "lane", "cost", "lanes", "other"]) (sc := (defScope s__law_step)) (by decide +kernel)) (fun _ _ _ _ _ => pg_name (i := 7) sc__law_step.nd rfl (Or.inl rfl)) (fun _ _ _ _ _ => pts_one (pt_cmpR op_eq (pe_c G_law_digit hr (by decide) (by rfl) (pa_cons (pv 4) (pa_cons pe_int pa_nil))) pe_int (nomark _))) (fun _ _ _ _ _ => (pv 7))) (C8.pss_cut (ps_if (PW.pt (pw_and (pt_cmp (pc_notN (pv 6))) (pw_and1 (pt_cmpR op_gt (pe_c G_law_digit hr (by decide) (by rfl) (pa_cons (pv 4) (pa_cons pe_int pa_nil))) pe_int (nomark _))))) (pss_one (ps_set (i := 9) sc__law_step.nd rfl (Or.inl rfl) (pe_ix ix_tup (pv 6) pe_int (fun _ _ => rfl)))) pss_nil) (pss_cons (ps_expr (pe_mt Mend hr (by decide) (pv 0) (pa_cons (pe_callTy call_list_of (by rfl) T.z_list (by decide +kernel) (pa_cons (pv 9) pa_nil)) pa_nil))) (pss_cons (ps_for PassesOwn.never rfl (pi_list (pv 9)) (pg_name (i := 7) sc__law_step.nd rfl (Or.inl rfl)) (pss_one (ps_asg pe_non (pg_sub (pv 1) (pv 7) set_list)))) (pss_one (ps_ret pe_int)))))))))))), ?_⟩
    refine ⟨_, rfl, q, 12, rfl, J.Sq, by decide, fun kind H1 S1 k1 _ _ => ?_⟩
    have J1 := J.kp k1 S1
    refine ⟨fun σ H' => Jw C.Schedule H0 H' p d q wl L n ∧ ∃ x, σ = [some (.ref p), some (.ref wl), some (.int n), some (.int now), some (.ref q), some (.int kind), some x, none, none, none, none] ∧ UpD H' q wl L now x, ?_, ?_⟩
    · refine ⟨_, rfl, _, rfl, wl, L, now, rfl, J1.wv, ok, fun he H2 s2 => ?_, fun hne t li H2 s2 nt nli ht hli => ?_⟩
      · exact ⟨J1.mono s2, .non, rfl, .inl ⟨rfl, he⟩⟩
      · refine ⟨J1.mono s2, .ref t, rfl, .inr ⟨t, li, rfl, hne, ht, hli, ?_, (ne_of_none J1.wv nli).symm⟩⟩
        obtain ⟨z, e, _⟩ := J1.Sq
        exact (ne_of_none e nli).symm
    rintro σ H2 ⟨J2, x, rfl, U2⟩
    have ex : decide (x = V.non) = (lanesD L).isEmpty := by
      rcases U2 with ⟨rfl, e⟩ | ⟨t, li, rfl, e, _⟩
      · rw [e]; rfl
      · cases q : lanesD L with
        | nil => exact absurd q e
        | cons a r => exact decide_eq_false (by intro e; cases e)
    refine ⟨_, rfl, _, _, rfl, rfl, _, rfl, ?_⟩
    refine ite2 (fun _ => ?_) (fun _ => ?_)
    · -- a lane is woken
      refine ⟨_, rfl, q, 4, rfl, J2.Sq, by decide, fun r3 H3 S3 k3 f2 f3 => ?_⟩
      obtain ⟨l, hl, rfl⟩ : ∃ l : Nat, l < 4 ∧ r3 = (l : Int) := ⟨r3.toNat, by omega, by omega⟩
      have J3 := J2.kp k3 S3
      obtain ⟨dx3, hp3⟩ := J3.ob
      refine ⟨_, rfl, p, dx3, _, rfl, hp3, rfl, _, rfl, _, rfl, rfl, rfl, p, d, L, n, l, now, rfl, J3.S, hl, fun v H4 S4 k4 => ?_⟩
      have hw4 := k4.lst J3.S J3.wv
      refine ⟨fun σ H' => Same H4 H' ∧ ∃ ot, σ = [some (.ref p), some (.ref wl), some (.int (wakeN L l n)), some (.int now), some (.ref q), some (.int kind), some x, some (.int (l : Int)), none, none, ot], ?_, ?_⟩
      · refine ⟨_, rfl, _, rfl, ?_⟩
        rw [ex]
        cases e : lanesD L with
        | nil =>
          refine iteF ?_
          refine iteF ?_
          have hL := (lanes_nil ok).mp e
          refine ⟨Same.refl _, none, ?_⟩
          have : wakeN L l n = n := by rw [hL, J.z hL]; rfl
          rw [this]
          rfl
        | cons m r =>
          refine iteT ?_
          refine ⟨_, rfl, 4, rfl, by decide, by decide, fun D hD => ?_⟩
          have hwD : wl ≠ D := ne_of_none hw4 hD
          refine lc_it (walk_range (lo := 0) (n := 4)) (fun i H' => H' = upd H4 D (.lst ((([0, 1, 2, 3].take i).filter fun l => (look L l).isSome).map lV))) rfl (fun _ _ _ _ => trivial) ?_ ?_
          · rintro i y H5 H6 hi rfl ⟨rfl, ey⟩
            have ey : y = lV i := ey.trans (congrArg V.int (Int.zero_add _))
            subst ey
            have hat := wv_atI (L := L) hi
            have et := lanes_take (L := L) hi lV
            refine ⟨rfl, ?_⟩
            refine ⟨_, rfl, _, rfl, wl, _, (i : Int), _, rfl, rfl, SqL.of (by rw [upd_ne hwD]; exact hw4), hat, _, rfl, ?_⟩
            rw [oV_non, Bool.not_not]
            refine ite2 (fun q => ?_) (fun q => ?_)
            · rw [if_pos q] at et
              refine ⟨_, rfl, _, upd_same, ?_, ?_⟩
              · rw [List.length_map]
                have h1 := List.length_filter_le (fun l => (look L l).isSome) ([0, 1, 2, 3].take i)
                have h2 := List.length_take_le i [0, 1, 2, 3]
                exact small1000 (by omega)
              · rw [upd_upd, et]
            · rw [if_neg q, List.append_nil] at et
              rw [et]
          · rintro H5 rfl
            rw [show ([0, 1, 2, 3].take 4).filter (fun l => (look L l).isSome) = lanesD L from rfl]
            have ebl : (lanesD L).map lV = ((lanesD L).map fun (k : Nat) => (k : Int)).map V.int := by rw [List.map_map]; rfl
            refine ⟨D, (lanesD L).map fun (k : Nat) => (k : Int), rfl, SqL.of (by rw [upd_same, ebl]), by rw [List.length_map, e]; exact Nat.succ_pos _, fun mn hmn hall => ?_⟩
            have emn : mn = (m : Int) := by
              obtain ⟨k, hk, rfl⟩ := List.mem_map.mp hmn
              have h1 := hall (m : Int) (List.mem_map.mpr ⟨m, by rw [e]; exact List.mem_cons_self, rfl⟩)
              have hs := lanes_sorted L
              rw [e] at hk hs
              rw [List.pairwise_cons] at hs
              rcases List.mem_cons.mp hk with z | z
              · omega
              · have := hs.1 _ z; omega
            subst emn
            have en := wakeN_min ok e l n
            refine ⟨_, _, rfl, rfl, _, rfl, ?_⟩
            refine ite2 (fun q => ?_) (fun q => ?_)
            · have q' : l ≤ m := by have := of_decide_eq_true q; omega
              rw [if_pos q'] at en
              exact ⟨Same.new hD, none, by rw [en]; rfl⟩
            · have q' : ¬ l ≤ m := fun z => q (decide_eq_true (by omega))
              rw [if_neg q'] at en
              exact ⟨Same.new hD, none, by rw [en]; rfl⟩
      rintro σ H5 ⟨s5, ot, rfl⟩
      have hat := wv_atI (L := L) hl
      have hn' : 0 ≤ wakeN L l n := by
        unfold wakeN
        split
        · exact Int.le_refl _
        · exact hn
      have hz : wakeD L l now = [] → wakeN L l n = 0 := fun e => by
        exfalso
        unfold wakeD at e
        split at e
        · rename_i hs
          rw [e] at hs
          cases hs
        · simp at e
      refine ⟨_, rfl, _, rfl, wl, _, (l : Int), _, rfl, rfl, SqL.of (s5 _ _ hw4), hat, ?_⟩
      cases e : look L l with
      | none =>
        refine ⟨true, rfl, ?_⟩
        refine iteT ?_
        have ew : (wvD L).set l (oV (some now)) = wvD (wakeD L l now) := wv_set hl fun k => by
          rw [look_wake]
          by_cases q : k = l
          · subst q
            rw [if_pos rfl, if_pos rfl, e]
            rfl
          · rw [if_neg q, if_neg q]
        refine ⟨_, rfl, _, rfl, _, rfl, wl, _, _, l, rfl, rfl, s5 _ _ hw4, ixN_nat hl, ?_⟩
        have k5 : K2 p d H3 H5 := fun b o e n1 n2 => s5 _ _ (k4 _ _ e n1 n2)
        exact ⟨_, rfl, k d _ _ _ (J3.step k5 (S4.same s5) (.inl rfl) ew hz) hn'⟩
      | some t' =>
        refine ⟨false, rfl, ?_⟩
        refine iteF ?_
        have ew : wakeD L l now = L := by
          unfold wakeD
          rw [e]
          rfl
        have k5 : K2 p d H3 H5 := fun b o e n1 n2 => s5 _ _ (k4 _ _ e n1 n2)
        exact ⟨_, rfl, k d _ _ _ (J3.step0 k5 (S4.same s5) (.inl rfl) (by rw [ew]) hz) hn'⟩
    refine ⟨_, rfl, _, _, rfl, rfl, _, rfl, ?_⟩
    refine ite2 (fun _ => ?_) (fun _ => ?_)
    · -- a portion
      refine ⟨_, rfl, q, 6, rfl, J2.Sq, by decide, fun r3 H3 S3 k3 f2 f3 => ?_⟩
      have J3 := J2.kp k3 S3
      refine ⟨_, _, rfl, rfl, ?_⟩
      obtain ⟨dx3, hp3⟩ := J3.ob
      refine ⟨_, rfl, p, dx3, _, rfl, hp3, rfl, _, rfl, p, d, L, n, _, rfl, J3.S, fun H4 S4 k4 => ?_⟩
      refine ⟨_, rfl, _, rfl, ?_⟩
      rw [ex]
      cases e : lanesD L with
      | nil =>
        have hL := (lanes_nil ok).mp e
        have h0 := J.z hL
        rw [if_pos hL] at S4 ⊢
        refine iteF ?_
        refine ⟨rfl, _, rfl, ?_⟩
        refine iteNS ?_ ?_
        · rw [decide_eq_false (show ¬ 1 + r3 ≤ n by omega)]
        refine ⟨_, rfl, _, rfl, .inr ⟨_, rfl, _, _, rfl, rfl, ?_⟩⟩
        have e2 : V.int (n + if (!decide (x = V.non)) = true then 1 else 0) = V.int n := by
          rw [ex, e]
          simp
        show Q (V.int (n + if (!decide (x = V.non)) = true then 1 else 0)) H4
        rw [e2]
        exact k d L n H4 (J3.step0 k4 S4 (.inl rfl) rfl J.z) hn
      | cons m r =>
        have hL : L ≠ [] := fun z => by rw [z] at e; cases e
        rw [if_neg hL] at S4 ⊢
        refine iteT ?_
        refine ⟨_, rfl, _, _, rfl, rfl, _, rfl, _, _, rfl, rfl, rfl, _, rfl, ?_⟩
        refine iteNS rfl ?_
        refine ⟨_, rfl, _, rfl, .inr ⟨_, rfl, _, _, rfl, rfl, ?_⟩⟩
        have e2 : V.int (n + if (!decide (x = V.non)) = true then 1 else 0) = V.int (n + 1) := by
          rw [ex, e]
          simp
        show Q (V.int (n + if (!decide (x = V.non)) = true then 1 else 0)) H4
        rw [e2]
        exact k d L (n + 1) H4 (J3.step0 k4 S4 (.inl rfl) rfl fun z => absurd z hL) (by omega)
    refine ⟨_, rfl, rfl, _, rfl, ?_⟩
    refine ite2 (fun _ => ?_) (fun _ => ?_)
    · -- given up
      obtain ⟨dx2, hp2⟩ := J2.ob
      refine ⟨_, rfl, p, dx2, _, rfl, hp2, rfl, p, d, L, n, rfl, J2.S, fun H3 S3 k3 => ?_⟩
      exact k d L 0 H3 (J2.step0 k3 S3 (.inl rfl) rfl fun _ => rfl) (Int.le_refl _)
    refine ⟨fun σ H' => Jw C.Schedule H0 H' p d q wl L n ∧ σ = [some (.ref p), some (.ref wl), some (.int n), some (.int now), some (.ref q), some (.int kind), some x, none, none, none, none] ∧ UpD H' q wl L now x, ?_, ?_⟩
    · refine ⟨_, rfl, rfl, _, rfl, ?_⟩
      refine ite2 (fun _ => ?_) (fun _ => ?_)
      · refine ⟨_, rfl, q, 3, rfl, J2.Sq, by decide, fun r3 H3 S3 k3 f2 f3 => ?_⟩
        have J3 := J2.kp k3 S3
        refine ⟨rfl, _, rfl, ?_⟩
        refine ite2 (fun _ => ?_) (fun _ => ?_)
        · obtain ⟨dx3, hp3⟩ := J3.ob
          refine ⟨_, rfl, p, dx3, _, rfl, hp3, rfl, p, d, L, n, rfl, J3.S, fun d' H4 S4 k4 nd' => ?_⟩
          have hw4 := k4.lst J3.S J3.wv
          refine ⟨4, rfl, by decide, by decide, ?_⟩
          refine for_range (lo := 0) (n := 4) (fun i σ H' => ∃ xs, H' = upd H4 wl (.lst xs) ∧ xs.length = 4 ∧ (∀ j, j < i → xs[j]? = some V.non) ∧ ∃ la, σ = [some (.ref p), some (.ref wl), some (.int n), some (.int now), some (.ref q), some (.int kind), some x, la, none, none, none]) ⟨wvD L, (upd_id hw4).symm, rfl, fun j hj => absurd hj (Nat.not_lt_zero _), none, rfl⟩ ?_ ?_
          · rintro i σ H5 hi ⟨xs, rfl, hx4, hxs, la, rfl⟩
            have e0 : (0 : Int) + (i : Int) = (i : Int) := Int.zero_add _
            rw [e0]
            refine ⟨_, rfl, _, rfl, wl, _, _, i, rfl, rfl, upd_same, ixN_nat (by omega), ?_⟩
            refine ⟨xs.set i V.non, upd_upd, by rw [List.length_set]; exact hx4, fun j hj => ?_, _, rfl⟩
            by_cases e : j = i
            · subst e
              rw [List.getElem?_set_self (by omega)]
            · rw [List.getElem?_set_ne (Ne.symm e)]
              exact hxs j (by omega)
          · rintro σ H5 ⟨xs, rfl, hx4, hxs, la, rfl⟩
            have exs : xs = wvD [] := by
              refine List.ext_getElem? fun j => ?_
              by_cases hj : j < 4
              · rw [hxs j hj, wv_at hj]
                rfl
              · rw [List.getElem?_eq_none (by omega), List.getElem?_eq_none (by show 4 ≤ j; omega)]
            exact k d' [] 0 _ (J3.step k4 S4 (.inr nd') exs fun _ => rfl) (Int.le_refl _)
        · exact ⟨J3, rfl, U2.kp J2.Sq k3⟩
      · refine iteF ?_
        exact ⟨J2, rfl, U2⟩
    rintro σ H3 ⟨J3, rfl, U3⟩
    -- lanes at random, or those of the next pass
    refine ⟨4, rfl, by decide, by decide, fun D hD => ?_⟩
    have hDw : D ≠ wl := (ne_of_none J3.wv hD).symm
    have hDq : D ≠ q := by
      obtain ⟨z, e, _⟩ := J3.Sq
      exact (ne_of_none e hD).symm
    have nD : H0 D = none := J3.same.free hD
    refine lc_it (walk_range (lo := 0) (n := 4)) (fun i H' => ∃ Ps : List Nat, H' D = some (.lst (Ps.map lV)) ∧ (∀ l ∈ Ps, l < 4) ∧ Ps.length ≤ i ∧ Jw C.Schedule H0 H' p d q wl L n ∧ Up2 H' q wl D L now x) ⟨[], upd_same, fun l h => (by cases h), Nat.le_refl _, J3.mono (Same.new hD), ?_⟩ (fun _ _ _ _ => trivial) ?_ ?_
    · rcases U3 with U | ⟨t, li, e1, e2, h1, h2, n1, n2⟩
      · exact .inl U
      · exact .inr ⟨t, li, e1, e2, by rw [upd_ne (ne_of_none h1 hD)]; exact h1, by rw [upd_ne (ne_of_none h2 hD)]; exact h2, n1, n2, ne_of_none h2 hD⟩
    · rintro i y H4 H5 hi ⟨Ps, hD4, hP4, hPl, J4, U4⟩ ⟨rfl, ey⟩
      have ey : y = lV i := ey.trans (congrArg V.int (Int.zero_add _))
      subst ey
      refine ⟨rfl, ?_⟩
      refine ⟨_, rfl, q, 2, rfl, J4.Sq, by decide, fun r5 H6 S6 k6 _ _ => ?_⟩
      have J6 := J4.kp k6 S6
      have U6 := U4.kp J4.Sq k6
      have hD6 := k6 _ _ hD4 hDq
      refine ⟨rfl, _, rfl, ?_⟩
      refine ite2 (fun _ => ?_) (fun _ => ?_)
      · refine ⟨_, rfl, _, hD6, by rw [List.length_map]; exact small1000 (by omega), ?_⟩
        refine ⟨Ps ++ [i], by rw [upd_same, List.map_append]; rfl, fun l hl => ?_, by rw [List.length_append]; show Ps.length + 1 ≤ i + 1; omega, ?_, ?_⟩
        · rcases List.mem_append.mp hl with h | h
          · exact hP4 l h
          · rw [List.mem_singleton.mp h]; exact hi
        · obtain ⟨s0, np, nd, nq, nw, ⟨⟨dx, h1⟩, hd, ok'⟩, ⟨z, hz, bz⟩, wv, qw, zz⟩ := J6
          exact ⟨Same.put s0 nD, np, nd, nq, nw, ⟨⟨dx, by rw [upd_ne (ne_of h1 hD6 (by intro e; cases e))]; exact h1⟩, by rw [upd_ne (ne_of hd hD6 (by intro e; cases e))]; exact hd, ok'⟩, ⟨z, by rw [upd_ne hDq.symm]; exact hz, bz⟩, by rw [upd_ne hDw.symm]; exact wv, qw, zz⟩
        · rcases U6 with U | ⟨t, li, e1, e2, h1, h2, n1, n2, n3⟩
          · exact .inl U
          · exact .inr ⟨t, li, e1, e2, by rw [upd_ne (ne_of h1 hD6 (by intro e; cases e))]; exact h1, by rw [upd_ne n3]; exact h2, n1, n2, n3⟩
      · exact ⟨Ps, hD6, hP4, by omega, J6, U6⟩
    rintro H4 ⟨Ps, hD4, hP4, hPl, J4, U4⟩
    refine ⟨fun σ H' => Jw C.Schedule H0 H' p d q wl L n ∧ ∃ (la : Addr) (Ps : List Nat), σ = [some (.ref p), some (.ref wl), some (.int n), some (.int now), some (.ref q), some (.int kind), some x, none, none, some (.ref la), none] ∧ H' la = some (.lst (Ps.map lV)) ∧ (∀ l ∈ Ps, l < 4) ∧ la ≠ wl, ?_, ?_⟩
    · refine ⟨_, rfl, _, rfl, ?_⟩
      rw [ex]
      cases e : lanesD L with
      | nil =>
        refine iteF ?_
        refine iteF ?_
        exact ⟨J4, D, Ps, rfl, hD4, hP4, hDw⟩
      | cons m r =>
        refine iteT ?_
        refine ⟨_, rfl, q, 4, rfl, J4.Sq, by decide, fun r5 H5 S5 k5 _ _ => ?_⟩
        have J5 := J4.kp k5 S5
        have U5 := U4.kp J4.Sq k5
        have hD5 := k5 _ _ hD4 hDq
        refine ⟨_, _, rfl, rfl, _, rfl, ?_⟩
        refine ite2 (fun _ => ?_) (fun _ => ?_)
        · rcases U5 with ⟨_, z⟩ | ⟨t, li, rfl, e2, h1, h2, n1, n2, n3⟩
          · rw [e] at z; cases z
          · refine ⟨_, rfl, t, _, 0, _, rfl, rfl, SqT.of h1, rfl, ?_⟩
            exact ⟨J5, li, passD L now, rfl, h2, fun l hl => look_some_lt ok ((mem_lanes ok).mp (pass_sub hl)), n2⟩
        · exact ⟨J5, D, Ps, rfl, hD5, hP4, hDw⟩
    rintro σ H5 ⟨J5, la, Pq, rfl, hla, hP4, hlw⟩
    obtain ⟨dx5, hp5⟩ := J5.ob
    refine ⟨_, rfl, p, dx5, _, rfl, hp5, rfl, _, rfl, la, _, rfl, .inl (SqL.of hla), fun l2 hl2 => ?_⟩
    have J6 := J5.mono (Same.new (o := .lst (Pq.map lV)) hl2)
    refine ⟨p, d, l2, L, n, Pq, rfl, J6.S, SqL.of upd_same, fun d' H7 S7 k7 nd' => ?_⟩
    have hla6 : upd H5 l2 (.lst (Pq.map lV)) la = some (.lst (Pq.map lV)) := by rw [upd_ne (ne_of_none hla hl2)]; exact hla
    have hla7 := k7.lst J6.S hla6
    have hw7 := k7.lst J6.S J6.wv
    refine ⟨_, rfl, la, rfl, ⟨_, SqL.of hla7⟩, ?_⟩
    refine for_it (walk_list (K := K) (a := la) (xs := Pq.map lV)) (fun i σ H' => H' = upd H7 wl (.lst (wvD (endD L (Pq.take i)))) ∧ ∃ l, σ = [some (.ref p), some (.ref wl), some (.int n), some (.int now), some (.ref q), some (.int kind), some x, l, none, some (.ref la), none]) ⟨?_, none, rfl⟩ (fun i σ H' _ e => by rw [e.1]; exact SqL.of (by rw [upd_ne hlw]; exact hla7)) ?_ ?_
    · have e0 : endD L (Pq.take 0) = L := by
        unfold endD
        rw [List.filter_eq_self]
        intro a _
        rfl
      rw [e0]
      exact (upd_id hw7).symm
    · rintro i y σ H8 H9 hi ⟨rfl, l, rfl⟩ ⟨rfl, hx⟩
      have hi' : i < Pq.length := by rw [List.length_map] at hi; exact hi
      have ey : y = lV Pq[i] := by
        rw [List.getElem?_map, List.getElem?_eq_getElem hi'] at hx
        exact (Option.some.inj hx).symm
      subst ey
      have hl4 := hP4 _ (List.getElem_mem hi')
      refine ⟨_, rfl, _, rfl, wl, _, _, Pq[i], rfl, rfl, upd_same, ixN_nat hl4, ?_⟩
      refine ⟨?_, _, rfl⟩
      rw [upd_upd]
      have e : (wvD (endD L (Pq.take i))).set Pq[i] (oV none) = wvD (endD L (Pq.take (i + 1))) := by
        refine wv_set hl4 fun k => ?_
        have em : Pq.take (i + 1) = Pq.take i ++ [Pq[i]] := by
          rw [List.take_add_one, List.getElem?_eq_getElem hi']
          rfl
        rw [look_end, look_end, em]
        by_cases e : k = Pq[i]
        · rw [if_pos e, if_pos (List.mem_append.mpr (.inr (List.mem_singleton.mpr e)))]
        · rw [if_neg e]
          by_cases h : k ∈ Pq.take i
          · rw [if_pos h, if_pos (List.mem_append.mpr (.inl h))]
          · rw [if_neg h, if_neg fun z => (List.mem_append.mp z).elim h fun z => e (List.mem_singleton.mp z)]
      rw [← e]
      rfl
    · rintro σ H8 ⟨rfl, l, rfl⟩
      rw [List.length_map, List.take_length]
      exact k d' (endD L Pq) 0 _ (J6.step k7 S7 (.inr nd') rfl fun _ => rfl) (Int.le_refl _)
end
end VL

set_option Elab.async false
set_option linter.all false
set_option maxRecDepth 100000
set_option maxHeartbeats 4000000
set_option pp.maxSteps 300
namespace VL
open PySem PySem.Spec PyProof.Rows L2

structure Jv (C : Addr) (H0 H : Hp) (p wl : Addr) (n : Int) : Prop where
  same : Same H0 H
  np : H0 p = none
  nw : H0 wl = none
  ex : ∃ d L, H0 d = none ∧ SchA C H p d L n ∧ H wl = some (.lst (wvD L)) ∧ (L = [] → n = 0)
  n0 : 0 ≤ n
theorem Jv.mono {C p wl : Addr} {H0 H H' : Hp} {n : Int} (J : Jv C H0 H p wl n) (s : Same H H') : Jv C H0 H' p wl n := by
  obtain ⟨s0, np, nw, ⟨d, L, nd, S, wv, z⟩, n0⟩ := J
  exact ⟨s0.trans s, np, nw, ⟨d, L, nd, S.same s, s _ _ wv, z⟩, n0⟩
def dFour : PyData := .tuple [.int 0, .int 1, .int 2, .int 3]
def dPat : PyData := .tuple [.int 0, .int 5000, .int 10000, .int 60000]
section
variable {P : Program} {w : World} {K : PySem.W.Frag} {mg : Str → Option Value} {base : Heap} {C : Ad}
theorem sc_law : FnScope ["script", "schedule", "since", "done", "now", "names", "k", "state"] ["script"] (defScope s_law) := ⟨rfl, rfl, rfl, by decide +kernel, rfl, by decide +kernel, by decide +kernel⟩
theorem ok_law {f : Addr} {fd : FuncData} (F : Fun K "law" "law" s_law f fd) (T : Txt K w mg C) : FnOk P w K mg base CX0 8 f fd ["script"] (spLaw K) := by
  have KSchedule : Mak P w K mg base 1 "Schedule" C.Schedule (spSInit C.Schedule) := ok_sinit T
  have G_law_cell : Cal P w K mg base 1 "_law_cell" (spCellA K) := ok_cell T
  have G_law_start : Cal P w K mg base 1 "_law_start" spStart := ok_start T
  have G_law_digit : Cal P w K mg base 1 "_law_digit" spDigit := ok_digit T
  have G_law_shows : Cal P w K mg base 4 "_law_shows" (spLShows C.Schedule) := ok_lshows T
  have G_law_step : Cal P w K mg base 3 "_law_step" (spLStep C.Schedule) := ok_lstep T
  obtain ⟨na, nu, cv, cn, hq, _⟩ := T.cc_Schedule_PATIENCE
  obtain ⟨u0, c0, _⟩ := T.cc_Schedule_SYNC
  obtain ⟨u1, c1, _⟩ := T.cc_Schedule_USUAL
  obtain ⟨u2, c2, _⟩ := T.cc_Schedule_TRANSITION
  obtain ⟨u3, c3, _⟩ := T.cc_Schedule_IDLE
  refine F.ok sc_law (fun vs H Q E h => ?_) (fun cdv A outer s H vs Q E hr h => ?_)
  · obtain ⟨a, ns, rfl, _⟩ := h
    rfl
  · obtain ⟨a, ns, rfl, hS, hlen, k⟩ := h
    refine ⟨_, (pss_cons (ps_set (i := 1) sc_law.nd rfl (Or.inl rfl) (pe_mk0 KSchedule hr (by decide) (by rfl))) (pss_cons (ps_set (i := 2) sc_law.nd rfl (Or.inl rfl) (pe_lst (pa_cons pe_non (pa_cons pe_non (pa_cons pe_non (pa_cons pe_non pa_nil)))))) (pss_cons (ps_set (i := 3) sc_law.nd rfl (Or.inl rfl) pe_int) (pss_cons (ps_set (i := 4) sc_law.nd rfl (Or.inl rfl) (pe_c G_law_digit hr (by decide) (by rfl) (pa_cons (pe_c G_law_start hr (by decide) (by rfl) (pa_cons (pe_c G_law_cell hr (by decide) (by rfl) (pa_cons (pv 0) (pa_cons pe_int pa_nil))) (pa_cons pe_int pa_nil))) (pa_cons pe_int pa_nil)))) (pss_cons (ps_set (i := 5) sc_law.nd rfl (Or.inl rfl) (pe_tup (pa_cons (ClX.pe_cval (C8.pe_gc (by rfl) T.g_Schedule)) (pa_cons (ClX.pe_cval (C8.pe_gc (by rfl) T.g_Schedule)) (pa_cons (ClX.pe_cval (C8.pe_gc (by rfl) T.g_Schedule)) (pa_cons (ClX.pe_cval (C8.pe_gc (by rfl) T.g_Schedule)) pa_nil)))))) (pss_cons (ps_if (PW.pt (pw_or (pt_cmpR (op_neD hr.units) (pv 5) (pe_tup (pa_cons pe_int (pa_cons pe_int (pa_cons pe_int (pa_cons pe_int pa_nil))))) (nomark _)) (pw_or1 (pt_cmpR (op_neD hr.units) (ClX.pe_cval (C8.pe_gc (by rfl) T.g_Schedule)) (pe_tup (pa_cons pe_int (pa_cons pe_int (pa_cons pe_int (pa_cons pe_int pa_nil))))) (nomark _))))) (pss_one (ps_ret pe_bl)) pss_nil) (pss_cons (ps_if (pt_not (pt_val (pe_c G_law_shows hr (by decide) (by rfl) (pa_cons (pv 1) (pa_cons (pv 2) (pa_cons (pv 3) (pa_cons (pv 4) pa_nil))))))) (pss_one (ps_ret pe_bl)) pss_nil) (pss_cons (ps_for PassesOwn.never rfl (pi_range1 (by rfl) T.z_range (pa_cons (pe_callB (call_min2 rfl) (by rfl) T.z_min (by decide +kernel) (pa_cons pe_int (pa_cons (pe_callB (call_max2 rfl) (by rfl) T.z_max (by decide +kernel) (pa_cons pe_int (pa_cons (pe_callB call_len_seq (by rfl) T.z_len PySem.boot_len (pa_cons (pv 0) pa_nil)) pa_nil))) pa_nil))) pa_nil)) (pg_name (i := 6) sc_law.nd rfl (Or.inl rfl)) (pss_cons (ps_set (i := 7) sc_law.nd rfl (Or.inl rfl) (pe_c G_law_start hr (by decide) (by rfl) (pa_cons (pe_c G_law_cell hr (by decide) (by rfl) (pa_cons (pv 0) (pa_cons (pv 6) pa_nil))) (pa_cons (pv 6) pa_nil)))) (pss_cons (ps_set (i := 4) sc_law.nd rfl (Or.inl rfl) (pe_op op_add (pv 4) (pe_ix ix_tup (pe_tup (pa_cons pe_int (pa_cons pe_int (pa_cons (pe_c G_law_digit hr (by decide) (by rfl) (pa_cons (pv 7) (pa_cons pe_int pa_nil))) (pa_cons (pe_c G_law_digit hr (by decide) (by rfl) (pa_cons (pv 7) (pa_cons pe_int pa_nil))) pa_nil))))) (pe_c G_law_digit hr (by decide) (by rfl) (pa_cons (pv 7) (pa_cons pe_int pa_nil))) (fun _ _ => rfl)))) (pss_cons (ps_set (i := 3) sc_law.nd rfl (Or.inl rfl) (pe_c G_law_step hr (by decide) (by rfl) (pa_cons (pv 1) (pa_cons (pv 2) (pa_cons (pv 3) (pa_cons (pv 4) (pa_cons (pv 7) pa_nil))))))) (pss_one (ps_if (PW.pt (pw_or (pt_cmpR op_lt (pv 3) pe_int (nomark _)) (pw_or1 (pt_not (pt_val (pe_c G_law_shows hr (by decide) (by rfl) (pa_cons (pv 1) (pa_cons (pv 2) (pa_cons (pv 3) (pa_cons (pv 4) pa_nil)))))))))) (pss_one (ps_ret pe_bl)) pss_nil)))))) (pss_one (ps_ret pe_bl)))))))))), ?_⟩
    intro p dx np ndx nex
    refine ⟨p, dx, rfl, upd_same, fun d H1 hd S keep => ⟨rfl, ?_⟩⟩
    have sH : Same H H1 := fun b o e => by
      refine keep b o ?_ (ne_of_none e np)
      rw [upd_ne (ne_of_none e np), upd_ne (ne_of_none e ndx)]
      exact e
    have nd : H d = none := by
      cases e : H d with
      | none => rfl
      | some o =>
        rw [upd_ne (ne_of_none e np), upd_ne (ne_of_none e ndx), e] at hd
        cases hd
    refine ⟨by show 4 ≤ sizeLine; decide, fun wl hwl => ?_⟩
    have J0 : Jv C.Schedule H (upd H1 wl (.lst [V.non, V.non, V.non, V.non])) p wl 0 := ⟨sH.trans (Same.new hwl), np, sH.free hwl, ⟨d, [], nd, S.same (Same.new hwl), upd_same, fun _ => rfl⟩, Int.le_refl _⟩
    generalize upd H1 wl (.lst [V.non, V.non, V.non, V.non]) = H2 at J0 ⊢
    -- now
    refine ⟨_, rfl, a, ns, 0, rfl, J0.same.seq hS, Int.le_refl _, fun zc => ?_⟩
    refine ⟨zc, 0, rfl, fun q0 H3 nq0 s3 Sq0 => ?_⟩
    refine ⟨q0, 1000, rfl, Sq0, by decide, fun now0 H4 S4 k4 _ _ => ?_⟩
    have s24 : Same H2 H4 := k4.same s3 nq0
    have J4 := J0.mono s24
    clear k4 S4 Sq0
    -- names
    refine ⟨_, _, _, _, rfl, T.rd_Schedule, c0, _, _, _, _, rfl, T.rd_Schedule, c1, _, _, _, _, rfl, T.rd_Schedule, c2, _, _, _, _, rfl, T.rd_Schedule, c3, by show 4 ≤ sizeLine; decide, fun t1 ht1 => ?_⟩
    refine ⟨_, rfl, by show 4 ≤ sizeLine; decide, fun t2 ht2 => ?_⟩
    have h12 : t1 ≠ t2 := fun e => by rw [e, upd_same] at ht2; cases ht2
    refine ⟨dFour, dFour, .tup (SqT.of (by rw [upd_ne h12]; exact upd_same)) (.cons (.int _) (.cons (.int _) (.cons (.int _) (.cons (.int _) .nil)))), .tup (SqT.of upd_same) (.cons (.int _) (.cons (.int _) (.cons (.int _) (.cons (.int _) .nil)))), by decide +kernel, by decide +kernel, _, rfl, ?_⟩
    rw [show PyData.eqv dFour dFour = true by decide +kernel]
    refine iteF ?_
    have J5 := (J4.mono (Same.new (o := .tup [.int 0, .int 1, .int 2, .int 3]) ht1)).mono (Same.new (o := .tup [.int 0, .int 1, .int 2, .int 3]) ht2)
    generalize upd (upd H4 t1 (.tup [.int 0, .int 1, .int 2, .int 3])) t2 (.tup [.int 0, .int 1, .int 2, .int 3]) = H5 at J5 ⊢
    refine ⟨_, _, _, _, rfl, T.rd_Schedule, cv, by show 4 ≤ sizeLine; decide, fun t3 ht3 => ?_⟩
    refine ⟨dPat, dPat, .tup (hq _) (.cons (.int _) (.cons (.int _) (.cons (.int _) (.cons (.int _) .nil)))), .tup (SqT.of upd_same) (.cons (.int _) (.cons (.int _) (.cons (.int _) (.cons (.int _) .nil)))), by decide +kernel, by decide +kernel, _, rfl, ?_⟩
    rw [show PyData.eqv dPat dPat = true by decide +kernel]
    refine iteF ?_
    have J6 := J5.mono (Same.new (o := .tup [.int 0, .int 5000, .int 10000, .int 60000]) ht3)
    generalize upd H5 t3 (.tup [.int 0, .int 5000, .int 10000, .int 60000]) = H6 at J6 ⊢
    -- _law_shows
    obtain ⟨d6, L6, nd6, S6, wv6, z6⟩ := J6.ex
    refine ⟨_, rfl, _, rfl, _, rfl, _, rfl, p, d6, wl, L6, 0, now0, rfl, S6, wv6, fun H7 s7 => ?_⟩
    refine ⟨true, rfl, ?_⟩
    refine iteF ?_
    have J7 := J6.mono s7
    -- the loop
    refine ⟨_, rfl, a, _, rfl, .inl (J7.same.seq hS), ?_⟩
    refine ⟨6, _, rfl, 50, _, rfl, ?_⟩
    generalize hT : (if (if ((ns.map V.int).length : Int) > 6 then ((ns.map V.int).length : Int) else 6) < 50 then (if ((ns.map V.int).length : Int) > 6 then ((ns.map V.int).length : Int) else 6) else 50) = tt
    have ht50 : tt ≤ 50 := by
      rw [← hT]
      split <;> omega
    have ht0 : 0 ≤ tt := by
      rw [← hT]
      split
      · split <;> omega
      · omega
    refine ⟨tt, rfl, by omega, by omega, ?_⟩
    refine for_range (lo := 0) (n := tt.toNat) (fun i σ H' => ∃ (n now : Int), Jv C.Schedule H H' p wl n ∧ ∃ kk st, σ = [some (.ref a), some (.ref p), some (.ref wl), some (.int n), some (.int now), some (.ref t1), kk, st]) ⟨0, now0, J7, none, none, rfl⟩ ?_ ?_
    · rintro i σ H8 hi ⟨n, now, J, kk, st, rfl⟩
      refine ⟨_, rfl, _, rfl, a, ns, _, rfl, J.same.seq hS, by omega, fun zc => ?_⟩
      refine ⟨_, rfl, zc, _, rfl, fun q H9 nq9 s9 Sq => ?_⟩
      have nq : H q = none := J.same.free nq9
      obtain ⟨d8, L8, nd8, S8, wv8, z8⟩ := J.ex
      have hqw : q ≠ wl := (ne_of_none wv8 nq9).symm
      have J9 : Jw C.Schedule H H9 p d8 q wl L8 n := ⟨J.same.trans s9, J.np, nd8, nq, J.nw, S8.same s9, Sq, s9 _ _ wv8, hqw, z8⟩
      refine ⟨_, rfl, _, rfl, q, 10, rfl, J9.Sq, by decide, fun r1 H10 S10 k10 _ _ => ?_⟩
      have J10 := J9.kp k10 S10
      refine ⟨_, rfl, q, 9001, rfl, J10.Sq, by decide, fun r2 H11 S11 k11 _ _ => ?_⟩
      have J11 := J10.kp k11 S11
      refine ⟨by show 4 ≤ sizeLine; decide, fun t ht => ?_⟩
      have J12 := J11.mono (Same.new (o := .tup [.int 0, .int 0, .int r1, .int r2]) ht)
      refine ⟨_, rfl, q, 4, rfl, J12.Sq, by decide, fun r3 H13 S13 k13 g0 g1 => ?_⟩
      have J13 := J12.kp k13 S13
      have htq : t ≠ q := by
        obtain ⟨z, e, _⟩ := J11.Sq
        exact (ne_of_none e ht).symm
      have ht13 : H13 t = some (.tup ([0, 0, r1, r2].map V.int)) := k13 _ _ upd_same htq
      have hr3 : r3.toNat < [0, 0, r1, (r2 : Int)].length := by show r3.toNat < 4; omega
      refine ⟨t, _, r3, _, rfl, rfl, SqT.of ht13, atI_map (f := V.int) g0 hr3, _, _, rfl, rfl, ?_⟩
      obtain ⟨now', hnow⟩ : ∃ now', now' = now + [0, 0, r1, (r2 : Int)][r3.toNat] := ⟨_, rfl⟩
      refine ⟨_, rfl, _, rfl, _, rfl, _, rfl, _, rfl, p, d8, q, wl, L8, n, now', H, by rw [hnow]; rfl, J13, J.n0, fun d' L' n' H14 J14 hn' => ?_⟩
      refine ⟨_, rfl, _, _, rfl, rfl, _, rfl, ?_⟩
      rw [decide_eq_false (show ¬ n' < 0 by omega)]
      refine iteF ?_
      refine ⟨_, rfl, _, rfl, _, rfl, _, rfl, p, d', wl, L', n', now', by rw [hnow]; rfl, J14.S, J14.wv, fun H15 s15 => ?_⟩
      refine ⟨true, rfl, ?_⟩
      refine iteF ?_
      refine ⟨n', now', ⟨J14.same.trans s15, J14.np, J14.nw, ⟨d', L', J14.nd, J14.S.same s15, s15 _ _ J14.wv, J14.z⟩, hn'⟩, _, _, by rw [hnow]; rfl⟩
    · rintro σ H8 ⟨n, now, J, _⟩
      exact k H8
end
end VL

set_option Elab.async false
set_option linter.all false
set_option maxRecDepth 100000
set_option maxHeartbeats 4000000
namespace VL
open PySem PySem.Spec PyProof.Rows L2
theorem all_mk {l : PySem.W.OpenLaw} {w : World} {K : PySem.W.Frag} {h : Heap} {mg : Str → Option Value} {fa aSchedule t_Schedule_PATIENCE t_Schedule_NAMES f1 f2 p2 f3 p3 f4 f5 f6 f7 f8 f9 f10 f11 f12 f13 f14 f15 f16 f17 f18 f19 : Addr} (X : K.In h) (G : h.Ns mainGlobals mg) (hfa : mg "law" = some (.ref fa))
    {od1 an1 od2 an2 od3 an3 od4 an4 od5 an5 od6 an6 od7 an7 od8 an8 od9 an9 od10 an10 od11 an11 od12 an12 od13 an13 od14 an14 od15 an15 od16 an16 od17 an17 od18 an18 od19 an19 : Option Addr} {ts_Schedule_PATIENCE ts_Schedule_NAMES sl1 sl2 sl3 sl4 sl5 sl6 sl7 sl8 sl9 sl10 sl11 sl12 sl13 sl14 sl15 sl16 sl17 sl18 sl19 : Array (Option Value)} {u_Schedule_SYNC u_Schedule_USUAL u_Schedule_TRANSITION u_Schedule_IDLE oc1 kV1 dc1 pm1 cd1 ct1 oc2 kV2 dc2 pm2 cd2 ct2 oc3 kV3 dc3 pm3 cd3 ct3 oc4 kV4 dc4 pm4 cd4 ct4 oc5 kV5 dc5 pm5 cd5 ct5 oc6 kV6 dc6 pm6 cd6 ct6 oc7 kV7 dc7 pm7 cd7 ct7 oc8 kV8 dc8 pm8 cd8 ct8 oc9 kV9 dc9 pm9 cd9 ct9 oc10 kV10 dc10 pm10 cd10 ct10 oc11 kV11 dc11 pm11 cd11 ct11 oc12 kV12 dc12 pm12 cd12 ct12 oc13 kV13 dc13 pm13 cd13 ct13 oc14 kV14 dc14 pm14 cd14 ct14 oc15 kV15 dc15 pm15 cd15 ct15 oc16 kV16 dc16 pm16 cd16 ct16 oc17 kV17 dc17 pm17 cd17 ct17 oc18 kV18 dc18 pm18 cd18 ct18 oc19 kV19 dc19 pm19 cd19 ct19 : Value} {ti_Schedule_PATIENCE ti_Schedule_NAMES : Array Value} {tn_Schedule_PATIENCE tn_Schedule_NAMES : Nat} {rs2 rs3 : List Value} 
    (q_Schedule : PySem.W.nsIn K mainGlobals "Schedule" = some (some (.ref aSchedule)))
    (pg_Schedule : PySem.W.plainGet K aSchedule Str.empty = true)
    (hd_Schedule : PySem.W.hasDictIn K aSchedule = true)
    (po_Schedule : PySem.W.plainOver K aSchedule = true)
    (sa_Schedule : PySem.W.findIn K (.ref aSchedule) "__setattr__" = some (some (.builtin "object.__setattr__")))
    (mk_Schedule : PySem.W.makesIn K aSchedule = true)
    (kc_Schedule : PySem.W.keepIn K (.ref aSchedule) = true)
    (n_Schedule_ticks : PySem.W.findIn K (.ref aSchedule) "ticks" = some none)
    (n_Schedule_portions : PySem.W.findIn K (.ref aSchedule) "portions" = some none)
    (rd_Schedule : PySem.W.readsIn K aSchedule (.type "type") = true)
    (ga_Schedule : PySem.W.specialIn K (.ref aSchedule) "__getattribute__" = some (some (.builtin "type.__getattribute__")))
    (cv_Schedule_SYNC : PySem.W.findCls K (.ref aSchedule) (.type "type") "SYNC" = some (.val u_Schedule_SYNC))
    (cn_Schedule_SYNC : PySem.W.findIn K (.ref aSchedule) "SYNC" = some (some u_Schedule_SYNC))
    (cg_Schedule_SYNC : PySem.W.specialIn K u_Schedule_SYNC "__get__" = some none)
    (cr_Schedule_SYNC : RelV (V.int 0) u_Schedule_SYNC)
    (cv_Schedule_USUAL : PySem.W.findCls K (.ref aSchedule) (.type "type") "USUAL" = some (.val u_Schedule_USUAL))
    (cn_Schedule_USUAL : PySem.W.findIn K (.ref aSchedule) "USUAL" = some (some u_Schedule_USUAL))
    (cg_Schedule_USUAL : PySem.W.specialIn K u_Schedule_USUAL "__get__" = some none)
    (cr_Schedule_USUAL : RelV (V.int 1) u_Schedule_USUAL)
    (cv_Schedule_TRANSITION : PySem.W.findCls K (.ref aSchedule) (.type "type") "TRANSITION" = some (.val u_Schedule_TRANSITION))
    (cn_Schedule_TRANSITION : PySem.W.findIn K (.ref aSchedule) "TRANSITION" = some (some u_Schedule_TRANSITION))
    (cg_Schedule_TRANSITION : PySem.W.specialIn K u_Schedule_TRANSITION "__get__" = some none)
    (cr_Schedule_TRANSITION : RelV (V.int 2) u_Schedule_TRANSITION)
    (cv_Schedule_IDLE : PySem.W.findCls K (.ref aSchedule) (.type "type") "IDLE" = some (.val u_Schedule_IDLE))
    (cn_Schedule_IDLE : PySem.W.findIn K (.ref aSchedule) "IDLE" = some (some u_Schedule_IDLE))
    (cg_Schedule_IDLE : PySem.W.specialIn K u_Schedule_IDLE "__get__" = some none)
    (cr_Schedule_IDLE : RelV (V.int 3) u_Schedule_IDLE)
    (cv_Schedule_PATIENCE : PySem.W.findCls K (.ref aSchedule) (.type "type") "PATIENCE" = some (.val (.ref t_Schedule_PATIENCE)))
    (cn_Schedule_PATIENCE : PySem.W.findIn K (.ref aSchedule) "PATIENCE" = some (some (.ref t_Schedule_PATIENCE)))
    (cg_Schedule_PATIENCE : PySem.W.specialIn K (.ref t_Schedule_PATIENCE) "__get__" = some none)
    (tl_Schedule_PATIENCE : K.lookup t_Schedule_PATIENCE = some ⟨.type "tuple", none, .seq ti_Schedule_PATIENCE tn_Schedule_PATIENCE, ts_Schedule_PATIENCE⟩)
    (tz_Schedule_PATIENCE : ti_Schedule_PATIENCE.size ≤ sizeLine)
    (tv_Schedule_PATIENCE : Vals VL.t_Schedule_PATIENCE ti_Schedule_PATIENCE.toList)
    (cv_Schedule_NAMES : PySem.W.findCls K (.ref aSchedule) (.type "type") "NAMES" = some (.val (.ref t_Schedule_NAMES)))
    (cn_Schedule_NAMES : PySem.W.findIn K (.ref aSchedule) "NAMES" = some (some (.ref t_Schedule_NAMES)))
    (cg_Schedule_NAMES : PySem.W.specialIn K (.ref t_Schedule_NAMES) "__get__" = some none)
    (tl_Schedule_NAMES : K.lookup t_Schedule_NAMES = some ⟨.type "tuple", none, .seq ti_Schedule_NAMES tn_Schedule_NAMES, ts_Schedule_NAMES⟩)
    (tz_Schedule_NAMES : ti_Schedule_NAMES.size ≤ sizeLine)
    (tv_Schedule_NAMES : Vals VL.t_Schedule_NAMES ti_Schedule_NAMES.toList)
    (z_bool : PySem.W.nsIn K mainGlobals "bool" = some none)
    (z_int : PySem.W.nsIn K mainGlobals "int" = some none)
    (z_isinstance : PySem.W.nsIn K mainGlobals "isinstance" = some none)
    (z_len : PySem.W.nsIn K mainGlobals "len" = some none)
    (z_list : PySem.W.nsIn K mainGlobals "list" = some none)
    (z_max : PySem.W.nsIn K mainGlobals "max" = some none)
    (z_min : PySem.W.nsIn K mainGlobals "min" = some none)
    (z_property : PySem.W.nsIn K mainGlobals "property" = some none)
    (z_range : PySem.W.nsIn K mainGlobals "range" = some none)
    (z_sorted : PySem.W.nsIn K mainGlobals "sorted" = some none)
    (a1 : PySem.W.findIn K (.ref aSchedule) "__init__" = some (some (.ref f1)))
    (i1 : PySem.W.isFn K (.ref f1) = true)
    (l1 : K.lookup f1 = some ⟨oc1, od1, .func (PySem.W.fnOf "__init__" "Schedule.__init__" (defArgs s_Schedule___init__) (defBody s_Schedule___init__) (defScope s_Schedule___init__) .none kV1 dc1 pm1 an1 cd1 ct1), sl1⟩)
    (c1 : PySem.W.codeIn K cd1 "Schedule.__init__" = true)
    (k1 : PySem.W.keepIn K (.ref f1) = true)
    (a2 : PySem.W.findIn K (.ref aSchedule) "pending" = some (some (.ref p2)))
    (pq2 : PySem.W.specialIn K (.ref p2) "__get__" = some (some (.builtin "property.__get__")))
    (pt2 : PySem.W.takesIn K (.ref p2) = some true)
    (pr2 : PySem.W.recIn K p2 "property" = some (.ref f2 :: rs2))
    (l2 : K.lookup f2 = some ⟨oc2, od2, .func (PySem.W.fnOf "pending" "Schedule.pending" (defArgs s_Schedule_pending) (defBody s_Schedule_pending) (defScope s_Schedule_pending) .none kV2 dc2 pm2 an2 cd2 ct2), sl2⟩)
    (c2 : PySem.W.codeIn K cd2 "Schedule.pending" = true)
    (k2 : PySem.W.keepIn K (.ref f2) = true)
    (a3 : PySem.W.findIn K (.ref aSchedule) "done" = some (some (.ref p3)))
    (pq3 : PySem.W.specialIn K (.ref p3) "__get__" = some (some (.builtin "property.__get__")))
    (pt3 : PySem.W.takesIn K (.ref p3) = some true)
    (pr3 : PySem.W.recIn K p3 "property" = some (.ref f3 :: rs3))
    (l3 : K.lookup f3 = some ⟨oc3, od3, .func (PySem.W.fnOf "done" "Schedule.done" (defArgs s_Schedule_done) (defBody s_Schedule_done) (defScope s_Schedule_done) .none kV3 dc3 pm3 an3 cd3 ct3), sl3⟩)
    (c3 : PySem.W.codeIn K cd3 "Schedule.done" = true)
    (k3 : PySem.W.keepIn K (.ref f3) = true)
    (a4 : PySem.W.findIn K (.ref aSchedule) "__contains__" = some (some (.ref f4)))
    (i4 : PySem.W.isFn K (.ref f4) = true)
    (l4 : K.lookup f4 = some ⟨oc4, od4, .func (PySem.W.fnOf "__contains__" "Schedule.__contains__" (defArgs s_Schedule___contains__) (defBody s_Schedule___contains__) (defScope s_Schedule___contains__) .none kV4 dc4 pm4 an4 cd4 ct4), sl4⟩)
    (c4 : PySem.W.codeIn K cd4 "Schedule.__contains__" = true)
    (k4 : PySem.W.keepIn K (.ref f4) = true)
    (a5 : PySem.W.findIn K (.ref aSchedule) "wake" = some (some (.ref f5)))
    (i5 : PySem.W.isFn K (.ref f5) = true)
    (l5 : K.lookup f5 = some ⟨oc5, od5, .func (PySem.W.fnOf "wake" "Schedule.wake" (defArgs s_Schedule_wake) (defBody s_Schedule_wake) (defScope s_Schedule_wake) .none kV5 dc5 pm5 an5 cd5 ct5), sl5⟩)
    (c5 : PySem.W.codeIn K cd5 "Schedule.wake" = true)
    (k5 : PySem.W.keepIn K (.ref f5) = true)
    (a6 : PySem.W.findIn K (.ref aSchedule) "is_overdue" = some (some (.ref f6)))
    (i6 : PySem.W.isFn K (.ref f6) = true)
    (l6 : K.lookup f6 = some ⟨oc6, od6, .func (PySem.W.fnOf "is_overdue" "Schedule.is_overdue" (defArgs s_Schedule_is_overdue) (defBody s_Schedule_is_overdue) (defScope s_Schedule_is_overdue) .none kV6 dc6 pm6 an6 cd6 ct6), sl6⟩)
    (c6 : PySem.W.codeIn K cd6 "Schedule.is_overdue" = true)
    (k6 : PySem.W.keepIn K (.ref f6) = true)
    (a7 : PySem.W.findIn K (.ref aSchedule) "next_pass" = some (some (.ref f7)))
    (i7 : PySem.W.isFn K (.ref f7) = true)
    (l7 : K.lookup f7 = some ⟨oc7, od7, .func (PySem.W.fnOf "next_pass" "Schedule.next_pass" (defArgs s_Schedule_next_pass) (defBody s_Schedule_next_pass) (defScope s_Schedule_next_pass) .none kV7 dc7 pm7 an7 cd7 ct7), sl7⟩)
    (c7 : PySem.W.codeIn K cd7 "Schedule.next_pass" = true)
    (k7 : PySem.W.keepIn K (.ref f7) = true)
    (a8 : PySem.W.findIn K (.ref aSchedule) "portion" = some (some (.ref f8)))
    (i8 : PySem.W.isFn K (.ref f8) = true)
    (l8 : K.lookup f8 = some ⟨oc8, od8, .func (PySem.W.fnOf "portion" "Schedule.portion" (defArgs s_Schedule_portion) (defBody s_Schedule_portion) (defScope s_Schedule_portion) .none kV8 dc8 pm8 an8 cd8 ct8), sl8⟩)
    (c8 : PySem.W.codeIn K cd8 "Schedule.portion" = true)
    (k8 : PySem.W.keepIn K (.ref f8) = true)
    (a9 : PySem.W.findIn K (.ref aSchedule) "give_up" = some (some (.ref f9)))
    (i9 : PySem.W.isFn K (.ref f9) = true)
    (l9 : K.lookup f9 = some ⟨oc9, od9, .func (PySem.W.fnOf "give_up" "Schedule.give_up" (defArgs s_Schedule_give_up) (defBody s_Schedule_give_up) (defScope s_Schedule_give_up) .none kV9 dc9 pm9 an9 cd9 ct9), sl9⟩)
    (c9 : PySem.W.codeIn K cd9 "Schedule.give_up" = true)
    (k9 : PySem.W.keepIn K (.ref f9) = true)
    (a10 : PySem.W.findIn K (.ref aSchedule) "end" = some (some (.ref f10)))
    (i10 : PySem.W.isFn K (.ref f10) = true)
    (l10 : K.lookup f10 = some ⟨oc10, od10, .func (PySem.W.fnOf "end" "Schedule.end" (defArgs s_Schedule_end) (defBody s_Schedule_end) (defScope s_Schedule_end) .none kV10 dc10 pm10 an10 cd10 ct10), sl10⟩)
    (c10 : PySem.W.codeIn K cd10 "Schedule.end" = true)
    (k10 : PySem.W.keepIn K (.ref f10) = true)
    (a11 : PySem.W.findIn K (.ref aSchedule) "clear" = some (some (.ref f11)))
    (i11 : PySem.W.isFn K (.ref f11) = true)
    (l11 : K.lookup f11 = some ⟨oc11, od11, .func (PySem.W.fnOf "clear" "Schedule.clear" (defArgs s_Schedule_clear) (defBody s_Schedule_clear) (defScope s_Schedule_clear) .none kV11 dc11 pm11 an11 cd11 ct11), sl11⟩)
    (c11 : PySem.W.codeIn K cd11 "Schedule.clear" = true)
    (k11 : PySem.W.keepIn K (.ref f11) = true)
    (a12 : PySem.W.nsIn K mainGlobals "_law_cell" = some (some (.ref f12)))
    (l12 : K.lookup f12 = some ⟨oc12, od12, .func (PySem.W.fnOf "_law_cell" "_law_cell" (defArgs s__law_cell) (defBody s__law_cell) (defScope s__law_cell) .none kV12 dc12 pm12 an12 cd12 ct12), sl12⟩)
    (c12 : PySem.W.codeIn K cd12 "_law_cell" = true)
    (k12 : PySem.W.keepIn K (.ref f12) = true)
    (a13 : PySem.W.nsIn K mainGlobals "_law_is_integer" = some (some (.ref f13)))
    (l13 : K.lookup f13 = some ⟨oc13, od13, .func (PySem.W.fnOf "_law_is_integer" "_law_is_integer" (defArgs s__law_is_integer) (defBody s__law_is_integer) (defScope s__law_is_integer) .none kV13 dc13 pm13 an13 cd13 ct13), sl13⟩)
    (c13 : PySem.W.codeIn K cd13 "_law_is_integer" = true)
    (k13 : PySem.W.keepIn K (.ref f13) = true)
    (a14 : PySem.W.nsIn K mainGlobals "_law_start" = some (some (.ref f14)))
    (l14 : K.lookup f14 = some ⟨oc14, od14, .func (PySem.W.fnOf "_law_start" "_law_start" (defArgs s__law_start) (defBody s__law_start) (defScope s__law_start) .none kV14 dc14 pm14 an14 cd14 ct14), sl14⟩)
    (c14 : PySem.W.codeIn K cd14 "_law_start" = true)
    (k14 : PySem.W.keepIn K (.ref f14) = true)
    (a15 : PySem.W.nsIn K mainGlobals "_law_digit" = some (some (.ref f15)))
    (l15 : K.lookup f15 = some ⟨oc15, od15, .func (PySem.W.fnOf "_law_digit" "_law_digit" (defArgs s__law_digit) (defBody s__law_digit) (defScope s__law_digit) .none kV15 dc15 pm15 an15 cd15 ct15), sl15⟩)
    (c15 : PySem.W.codeIn K cd15 "_law_digit" = true)
    (k15 : PySem.W.keepIn K (.ref f15) = true)
    (a16 : PySem.W.nsIn K mainGlobals "_law_next" = some (some (.ref f16)))
    (l16 : K.lookup f16 = some ⟨oc16, od16, .func (PySem.W.fnOf "_law_next" "_law_next" (defArgs s__law_next) (defBody s__law_next) (defScope s__law_next) .none kV16 dc16 pm16 an16 cd16 ct16), sl16⟩)
    (c16 : PySem.W.codeIn K cd16 "_law_next" = true)
    (k16 : PySem.W.keepIn K (.ref f16) = true)
    (a17 : PySem.W.nsIn K mainGlobals "_law_shows" = some (some (.ref f17)))
    (l17 : K.lookup f17 = some ⟨oc17, od17, .func (PySem.W.fnOf "_law_shows" "_law_shows" (defArgs s__law_shows) (defBody s__law_shows) (defScope s__law_shows) .none kV17 dc17 pm17 an17 cd17 ct17), sl17⟩)
    (c17 : PySem.W.codeIn K cd17 "_law_shows" = true)
    (k17 : PySem.W.keepIn K (.ref f17) = true)
    (a18 : PySem.W.nsIn K mainGlobals "_law_step" = some (some (.ref f18)))
    (l18 : K.lookup f18 = some ⟨oc18, od18, .func (PySem.W.fnOf "_law_step" "_law_step" (defArgs s__law_step) (defBody s__law_step) (defScope s__law_step) .none kV18 dc18 pm18 an18 cd18 ct18), sl18⟩)
    (c18 : PySem.W.codeIn K cd18 "_law_step" = true)
    (k18 : PySem.W.keepIn K (.ref f18) = true)
    (a19 : PySem.W.nsIn K mainGlobals "law" = some (some (.ref f19)))
    (l19 : K.lookup f19 = some ⟨oc19, od19, .func (PySem.W.fnOf "law" "law" (defArgs s_law) (defBody s_law) (defScope s_law) .none kV19 dc19 pm19 an19 cd19 ct19), sl19⟩)
    (c19 : PySem.W.codeIn K cd19 "law" = true)
    (k19 : PySem.W.keepIn K (.ref f19) = true)
    : ∃ fd : FuncData, (∀ (s : Shared) (v : Value), BindsTo s fd ⟨[v], []⟩ [("script", v)]) ∧ ∀ base : Heap, K.In base → base.Ns mainGlobals mg → FnOk l.prog w K mg base CX0 8 fa fd ["script"] (spLaw K) := by
  have e := hfa.symm.trans (PySem.W.mg_of X G a19)
  cases e
  have F1 := fun_mk (st := s_Schedule___init__) l1 c1 k1
  have b1 := F1.binds (ps := ["self"]) fun _ _ _ _ _ _ us hl => match us, hl with | [_], _ => rfl
  have F2 := fun_mk (st := s_Schedule_pending) l2 c2 k2
  have b2 := F2.binds (ps := ["self"]) fun _ _ _ _ _ _ us hl => match us, hl with | [_], _ => rfl
  have F3 := fun_mk (st := s_Schedule_done) l3 c3 k3
  have b3 := F3.binds (ps := ["self"]) fun _ _ _ _ _ _ us hl => match us, hl with | [_], _ => rfl
  have F4 := fun_mk (st := s_Schedule___contains__) l4 c4 k4
  have b4 := F4.binds (ps := ["self", "lane"]) fun _ _ _ _ _ _ us hl => match us, hl with | [_, _], _ => rfl
  have F5 := fun_mk (st := s_Schedule_wake) l5 c5 k5
  have b5 := fun_kbn F5 (ps := ["self", "lane", "now"]) 2 ["now"] fun _ _ _ _ _ _ us ws hl hw => match us, ws, hl, hw with | [_, _], [_], _, _ => rfl
  have F6 := fun_mk (st := s_Schedule_is_overdue) l6 c6 k6
  have b6 := fun_kbn F6 (ps := ["self", "lane", "now"]) 2 ["now"] fun _ _ _ _ _ _ us ws hl hw => match us, ws, hl, hw with | [_, _], [_], _, _ => rfl
  have F7 := fun_mk (st := s_Schedule_next_pass) l7 c7 k7
  have b7 := fun_kbn F7 (ps := ["self", "now"]) 1 ["now"] fun _ _ _ _ _ _ us ws hl hw => match us, ws, hl, hw with | [_], [_], _, _ => rfl
  have F8 := fun_mk (st := s_Schedule_portion) l8 c8 k8
  have b8 := F8.binds (ps := ["self", "cost"]) fun _ _ _ _ _ _ us hl => match us, hl with | [_, _], _ => rfl
  have F9 := fun_mk (st := s_Schedule_give_up) l9 c9 k9
  have b9 := F9.binds (ps := ["self"]) fun _ _ _ _ _ _ us hl => match us, hl with | [_], _ => rfl
  have F10 := fun_mk (st := s_Schedule_end) l10 c10 k10
  have b10 := F10.binds (ps := ["self", "lanes"]) fun _ _ _ _ _ _ us hl => match us, hl with | [_, _], _ => rfl
  have F11 := fun_mk (st := s_Schedule_clear) l11 c11 k11
  have b11 := F11.binds (ps := ["self"]) fun _ _ _ _ _ _ us hl => match us, hl with | [_], _ => rfl
  have F12 := fun_mk (st := s__law_cell) l12 c12 k12
  have b12 := F12.binds (ps := ["script", "k"]) fun _ _ _ _ _ _ us hl => match us, hl with | [_, _], _ => rfl
  have F13 := fun_mk (st := s__law_is_integer) l13 c13 k13
  have b13 := F13.binds (ps := ["told"]) fun _ _ _ _ _ _ us hl => match us, hl with | [_], _ => rfl
  have F14 := fun_mk (st := s__law_start) l14 c14 k14
  have b14 := F14.binds (ps := ["cell", "k"]) fun _ _ _ _ _ _ us hl => match us, hl with | [_, _], _ => rfl
  have F15 := fun_mk (st := s__law_digit) l15 c15 k15
  have b15 := F15.binds (ps := ["state", "many"]) fun _ _ _ _ _ _ us hl => match us, hl with | [_, _], _ => rfl
  have F16 := fun_mk (st := s__law_next) l16 c16 k16
  have b16 := F16.binds (ps := ["since", "now"]) fun _ _ _ _ _ _ us hl => match us, hl with | [_, _], _ => rfl
  have F17 := fun_mk (st := s__law_shows) l17 c17 k17
  have b17 := F17.binds (ps := ["schedule", "since", "done", "now"]) fun _ _ _ _ _ _ us hl => match us, hl with | [_, _, _, _], _ => rfl
  have F18 := fun_mk (st := s__law_step) l18 c18 k18
  have b18 := F18.binds (ps := ["schedule", "since", "done", "now", "state"]) fun _ _ _ _ _ _ us hl => match us, hl with | [_, _, _, _, _], _ => rfl
  have T : Txt K w mg ⟨(), aSchedule⟩ := {
    g_Schedule := ⟨_, PySem.W.mg_of X G q_Schedule, rfl⟩,
    cl_Schedule := ⟨pg_Schedule, hd_Schedule, po_Schedule, sa_Schedule⟩,
    n_Schedule_ticks := n_Schedule_ticks,
    n_Schedule_portions := n_Schedule_portions,
    rd_Schedule := ⟨rd_Schedule, ga_Schedule⟩,
    cc_Schedule_SYNC := ⟨_, ⟨cv_Schedule_SYNC, cr_Schedule_SYNC⟩, ⟨cn_Schedule_SYNC, cr_Schedule_SYNC, cg_Schedule_SYNC, by decide +kernel⟩⟩,
    cc_Schedule_USUAL := ⟨_, ⟨cv_Schedule_USUAL, cr_Schedule_USUAL⟩, ⟨cn_Schedule_USUAL, cr_Schedule_USUAL, cg_Schedule_USUAL, by decide +kernel⟩⟩,
    cc_Schedule_TRANSITION := ⟨_, ⟨cv_Schedule_TRANSITION, cr_Schedule_TRANSITION⟩, ⟨cn_Schedule_TRANSITION, cr_Schedule_TRANSITION, cg_Schedule_TRANSITION, by decide +kernel⟩⟩,
    cc_Schedule_IDLE := ⟨_, ⟨cv_Schedule_IDLE, cr_Schedule_IDLE⟩, ⟨cn_Schedule_IDLE, cr_Schedule_IDLE, cg_Schedule_IDLE, by decide +kernel⟩⟩,
    cc_Schedule_PATIENCE := ⟨_, _, ⟨cv_Schedule_PATIENCE, rfl⟩, ⟨cn_Schedule_PATIENCE, rfl, cg_Schedule_PATIENCE, by decide +kernel⟩, fun H => .inr ⟨_, _, _, tl_Schedule_PATIENCE, rfl, rfl, tz_Schedule_PATIENCE, tv_Schedule_PATIENCE⟩, ⟨_, _, _, tl_Schedule_PATIENCE, rfl, rfl, tz_Schedule_PATIENCE, tv_Schedule_PATIENCE, rfl⟩⟩,
    cc_Schedule_NAMES := ⟨_, _, ⟨cv_Schedule_NAMES, rfl⟩, ⟨cn_Schedule_NAMES, rfl, cg_Schedule_NAMES, by decide +kernel⟩, fun H => .inr ⟨_, _, _, tl_Schedule_NAMES, rfl, rfl, tz_Schedule_NAMES, tv_Schedule_NAMES⟩, ⟨_, _, _, tl_Schedule_NAMES, rfl, rfl, tz_Schedule_NAMES, tv_Schedule_NAMES, rfl⟩⟩,
    z_bool := PySem.W.mg_none_of X G z_bool,
    z_int := PySem.W.mg_none_of X G z_int,
    z_isinstance := PySem.W.mg_none_of X G z_isinstance,
    z_len := PySem.W.mg_none_of X G z_len,
    z_list := PySem.W.mg_none_of X G z_list,
    z_max := PySem.W.mg_none_of X G z_max,
    z_min := PySem.W.mg_none_of X G z_min,
    z_property := PySem.W.mg_none_of X G z_property,
    z_range := PySem.W.mg_none_of X G z_range,
    z_sorted := PySem.W.mg_none_of X G z_sorted,
    i_Schedule := ⟨_, _, F1, ⟨mk_Schedule, a1, i1, kc_Schedule⟩, PySem.W.mg_of X G q_Schedule, b1⟩,
    p_Schedule_pending := ⟨_, _, _, ⟨a2, pq2, pt2, _, pr2⟩, F2, b2⟩,
    p_Schedule_done := ⟨_, _, _, ⟨a3, pq3, pt3, _, pr3⟩, F3, b3⟩,
    m_Schedule___contains__ := ⟨_, _, F4, ⟨a4, i4, k4⟩, b4⟩,
    m_Schedule_wake := ⟨_, _, F5, ⟨a5, i5, k5⟩, b5⟩,
    m_Schedule_is_overdue := ⟨_, _, F6, ⟨a6, i6, k6⟩, b6⟩,
    m_Schedule_next_pass := ⟨_, _, F7, ⟨a7, i7, k7⟩, b7⟩,
    m_Schedule_portion := ⟨_, _, F8, ⟨a8, i8, k8⟩, b8⟩,
    m_Schedule_give_up := ⟨_, _, F9, ⟨a9, i9, k9⟩, b9⟩,
    m_Schedule_end := ⟨_, _, F10, ⟨a10, i10, k10⟩, b10⟩,
    m_Schedule_clear := ⟨_, _, F11, ⟨a11, i11, k11⟩, b11⟩,
    d__law_cell := ⟨_, _, F12, PySem.W.mg_of X G a12, b12⟩,
    d__law_is_integer := ⟨_, _, F13, PySem.W.mg_of X G a13, b13⟩,
    d__law_start := ⟨_, _, F14, PySem.W.mg_of X G a14, b14⟩,
    d__law_digit := ⟨_, _, F15, PySem.W.mg_of X G a15, b15⟩,
    d__law_next := ⟨_, _, F16, PySem.W.mg_of X G a16, b16⟩,
    d__law_shows := ⟨_, _, F17, PySem.W.mg_of X G a17, b17⟩,
    d__law_step := ⟨_, _, F18, PySem.W.mg_of X G a18, b18⟩ }
  exact ⟨_, fun s v => .of_eq rfl, fun base _ _ => ok_law (fun_mk (st := s_law) l19 c19 k19) T⟩
theorem walk {l : PySem.W.OpenLaw} {q : Program} {loose : List Str} {XP : (Str → Option Value) → Heap → Prop} {YP : World → Heap → Prop} {d : DefRec} {K : Params → PySem.W.Frag} (hn : l.most = some 63) (hdf : d.params.defaults = [])
    (hY : ∀ (w : World) (h : Heap), YP w h → (K w.params).In h)
    (F : ∀ (w : World) (mg : Str → Option Value) (fa : Addr) (h : Heap), (K w.params).In h → h.Ns mainGlobals mg → mg d.name = some (.ref fa) →
      ∃ fd : FuncData, (∀ (s : Shared) (u : Value), BindsTo s fd ⟨[u], []⟩ [("script", u)]) ∧ ∀ base : Heap, (K w.params).In base → base.Ns mainGlobals mg → FnOk l.prog w (K w.params) mg base CX0 8 fa fd ["script"] (spLaw (K w.params))) :
    PySem.W.WalkO q loose XP YP l.row.toRowW d [] (fun f vs => PySem.call f vs) :=
  L2.walk_of (n := 63) (k := 8) (x := "script") (CX := fun _ => CX0) (sp := fun w => spLaw (K w.params)) hn (by decide) hdf ⟨rfl, by decide, by decide⟩ hY F (fun _ _ a ns hl _ hS => ⟨a, ns, rfl, hS, hl, fun _ => rfl⟩) fun _ _ _ _ _ z => z
end VL

open PySem PySem.W PyProof.Rows in
set_option maxRecDepth 100000 in
set_option maxHeartbeats 0 in
theorem PySem.Challenge.cw_viewloom_k35_schedules_holds : PySem.Challenge.rw_viewloom_k35_schedules.Holds := by
  w_on; o_law; k_head; (case hw => w_witness2)
  k_fill
  refine VL.walk (l := PySem.Challenge.rw_viewloom_k35_schedules) rfl rfl (fun w h Y => PySem.W.kIn_of Y) ?F
  case F =>
    intro w mg fa h KX G hmg
    refine' VL.all_mk KX G hmg ?q_Schedule ?pg_Schedule ?hd_Schedule ?po_Schedule ?sa_Schedule ?mk_Schedule ?kc_Schedule ?n_Schedule_ticks ?n_Schedule_portions ?rd_Schedule ?ga_Schedule ?cv_Schedule_SYNC ?cn_Schedule_SYNC ?cg_Schedule_SYNC ?cr_Schedule_SYNC ?cv_Schedule_USUAL ?cn_Schedule_USUAL ?cg_Schedule_USUAL ?cr_Schedule_USUAL ?cv_Schedule_TRANSITION ?cn_Schedule_TRANSITION ?cg_Schedule_TRANSITION ?cr_Schedule_TRANSITION ?cv_Schedule_IDLE ?cn_Schedule_IDLE ?cg_Schedule_IDLE ?cr_Schedule_IDLE ?cv_Schedule_PATIENCE ?cn_Schedule_PATIENCE ?cg_Schedule_PATIENCE ?tl_Schedule_PATIENCE ?tz_Schedule_PATIENCE ?tv_Schedule_PATIENCE ?cv_Schedule_NAMES ?cn_Schedule_NAMES ?cg_Schedule_NAMES ?tl_Schedule_NAMES ?tz_Schedule_NAMES ?tv_Schedule_NAMES ?z_bool ?z_int ?z_isinstance ?z_len ?z_list ?z_max ?z_min ?z_property ?z_range ?z_sorted ?a1 ?i1 ?l1 ?c1 ?k1 ?a2 ?pq2 ?pt2 ?pr2 ?l2 ?c2 ?k2 ?a3 ?pq3 ?pt3 ?pr3 ?l3 ?c3 ?k3 ?a4 ?i4 ?l4 ?c4 ?k4 ?a5 ?i5 ?l5 ?c5 ?k5 ?a6 ?i6 ?l6 ?c6 ?k6 ?a7 ?i7 ?l7 ?c7 ?k7 ?a8 ?i8 ?l8 ?c8 ?k8 ?a9 ?i9 ?l9 ?c9 ?k9 ?a10 ?i10 ?l10 ?c10 ?k10 ?a11 ?i11 ?l11 ?c11 ?k11 ?a12 ?l12 ?c12 ?k12 ?a13 ?l13 ?c13 ?k13 ?a14 ?l14 ?c14 ?k14 ?a15 ?l15 ?c15 ?k15 ?a16 ?l16 ?c16 ?k16 ?a17 ?l17 ?c17 ?k17 ?a18 ?l18 ?c18 ?k18 ?a19 ?l19 ?c19 ?k19
    (case q_Schedule => k_is)
    (case pg_Schedule => k_is)
    (case hd_Schedule => k_is)
    (case po_Schedule => k_is)
    (case sa_Schedule => k_is)
    (case mk_Schedule => k_is)
    (case kc_Schedule => k_is)
    (case n_Schedule_ticks => k_is)
    (case n_Schedule_portions => k_is)
    (case rd_Schedule => k_is)
    (case ga_Schedule => k_is)
    (case cv_Schedule_SYNC => k_is)
    (case cn_Schedule_SYNC => k_is)
    (case cg_Schedule_SYNC => k_is)
    (case cr_Schedule_SYNC => exact ⟨_, rfl⟩)
    (case cv_Schedule_USUAL => k_is)
    (case cn_Schedule_USUAL => k_is)
    (case cg_Schedule_USUAL => k_is)
    (case cr_Schedule_USUAL => exact ⟨_, rfl⟩)
    (case cv_Schedule_TRANSITION => k_is)
    (case cn_Schedule_TRANSITION => k_is)
    (case cg_Schedule_TRANSITION => k_is)
    (case cr_Schedule_TRANSITION => exact ⟨_, rfl⟩)
    (case cv_Schedule_IDLE => k_is)
    (case cn_Schedule_IDLE => k_is)
    (case cg_Schedule_IDLE => k_is)
    (case cr_Schedule_IDLE => exact ⟨_, rfl⟩)
    (case cv_Schedule_PATIENCE => k_is)
    (case cn_Schedule_PATIENCE => k_is)
    (case cg_Schedule_PATIENCE => k_is)
    (case tl_Schedule_PATIENCE => k_is)
    (case tz_Schedule_PATIENCE => show 4 ≤ sizeLine; decide)
    (case tv_Schedule_PATIENCE => exact (.cons ⟨_, rfl⟩ (.cons ⟨_, rfl⟩ (.cons ⟨_, rfl⟩ (.cons ⟨_, rfl⟩ .nil)))))
    (case cv_Schedule_NAMES => k_is)
    (case cn_Schedule_NAMES => k_is)
    (case cg_Schedule_NAMES => k_is)
    (case tl_Schedule_NAMES => k_is)
    (case tz_Schedule_NAMES => show 4 ≤ sizeLine; decide)
    (case tv_Schedule_NAMES => exact (.cons ⟨_, rfl⟩ (.cons ⟨_, rfl⟩ (.cons ⟨_, rfl⟩ (.cons ⟨_, rfl⟩ .nil)))))
    (case z_bool => k_is)
    (case z_int => k_is)
    (case z_isinstance => k_is)
    (case z_len => k_is)
    (case z_list => k_is)
    (case z_max => k_is)
    (case z_min => k_is)
    (case z_property => k_is)
    (case z_range => k_is)
    (case z_sorted => k_is)
    (case a1 => k_is)
    (case i1 => k_is)
    (case l1 => k_is)
    (case c1 => k_is)
    (case k1 => k_is)
    (case a2 => k_is)
    (case pq2 => k_is)
    (case pt2 => k_is)
    (case pr2 => k_is)
    (case l2 => k_is)
    (case c2 => k_is)
    (case k2 => k_is)
    (case a3 => k_is)
    (case pq3 => k_is)
    (case pt3 => k_is)
    (case pr3 => k_is)
    (case l3 => k_is)
    (case c3 => k_is)
    (case k3 => k_is)
    (case a4 => k_is)
    (case i4 => k_is)
    (case l4 => k_is)
    (case c4 => k_is)
    (case k4 => k_is)
    (case a5 => k_is)
    (case i5 => k_is)
    (case l5 => k_is)
    (case c5 => k_is)
    (case k5 => k_is)
    (case a6 => k_is)
    (case i6 => k_is)
    (case l6 => k_is)
    (case c6 => k_is)
    (case k6 => k_is)
    (case a7 => k_is)
    (case i7 => k_is)
    (case l7 => k_is)
    (case c7 => k_is)
    (case k7 => k_is)
    (case a8 => k_is)
    (case i8 => k_is)
    (case l8 => k_is)
    (case c8 => k_is)
    (case k8 => k_is)
    (case a9 => k_is)
    (case i9 => k_is)
    (case l9 => k_is)
    (case c9 => k_is)
    (case k9 => k_is)
    (case a10 => k_is)
    (case i10 => k_is)
    (case l10 => k_is)
    (case c10 => k_is)
    (case k10 => k_is)
    (case a11 => k_is)
    (case i11 => k_is)
    (case l11 => k_is)
    (case c11 => k_is)
    (case k11 => k_is)
    (case a12 => k_is)
    (case l12 => k_is)
    (case c12 => k_is)
    (case k12 => k_is)
    (case a13 => k_is)
    (case l13 => k_is)
    (case c13 => k_is)
    (case k13 => k_is)
    (case a14 => k_is)
    (case l14 => k_is)
    (case c14 => k_is)
    (case k14 => k_is)
    (case a15 => k_is)
    (case l15 => k_is)
    (case c15 => k_is)
    (case k15 => k_is)
    (case a16 => k_is)
    (case l16 => k_is)
    (case c16 => k_is)
    (case k16 => k_is)
    (case a17 => k_is)
    (case l17 => k_is)
    (case c17 => k_is)
    (case k17 => k_is)
    (case a18 => k_is)
    (case l18 => k_is)
    (case c18 => k_is)
    (case k18 => k_is)
    (case a19 => k_is)
    (case l19 => k_is)
    (case c19 => k_is)
    (case k19 => k_is)
#print axioms PySem.Challenge.cw_viewloom_k35_schedules_holds
