import PyProof.Rows.All
import Wide.All
import OpenK.AllK
import Wide.FinOn
import HandS.ForMost
import HandS.More
import HandS.Codes
import HandS.ForExc
import HandS.Nested
import HandS.ExcInit
import KE.KSuper
import KE.KExcSuper
import HandS.ExcIs
import HandS.ExcField
import HandS.FStr
import KE.KExcIs
import HandS.Defaults
import HandS.Property
import HandS.ClsMeth
import HandS.RaiseMore
import HandS.IsInst
import HandS.DeepEq
import HandS.Deep
import HandS.StrMore
import HandS.OwnEq
import HandS.TupLe
import HandS.Wide
import KE.KOwnIter
import KE.KDictIter
import HandS.ListItems
import HandS.DictComp
import HandS.SetKeys
import HandS.SortRule
import HandS.SortInts
import HandS.Walk
import HandS.Steps
import PySem.Challenge.RW_viewloom_k37_present_passes
set_option Elab.async false
set_option linter.all false
set_option maxRecDepth 100000
set_option maxHeartbeats 4000000
namespace VL
open PySem PySem.Spec PyProof.Rows L2

/-! ### defs, methods, classes, as callers see them -/
structure Cal (P : Program) (w : World) (K : PySem.W.Frag) (mg : Str → Option Value) (base : Heap) (k : Nat) (x : Str) (sp : Sp) : Prop where
  ex : ∃ (f : Addr) (fd : FuncData) (ps : List Str), FnOk P w K mg base CX0 k f fd ps sp ∧ mg x = some (.ref f) ∧ PySem.W.keepIn K (.ref f) = true ∧ Binds K fd ps []
structure Met (P : Program) (w : World) (K : PySem.W.Frag) (mg : Str → Option Value) (base : Heap) (k : Nat) (C : Addr) (m : Str) (sp : Sp) : Prop where
  ex : ∃ (f : Addr) (fd : FuncData) (ps : List Str), Cls K C ∧ Meth K C m f ∧ FnOk P w K mg base CX0 k f fd ps sp ∧ Binds K fd ps []
structure Mak (P : Program) (w : World) (K : PySem.W.Frag) (mg : Str → Option Value) (base : Heap) (k : Nat) (x : Str) (C : Addr) (sp : Sp) : Prop where
  ex : ∃ (f : Addr) (fd : FuncData) (ps : List Str), Mk K C f ∧ FnOk P w K mg base CX0 k f fd ps sp ∧ mg x = some (.ref C) ∧ Binds K fd ps []
section
variable {X : Cx} {k j : Nat} {C : Addr} {x m : Str} {sp : Sp} {p pos apos : Pos} {e o : Expr} {es : List Expr} {ta : TE} {t : TA}
theorem pe_c (c : Cal X.prog X.w X.K X.mg X.base k x sp) (hr : Room j X.A) (hk : k ≤ j) (hg : Gl X x) (ha : PA X (e :: es) t)
    (hdb : (x == ("__debug__" : Str)) = false := by decide) (he : starEach (e :: es) X.env = (false, eval e X.env) :: starEach es X.env := by rfl) (hpl : (backTo pos (starEach es X.env)).any (·.1) = false := by rfl) :
    PE X (.Call (.Name x p) (e :: es) [] pos) (tCall sp [] E0 t) := by
  obtain ⟨f, fd, ps, F, hm, kp, b⟩ := c.ex
  exact pe_call F (hr.mono hk) hg hm kp b .nil pass0 ha hdb he hpl
theorem pe_mk (c : Mak X.prog X.w X.K X.mg X.base k x C sp) (hr : Room j X.A) (hk : k + 1 ≤ j) (hg : Gl X x) (ha : PA X (e :: es) t)
    (hdb : (x == ("__debug__" : Str)) = false := by decide) (he : starEach (e :: es) X.env = (false, eval e X.env) :: starEach es X.env := by rfl) (hpl : (backTo pos (starEach es X.env)).any (·.1) = false := by rfl) :
    PE X (.Call (.Name x p) (e :: es) [] pos) (tMake C sp [] E0 t) := by
  obtain ⟨f, fd, ps, M, F, hm, b⟩ := c.ex
  exact pe_make M F (hr.mono hk) hg hm b .nil pass0 ha hdb he hpl
theorem pe_mk0 (c : Mak X.prog X.w X.K X.mg X.base k x C sp) (hr : Room j X.A) (hk : k + 1 ≤ j) (hg : Gl X x) (hdb : (x == ("__debug__" : Str)) = false := by decide) :
    PE X (.Call (.Name x p) [] [] pos) (tMake C sp [] E0 tNil) := by
  obtain ⟨f, fd, ps, M, F, hm, b⟩ := c.ex
  exact pe_make0 M F (hr.mono hk) hg hm b .nil pass0 hdb
theorem pe_mt {pl : Sem Bool} (c : Met X.prog X.w X.K X.mg X.base k C m sp) (hr : Room j X.A) (hk : k ≤ j) (he : PE X o ta) (ha : PA X (e :: es) t)
    (hst : starEach (e :: es) X.env = (false, eval e X.env) :: starEach es X.env := by rfl) (hpl : (backTo pos (starEach es X.env)).any (·.1) = false := by rfl)
    (ht : eval (.Call (.Attribute o m apos) (e :: es) [] pos) X.env = (do
      let ov ← eval o X.env
      standAt apos.atName
      let (f, first) ← holding [ov] (getMethod ov m pl)
      callWith pos f first (backTo pos (starEach (e :: es) X.env)) (backToKw pos (keywordEach [] X.env))) := by rfl) :
    PE X (.Call (.Attribute o m apos) (e :: es) [] pos) (tMeth C m sp [] E0 ta t) := by
  obtain ⟨f, fd, ps, hc, hm, F, b⟩ := c.ex
  exact pe_meth (pl := pl) he hc hm F (hr.mono hk) b .nil pass0 ha hst hpl ht
theorem pe_mt0 {pl : Sem Bool} (c : Met X.prog X.w X.K X.mg X.base k C m sp) (hr : Room j X.A) (hk : k ≤ j) (he : PE X o ta)
    (ht : eval (.Call (.Attribute o m apos) [] [] pos) X.env = (do
      let ov ← eval o X.env
      standAt apos.atName
      let (f, first) ← holding [ov] (getMethod ov m pl)
      callWith pos f first (backTo pos (starEach [] X.env)) (backToKw pos (keywordEach [] X.env))) := by rfl) :
    PE X (.Call (.Attribute o m apos) [] [] pos) (tMeth C m sp [] E0 ta tNil) := by
  obtain ⟨f, fd, ps, hc, hm, F, b⟩ := c.ex
  exact pe_meth0 (pl := pl) he hc hm F (hr.mono hk) b .nil pass0 ht
end

/-! ### what the text has -/
def DefE (K : PySem.W.Frag) (mg : Str → Option Value) (x : Str) (st : Stmt) (ps : List Str) : Prop := ∃ (f : Addr) (fd : FuncData), Fun K x x st f fd ∧ mg x = some (.ref f) ∧ Binds K fd ps []
def MethE (K : PySem.W.Frag) (C : Addr) (x qual : Str) (st : Stmt) (ps : List Str) : Prop := ∃ (f : Addr) (fd : FuncData), Fun K x qual st f fd ∧ Meth K C x f ∧ Binds K fd ps []
def InitE (K : PySem.W.Frag) (mg : Str → Option Value) (cn : Str) (C : Addr) (qual : Str) (st : Stmt) (ps : List Str) : Prop := ∃ (f : Addr) (fd : FuncData), Fun K "__init__" qual st f fd ∧ Mk K C f ∧ mg cn = some (.ref C) ∧ Binds K fd ps []
/-- a global name of the module has the value v -/
abbrev GV (mg : Str → Option Value) (x : Str) (v : V) : Prop := ∃ u, mg x = some u ∧ RelV v u
section
variable {P : Program} {w : World} {K : PySem.W.Frag} {mg : Str → Option Value} {base : Heap}
theorem cal_of {x : Str} {st : Stmt} {ps N : List Str} {k : Nat} {sp : Sp} (D : DefE K mg x st ps) (S : FnScope N ps (defScope st)) (len : ∀ vs H Q E, sp vs H Q E → vs.length = ps.length)
    (hbody : ∀ (f : Addr) (cdv : Value) (A : Around) (outer : List Env) (s : Shared) (H : Hp) (vs : List V) (Q : VK) (E : XK), Room k (A.deeper (envOfC x (defScope st) s.heap.objs.size f cdv)) → sp vs H Q E →
      ∃ t, PSs (cxOf CX0 P w K mg base N x (defScope st) f cdv A outer s H E).nox (defBody st) t ∧ t { nx := fun _ H' => Q .non H', rt := Q } (start N vs) H) : Cal P w K mg base (k + 1) x sp := by
  obtain ⟨f, fd, F, hm, b⟩ := D
  exact ⟨f, fd, ps, F.ok S len (hbody f), hm, F.kp, b⟩
theorem met_of {C : Addr} {x qual : Str} {st : Stmt} {ps N : List Str} {k : Nat} {sp : Sp} (D : MethE K C x qual st ps) (c : Cls K C) (S : FnScope N ps (defScope st)) (len : ∀ vs H Q E, sp vs H Q E → vs.length = ps.length)
    (hbody : ∀ (f : Addr) (cdv : Value) (A : Around) (outer : List Env) (s : Shared) (H : Hp) (vs : List V) (Q : VK) (E : XK), Room k (A.deeper (envOfC qual (defScope st) s.heap.objs.size f cdv)) → sp vs H Q E →
      ∃ t, PSs (cxOf CX0 P w K mg base N qual (defScope st) f cdv A outer s H E).nox (defBody st) t ∧ t { nx := fun _ H' => Q .non H', rt := Q } (start N vs) H) : Met P w K mg base (k + 1) C x sp := by
  obtain ⟨f, fd, F, hm, b⟩ := D
  exact ⟨f, fd, ps, c, hm, F.ok S len (hbody f), b⟩
theorem mak_of {C : Addr} {cn qual : Str} {st : Stmt} {ps N : List Str} {k : Nat} {sp : Sp} (D : InitE K mg cn C qual st ps) (S : FnScope N ps (defScope st)) (len : ∀ vs H Q E, sp vs H Q E → vs.length = ps.length)
    (hbody : ∀ (f : Addr) (cdv : Value) (A : Around) (outer : List Env) (s : Shared) (H : Hp) (vs : List V) (Q : VK) (E : XK), Room k (A.deeper (envOfC qual (defScope st) s.heap.objs.size f cdv)) → sp vs H Q E →
      ∃ t, PSs (cxOf CX0 P w K mg base N qual (defScope st) f cdv A outer s H E).nox (defBody st) t ∧ t { nx := fun _ H' => Q .non H', rt := Q } (start N vs) H) : Mak P w K mg base (k + 1) cn C sp := by
  obtain ⟨f, fd, F, M, hm, b⟩ := D
  exact ⟨f, fd, ps, M, F.ok S len (hbody f), hm, b⟩
end
theorem ps_str_loc : True := trivial
end VL

set_option Elab.async false
set_option linter.all false
set_option maxRecDepth 100000
set_option maxHeartbeats 4000000
namespace VL
open PySem PySem.Spec PyProof.Rows L2 NdefX

/-! ### an own exception's __init__ that begins with super().__init__(..), over ValueError -/
abbrev supBody (p0 p1 p2 p3 p4 : Pos) (es : List Expr) (rest : List Stmt) : List Stmt := .Expr (.Call (.Attribute (.Call (.Name "super" p0) [] [] p1) "__init__" p2) es [] p3) p4 :: rest
section
variable {CX : CXT} {P : Program} {w : World} {K : PySem.W.Frag} {mg : Str → Option Value} {base : Heap} {k : Nat} {f D cc cda : Addr} {name qual : Str} {params : Arguments} {es : List Expr} {ar : Arg} {rest : List Stmt} {p0 p1 p2 p3 p4 : Pos} {scope : Scope}
  {dV kV doc pm ct oc cl ccl : Value} {od cld cdd an : Option Addr} {osl csl ccs : Array (Option Value)} {vsC : Array Value} {file : Str} {tf : Tok} {cdD : ClassData} {N ps : List Str} {sp : Sp}
/-- what the written part says of it -/
structure SupK (P : Program) (K : PySem.W.Frag) (mg : Str → Option Value) (f D cc cda : Addr) (fd : FuncData) (qual : Str) : Prop where
  lk : ∃ oc od osl, K.lookup f = some ⟨oc, od, .func fd, osl⟩
  cd : PySem.W.codeIn K (.ref cda) qual = true
  cell : ∃ cl cld csl, K.lookup cc = some ⟨cl, cld, .cell (some (.ref D)), csl⟩
  code : ∃ ccl cdd vsC ccs file tf, K.lookup cda = some ⟨ccl, cdd, .fields vsC, ccs⟩ ∧ vsC[2]? = some (.str file tf) ∧ ((P.main.file : Str) == file) = true
  cls : ∃ cdD, PySem.W.clsIn K D = some cdD
  sub : PySem.W.mroIn K D (.ref D) = some true
  zsuper : mg "super" = none
  ops : PySem.W.nsIn K cStatics "thirdparty.any" = some none
  along : PySem.W.ks_superIn K D D "__init__" = some (some (.builtin "ValueError.__init__"))
  subV : PySem.W.subIn K (.ref D) (.type "ValueError") = some true
  top : (P.main.scope.names.lookup ("super" : Str)).isSome = false
theorem fn_sup {fd : FuncData} (T : SupK P K mg f D cc cda fd qual) (O : OexC K D) (efd : fd = PySem.W.fnX name qual params (supBody p0 p1 p2 p3 p4 es rest) scope [("__class__", cc)] dV kV doc pm an (.ref cda) ct)
    (S : NScope N ps ["__class__"] scope) (har : (params.posonlyargs ++ params.args).head? = some ar) (hps : ps.head? = some ar.arg) (hks : scope.names.lookup ("super" : Str) = some .globalImplicit)
    (hsw : ∀ env : Env, swapsWith (.Call (.Attribute (.Call (.Name "super" p0) [] [] p1) "__init__" p2) es [] p3) none p4.line env = pure false)
    (hst : ∀ env : Env, (backTo p3 (starEach es env)).any (·.1) = false)
    (hee : ∀ env : Env, ∃ x r, backTo p3 (starEach es env) = (false, x) :: r)
    {pl : Sem Bool} (hev : ∀ env : Env, eval (.Call (.Attribute (.Call (.Name "super" p0) [] [] p1) "__init__" p2) es [] p3) env = (do
      let ov ← attributeBase (.Call (.Name "super" p0) [] [] p1) "__init__" env (eval (.Call (.Name "super" p0) [] [] p1) env)
      standAt p2.atName
      let (g, first) ← holding [ov] (getMethod ov "__init__" pl)
      callWith p3 g first (backTo p3 (starEach es env)) []))
    (len : ∀ vs H Q E, sp vs H Q E → vs.length = ps.length)
    (hbody : ∀ (A : Around) (outer : List Env) (s : Shared) (H : Hp) (vs : List V) (Q : VK) (E : XK), Room k (A.deeper (envF ⟨name, qual, params, supBody p0 p1 p2 p3 p4 es rest, scope, [("__class__", cc)], cda⟩ f s.heap.objs.size)) → sp vs H Q E →
      ∃ ta tr, PA (ncx CX P w K mg base N ⟨name, qual, params, supBody p0 p1 p2 p3 p4 es rest, scope, [("__class__", cc)], cda⟩ f A outer s H E) es ta ∧
        PSs (ncx CX P w K mg base N ⟨name, qual, params, supBody p0 p1 p2 p3 p4 es rest, scope, [("__class__", cc)], cda⟩ f A outer s H E) rest tr ∧
        ∃ (a : Addr) (vs' : List V), vs = .ref a :: vs' ∧ H a = some (exo a D none) ∧
          ta (startF N vs [some (.ref D)]) H fun ws H1 => ws.length ≤ 1000 ∧ H1 a = some (exo a D none) ∧ tr { nx := fun _ H' => Q .non H', rt := Q } (startF N vs [some (.ref D)]) H1) :
    FnOk P w K mg base CX (k + 1) f fd ps sp := by
  subst efd
  obtain ⟨oc, od, osl, lk⟩ := T.lk
  obtain ⟨cl, cld, csl, hcell⟩ := T.cell
  obtain ⟨ccl, cdd, vsC, ccs, file, tf, hcode, hvs, hfile⟩ := T.code
  obtain ⟨cdD, hD⟩ := T.cls
  refine ⟨len, fun A outer s H args us vs Q E hr e0 hb r hsp => ?_⟩
  have hl := len _ _ _ _ hsp
  have KX : K.In s.heap := e0.mod.kin.keeps fun b o q => (e0.bs b o q).1
  have lim : s.heap.NoLimit := e0.mod.nolimit.keeps fun b o e => (e0.bs b o e).1
  have C : CellsAt [("__class__", cc)] ["__class__"] [some (.ref D)] s.heap H := by
    have one : ∀ y c, [(("__class__" : Str), cc)].lookup y = some c → y = "__class__" ∧ c = cc := fun y c e => by
      by_cases h : y = ("__class__" : Str)
      · subst h
        have e2 : [(("__class__" : Str), cc)].lookup ("__class__" : Str) = some cc := by simp [List.lookup]
        rw [e2] at e
        exact ⟨rfl, (Option.some.inj e).symm⟩
      · have q : (y == ("__class__" : Str)) = false := by simpa using h
        simp [List.lookup, q] at e
    have hc : ∃ v, s.heap.IsCell cc v := ⟨_, _, KX _ _ hcell, rfl⟩
    have hcH : H cc = none := (e0.bs cc _ (e0.mod.kin _ _ hcell)).2
    refine ⟨rfl, fun y c e => ?_, fun x y c e1 e2 => ?_, fun i y e => ?_⟩
    · obtain ⟨_, rfl⟩ := one y c e
      exact ⟨hcH, hc⟩
    · rw [(one _ _ e1).1, (one _ _ e2).1]
    · cases i with
      | zero =>
        injection e with e
        subst e
        refine ⟨cc, by simp [List.lookup], fun v ev => ?_⟩
        injection ev with ev
        injection ev with ev
        subst ev
        exact ⟨_, rfl, _, KX _ _ hcell, rfl⟩
      | succ i => cases i <;> cases e
  refine PySem.ks_codeAny_call_defAt (body := supBody p0 p1 p2 p3 p4 es rest) hr.depth (KX _ _ lk) rfl lim (PySem.W.codeRec_of KX T.cd) rfl hb S.nocell (fun ⟨n, _⟩ hy => S.par n (List.of_mem_zip hy).1) (fun h₁ hns kp => ?_) S.co S.gen S.kind
  obtain ⟨ta, tr, hA, hR, a, vs', ev, ha0, hq⟩ := hbody A outer s H vs Q E (hr.deeper _) hsp
  generalize hF : (⟨name, qual, params, supBody p0 p1 p2 p3 p4 es rest, scope, [("__class__", cc)], cda⟩ : NF) = F at hA hR
  have I : Inv (ncx CX P w K mg base N F f A outer s H E) [] (startF N vs [some (.ref D)]) H { s with heap := h₁, toks := s.toks + (ps.zip us).length } := by
    subst hF
    exact inv_startN S hr.hd e0 hl r C hns kp
  have eenv : callEnv (PySem.W.fnX name qual params (supBody p0 p1 p2 p3 p4 es rest) scope [("__class__", cc)] dV kV doc pm an (.ref cda) ct) s.heap.objs.size f = envF F f s.heap.objs.size := by
    subst hF
    rfl
  rw [eenv]
  have fin : ∀ {σ' : L2.St} {H' : Hp} {v : V} {u : Value} {s' : Shared}, Inv (ncx CX P w K mg base N F f A outer s H E) [] σ' H' s' → L2.RelV v u → Q v H' → CE outer P w H s Q u s' :=
    fun {σ' H' v u s'} J rv q => ⟨v, H', J.os, J.bare, J.base, J.hok, rv, q⟩
  refine PySem.ks_wpAt_mono (Q := SP (ncx CX P w K mg base N F f A outer s H E) [] { nx := fun _ H' => Q .non H', rt := Q }) (E := (ncx CX P w K mg base N F f A outer s H E).xe) ?go (fun fl s' hs => ?en) (fun _ _ x => x)
  case en =>
    cases fl with
    | ret u =>
      obtain ⟨v, σ', H', J, rv, q⟩ := hs
      exact fin J rv q
    | next =>
      obtain ⟨σ', H', J, q⟩ := hs
      exact fin (v := V.non) (u := Value.none) J rfl q
    | brk =>
      obtain ⟨_, _, _, q⟩ := hs
      exact False.elim q
    | cont =>
      obtain ⟨_, _, _, q⟩ := hs
      exact False.elim q
  have ekind : ∀ x, (envF F f s.heap.objs.size).kindOf x = scope.names.lookup x := by
    subst hF
    intro x
    rfl
  refine PySem.ks_wpAt_execs_cons (PySem.ks_wpAt_Expr_any (PySem.ks_wpAt_MethodCall (pl := pl) ?_ (hev _)) I.quiet (hsw _))
  refine PySem.ks_wpAt_super_base (env := envF F f s.heap.objs.size) ((ekind _).trans hks) ((ekind _).trans (S.frk _ List.mem_cons_self)) rfl rfl (kp _ _ (KX _ _ lk)) rfl har (by subst hF; rfl) (kp _ _ (KX _ _ hcode)) rfl hvs hfile T.top ?_
  have escope : (envF F f s.heap.objs.size).scope = scope := by subst hF; rfl
  have ecells : (envF F f s.heap.objs.size).cells = [(("__class__" : Str), cc)] := by subst hF; rfl
  obtain ⟨mb, b1, b2⟩ := e0.mod.blt
  have kb : ∀ b o, base.get? b = some o → h₁.get? b = some o := fun b o q => kp b o (e0.bs b o q).1
  have X₁ : K.In h₁ := KX.keeps kp
  have hgl := e0.mod.glob.keeps kb
  have hbl := b1.keeps kb
  refine PySem.W.ks_loadName_global (by rw [escope]; exact S.kind) ((ekind _).trans hks) (Calls.loadGlobal_builtin hgl T.zsuper hbl ((b2 _ (by decide +kernel)).trans Boot.«super») ⟨rfl, ?_⟩)
  refine wpAny_loadName_free (by rw [escope]; exact S.kind) ((ekind _).trans (S.frk _ List.mem_cons_self)) (c := cc) (v := .ref D) (by rw [ecells]; simp [List.lookup]) ⟨_, X₁ _ _ hcell, rfl⟩ ?_
  have hself : (ps.zip us).reverse.lookup ar.arg = some (.ref a) := by
    subst ev
    cases ps with
    | nil => cases hps
    | cons p ps' =>
      injection hps with hps
      subst hps
      cases r with
      | @cons _ u0 _ ur ra rw' =>
        obtain rfl : u0 = Value.ref a := ra
        have nd : (ar.arg :: ps').Nodup := by
          have q := S.nd.sublist (List.take_sublist ((ar.arg :: ps').length + [("__class__" : Str)].length) N)
          rw [S.pre] at q
          exact (List.nodup_append.mp q).1
        exact zip_look (i := 0) nd rfl rfl
  have hpar : scope.names.lookup ar.arg = some .local := by
    refine S.par _ ?_
    cases ps with
    | nil => cases hps
    | cons p ps' =>
      injection hps with hps
      subst hps
      exact List.mem_cons_self
  refine wpAny_loadName_local (by rw [escope]; exact S.kind) ((ekind _).trans hpar) hns hself ?_
  obtain ⟨oD, hD1, hD2⟩ : ∃ oD, h₁.get? D = some oD ∧ oD.data = .cls cdD := by
    have z := hD
    unfold PySem.W.clsIn at z
    split at z
    · rename_i ho
      cases z
      exact ⟨_, X₁ _ _ ho, rfl⟩
    · cases z
  refine PySem.ks_wpAny_isType_cls hD1 hD2 ⟨rfl, ?_⟩
  obtain ⟨t1, hoa⟩ := exo_at I.hok ha0
  refine PySem.ks_wpAny_call_super hD1 hD2 hoa rfl (fun c e => by cases e) (PySem.W.looks_mroIn X₁ T.sub) (fun h₂ e2 k2 => ?_)
  have I2 := I.kept (t' := s.toks + (ps.zip us).length) k2
  have X₂ : K.In h₂ := X₁.keeps k2
  have IA : PySem.W.InstAt h₂ a { cls := .ref D, dict := none, data := .fields #[.ref t1, .none, .none, .none, .bool false, .none] } D none := ⟨k2 _ _ hoa, rfl, rfl, trivial⟩
  have hal := T.along
  unfold PySem.W.ks_superIn at hal
  rw [hD] at hal
  have hmro : PySem.W.Looks (model P w) h₂ (mroOf (.ref D)) cdD.mro := fun A Q E s k q => wpAny_bind ((PySem.W.looks_clsIn X₂ hD) A _ E s k (wpAny_pure q))
  refine PySem.W.kxs_getMethod PySem.W.kxs_ValueError e2 (PySem.W.looks_opaque X₂ T.ops) hmro rfl X₂ hal (IA.type.andThen (PySem.W.looks_subIn X₂ T.subV)) (PySem.W.ks_ne X₂ IA hD) rfl ?_
  have kmw : ∀ b o, h₂.get? b = some o → (h₂.push (PySem.W.kxs_mw "ValueError.__init__" a)).get? b = some o := fun b o q => Heap.get?_push_of_some _ q
  have I3 : Inv (ncx CX P w K mg base N F f A outer s H E) [(h₂.objs.size, PySem.W.kxs_mw "ValueError.__init__" a)] (startF N vs [some (.ref D)]) H { s with heap := h₂.push (PySem.W.kxs_mw "ValueError.__init__" a), toks := s.toks + (ps.zip us).length + 1 } := by
    refine (I2.kept (t' := s.toks + (ps.zip us).length + 1) kmw).pins_of fun p hp => ?_
    rw [List.mem_singleton.mp hp]
    exact ⟨Heap.get?_push_at rfl rfl, I2.hok.fresh (Nat.le_refl _), Nat.ne_of_gt I2.lt, I2.nofs (Nat.le_refl _), fun v e => by cases e⟩
  refine PySem.W.kxs_callWith (i := "ValueError.__init__") (x := a) (hst _) ?_
  obtain ⟨x0, r0, hx⟩ := hee (envF F f s.heap.objs.size)
  rw [hx]
  refine Calls.evalArgs_plain ?_
  rw [← hx]
  refine thn (hA.run p3 _ _ _ H _ I3 hq) (fun us1 s4 ⟨ws, H1, I4, r1, hz, ha1, hrest⟩ => ⟨(I4.pin (h₂.objs.size, PySem.W.kxs_mw "ValueError.__init__" a) (List.mem_append_right _ List.mem_cons_self)).1, ?_⟩)
  have hu := (I4.pin (h₂.objs.size, PySem.W.kxs_mw "ValueError.__init__" a) (List.mem_append_right _ List.mem_cons_self)).1
  have I5 : Inv (ncx CX P w K mg base N F f A outer s H E) [] (startF N vs [some (.ref D)]) H1 s4 := I4.pins_of fun p hp => by cases hp
  obtain ⟨nm, q, Nn, bs, bm, sn, sub, ab, col, dd, k0, k1, k2', k3, k5, hC, hbm⟩ := O.cls
  obtain ⟨t2, ho⟩ := exo_at I5.hok ha1
  have hus : us1.length ≤ sizeLine := by
    rw [← Paired.length r1]
    exact Nat.le_trans hz (by decide)
  have kin4 := I5.kIn
  obtain ⟨hp, g, d, tk, os⟩ := s4
  refine wpAny_call (codeAny_of_tree ?_)
  show wpAny _ (A.deeper (envF F f s.heap.objs.size)).in1 (callAny (.ref h₂.objs.size) ⟨us1, []⟩) _ _ _
  simp only [callAny]
  refine wpAny_bind (wpAny_load hu ?_)
  simp only [PySem.W.kxs_mw, show (Value.type "method-wrapper" == Value.type "method" || Value.type "method-wrapper" == Value.type "builtin_function_or_method" || Value.type "method-wrapper" == Value.type "method-wrapper") = true by decide, if_true]
  refine PySem.W.KFB.if_so (by decide) ?_
  refine wpAny_bind (PySem.W.check_bound_init PySem.F.excBase_ValueError.toExcCallFacts (kin4 _ _ hC) ho rfl ?_)
  refine wpAny_bind (wpAny_pure (wpAny_pure ?_))
  refine ⟨plainId_quiet PySem.F.excBase_ValueError.init.plain _, codeAny_builtin PySem.F.excBase_ValueError.initEntry ?_⟩
  refine PySem.W.exc_init_tree (cls := .ref D) (t0 := t2) (dv := none) (c2 := .none) (c3 := .none) (b4 := .bool false) ho hus fun h' kk e' _ => ?_
  have J := I5.write (t' := tk) (x := a) (e := a) (o := exo a D none) (by rw [ha1]; exact True.intro) (.inl rfl) kk ⟨_, e'⟩ (exo_ok e')
  have eu : upd H1 a (exo a D none) = H1 := by
    funext b
    by_cases hb : b = a
    · rw [hb, upd_same, ha1]
    · rw [upd_ne hb]
  rw [eu] at J
  exact wpAt_of_wpAny (hR.run [] _ _ H1 _ J hrest)
end
end VL

set_option Elab.async false
set_option linter.all false
set_option maxRecDepth 100000
set_option maxHeartbeats 4000000
namespace VL
open PySem PySem.Spec PyProof.Rows L2 NdefX

/-! ### isinstance of a caught error that has a dict -/
theorem call_isED {X : Cx} {a D : Addr} {oe : Obj} {cls : Value} {d : Option Addr} {pn : List (Addr × Obj)} (C : ExcC X.K D) (hz : Zc cls d oe) (hf : ∃ vs, oe.data = .fields vs) :
    CallR (X.suite a ((a, oe) :: pn)) (.builtin "isinstance") (fun xs H Q => cls = .ref D ∧ ∃ (dd : Addr) (fs : List (Str × V)) (c : V) (cv : Value) (b : Bool), d = some dd ∧ H dd = some (.xd fs) ∧ xs = [.ref a, c] ∧ (∀ u, RelV c u → u = cv) ∧ PySem.W.kitOne X.K (.ref D) cv = some b ∧ Q (.bl b) H) := by
  intro pins s σ H xs us Q I r h
  obtain ⟨ec, dd, fs, c, cv, b, ed, ea, ex, hcv, e, q⟩ := h
  subst ec ed ex
  cases r with
  | cons rx rr =>
    cases rr with
    | cons rt rr =>
      cases rr
      cases rx
      obtain rfl := hcv _ rt
      have hp := (I.pin (a, oe) (List.mem_append_left _ List.mem_cons_self)).1
      obtain ⟨vs, hv⟩ := hf
      have hx : ObjOk X.prog X.w H s.heap dd (.xd fs) := I.hok dd _ ea
      obtain ⟨mA, hns, _⟩ := hx
      obtain ⟨od, ho, _⟩ := lookIn_ns hns
      have J : PySem.W.InstAt s.heap a oe D (some od) := ⟨hp, hz.1, by unfold PySem.W.notCls; rw [hv] <;> rfl, by rw [hz.2]; exact ho⟩
      have hcl : (PySem.W.clsIn X.K D).isSome = true := by
        obtain ⟨cd, hc, _⟩ := PySem.W.any_some C.hd
        rw [hc]
        rfl
      exact PySem.W.kia_one (PySem.W.kitx_exc (ox := oe) (od := some od) hcl C.hg C.hk C.hs C.ha C.hn C.ht C.hm) I.kIn J e (fun z => nomatch z) fun tk => ⟨.bl b, H, I.kept (t' := tk) fun _ _ z => z, rfl, q⟩
end VL

set_option Elab.async false
set_option linter.all false
set_option maxRecDepth 100000
set_option maxHeartbeats 4000000
namespace VL
open PySem PySem.Spec PyProof.Rows L2

/-! ### defs and methods that may raise -/
structure CalX (P : Program) (w : World) (K : PySem.W.Frag) (mg : Str → Option Value) (base : Heap) (k : Nat) (x : Str) (sp : Sp) : Prop where
  ex : ∃ (f : Addr) (fd : FuncData) (ps : List Str), FnOk P w K mg base (L2.CX P w) k f fd ps sp ∧ mg x = some (.ref f) ∧ PySem.W.keepIn K (.ref f) = true ∧ Binds K fd ps []
structure MetX (P : Program) (w : World) (K : PySem.W.Frag) (mg : Str → Option Value) (base : Heap) (k : Nat) (C : Addr) (m : Str) (sp : Sp) : Prop where
  ex : ∃ (f : Addr) (fd : FuncData) (ps : List Str), Cls K C ∧ Meth K C m f ∧ FnOk P w K mg base (L2.CX P w) k f fd ps sp ∧ Binds K fd ps []
structure MakX (P : Program) (w : World) (K : PySem.W.Frag) (mg : Str → Option Value) (base : Heap) (k : Nat) (x : Str) (C : Addr) (sp : Sp) : Prop where
  ex : ∃ (f : Addr) (fd : FuncData) (ps : List Str), Mk K C f ∧ FnOk P w K mg base (L2.CX P w) k f fd ps sp ∧ mg x = some (.ref C) ∧ Binds K fd ps []
section
variable {X : Cx} {k j : Nat} {C : Addr} {x m : Str} {sp : Sp} {E : XK} {p pos apos : Pos} {e o : Expr} {es : List Expr} {ta : TE} {t : TA}
theorem pe_cX (hx : Passes (L2.CX X.prog X.w) X E) (c : CalX X.prog X.w X.K X.mg X.base k x sp) (hr : Room j X.A) (hk : k ≤ j) (hg : Gl X x) (ha : PA X (e :: es) t)
    (hdb : (x == ("__debug__" : Str)) = false := by decide) (he : starEach (e :: es) X.env = (false, eval e X.env) :: starEach es X.env := by rfl) (hpl : (backTo pos (starEach es X.env)).any (·.1) = false := by rfl) :
    PE X (.Call (.Name x p) (e :: es) [] pos) (tCall sp [] E t) := by
  obtain ⟨f, fd, ps, F, hm, kp, b⟩ := c.ex
  exact pe_call F (hr.mono hk) hg hm kp b .nil hx ha hdb he hpl
theorem pe_mkX (hx : Passes (L2.CX X.prog X.w) X E) (c : MakX X.prog X.w X.K X.mg X.base k x C sp) (hr : Room j X.A) (hk : k + 1 ≤ j) (hg : Gl X x) (ha : PA X (e :: es) t)
    (hdb : (x == ("__debug__" : Str)) = false := by decide) (he : starEach (e :: es) X.env = (false, eval e X.env) :: starEach es X.env := by rfl) (hpl : (backTo pos (starEach es X.env)).any (·.1) = false := by rfl) :
    PE X (.Call (.Name x p) (e :: es) [] pos) (tMake C sp [] E t) := by
  obtain ⟨f, fd, ps, M, F, hm, b⟩ := c.ex
  exact pe_make M F (hr.mono hk) hg hm b .nil hx ha hdb he hpl
theorem pe_mtX {pl : Sem Bool} (hx : Passes (L2.CX X.prog X.w) X E) (c : MetX X.prog X.w X.K X.mg X.base k C m sp) (hr : Room j X.A) (hk : k ≤ j) (he : PE X o ta) (ha : PA X (e :: es) t)
    (hst : starEach (e :: es) X.env = (false, eval e X.env) :: starEach es X.env := by rfl) (hpl : (backTo pos (starEach es X.env)).any (·.1) = false := by rfl)
    (ht : eval (.Call (.Attribute o m apos) (e :: es) [] pos) X.env = (do
      let ov ← eval o X.env
      standAt apos.atName
      let (f, first) ← holding [ov] (getMethod ov m pl)
      callWith pos f first (backTo pos (starEach (e :: es) X.env)) (backToKw pos (keywordEach [] X.env))) := by rfl) :
    PE X (.Call (.Attribute o m apos) (e :: es) [] pos) (tMeth C m sp [] E ta t) := by
  obtain ⟨f, fd, ps, hc, hm, F, b⟩ := c.ex
  exact pe_meth (pl := pl) he hc hm F (hr.mono hk) b .nil hx ha hst hpl ht
theorem pe_mtX0 {pl : Sem Bool} (hx : Passes (L2.CX X.prog X.w) X E) (c : MetX X.prog X.w X.K X.mg X.base k C m sp) (hr : Room j X.A) (hk : k ≤ j) (he : PE X o ta)
    (ht : eval (.Call (.Attribute o m apos) [] [] pos) X.env = (do
      let ov ← eval o X.env
      standAt apos.atName
      let (f, first) ← holding [ov] (getMethod ov m pl)
      callWith pos f first (backTo pos (starEach [] X.env)) (backToKw pos (keywordEach [] X.env))) := by rfl) :
    PE X (.Call (.Attribute o m apos) [] [] pos) (tMeth C m sp [] E ta tNil) := by
  obtain ⟨f, fd, ps, hc, hm, F, b⟩ := c.ex
  exact pe_meth0 (pl := pl) he hc hm F (hr.mono hk) b .nil hx ht
end
section
variable {P : Program} {w : World} {K : PySem.W.Frag} {mg : Str → Option Value} {base : Heap}
theorem okX_of {x qual : Str} {st : Stmt} {ps N : List Str} {f : Addr} {fd : FuncData} {k : Nat} {sp : Sp} (F : Fun K x qual st f fd) (S : FnScope N ps (defScope st)) (len : ∀ vs H Q E, sp vs H Q E → vs.length = ps.length)
    (hbody : ∀ (f : Addr) (cdv : Value) (A : Around) (outer : List Env) (s : Shared) (H : Hp) (vs : List V) (Q : VK) (E : XK), Room k (A.deeper (envOfC qual (defScope st) s.heap.objs.size f cdv)) → sp vs H Q E →
      ∃ t, PSs (cxOf (L2.CX P w) P w K mg base N qual (defScope st) f cdv A outer s H E) (defBody st) t ∧ t { nx := fun _ H' => Q .non H', rt := Q } (start N vs) H) : FnOk P w K mg base (L2.CX P w) (k + 1) f fd ps sp :=
  F.okX S len (hbody f)
theorem calX_of {x : Str} {st : Stmt} {ps N : List Str} {k : Nat} {sp : Sp} (D : DefE K mg x st ps) (S : FnScope N ps (defScope st)) (len : ∀ vs H Q E, sp vs H Q E → vs.length = ps.length)
    (hbody : ∀ (f : Addr) (cdv : Value) (A : Around) (outer : List Env) (s : Shared) (H : Hp) (vs : List V) (Q : VK) (E : XK), Room k (A.deeper (envOfC x (defScope st) s.heap.objs.size f cdv)) → sp vs H Q E →
      ∃ t, PSs (cxOf (L2.CX P w) P w K mg base N x (defScope st) f cdv A outer s H E) (defBody st) t ∧ t { nx := fun _ H' => Q .non H', rt := Q } (start N vs) H) : CalX P w K mg base (k + 1) x sp := by
  obtain ⟨f, fd, F, hm, b⟩ := D
  exact ⟨f, fd, ps, okX_of F S len hbody, hm, F.kp, b⟩
theorem metX_of {C : Addr} {x qual : Str} {st : Stmt} {ps N : List Str} {k : Nat} {sp : Sp} (D : MethE K C x qual st ps) (c : Cls K C) (S : FnScope N ps (defScope st)) (len : ∀ vs H Q E, sp vs H Q E → vs.length = ps.length)
    (hbody : ∀ (f : Addr) (cdv : Value) (A : Around) (outer : List Env) (s : Shared) (H : Hp) (vs : List V) (Q : VK) (E : XK), Room k (A.deeper (envOfC qual (defScope st) s.heap.objs.size f cdv)) → sp vs H Q E →
      ∃ t, PSs (cxOf (L2.CX P w) P w K mg base N qual (defScope st) f cdv A outer s H E) (defBody st) t ∧ t { nx := fun _ H' => Q .non H', rt := Q } (start N vs) H) : MetX P w K mg base (k + 1) C x sp := by
  obtain ⟨f, fd, F, hm, b⟩ := D
  exact ⟨f, fd, ps, c, hm, okX_of F S len hbody, b⟩
theorem makX_of {C : Addr} {cn qual : Str} {st : Stmt} {ps N : List Str} {k : Nat} {sp : Sp} (D : InitE K mg cn C qual st ps) (S : FnScope N ps (defScope st)) (len : ∀ vs H Q E, sp vs H Q E → vs.length = ps.length)
    (hbody : ∀ (f : Addr) (cdv : Value) (A : Around) (outer : List Env) (s : Shared) (H : Hp) (vs : List V) (Q : VK) (E : XK), Room k (A.deeper (envOfC qual (defScope st) s.heap.objs.size f cdv)) → sp vs H Q E →
      ∃ t, PSs (cxOf (L2.CX P w) P w K mg base N qual (defScope st) f cdv A outer s H E) (defBody st) t ∧ t { nx := fun _ H' => Q .non H', rt := Q } (start N vs) H) : MakX P w K mg base (k + 1) cn C sp := by
  obtain ⟨f, fd, F, M, hm, b⟩ := D
  exact ⟨f, fd, ps, M, okX_of F S len hbody, hm, b⟩
end
/-- what leaves a def that may raise -/
abbrev thruX {P : Program} {w : World} {K : PySem.W.Frag} {mg : Str → Option Value} {base : Heap} {N : List Str} {qual : Str} {scope : Scope} {f : Addr} {cdv : Value} {A : Around} {outer : List Env} {s : Shared} {H : Hp} {E : XK} :
    Passes (L2.CX P w) (cxOf (L2.CX P w) P w K mg base N qual scope f cdv A outer s H E) E := passes_call (W := fun cls d _ H => E cls d H) (takes_of rfl rfl rfl rfl) fun _ _ _ _ h => h
abbrev takeX {P : Program} {w : World} {K : PySem.W.Frag} {mg : Str → Option Value} {base : Heap} {N : List Str} {qual : Str} {scope : Scope} {f : Addr} {cdv : Value} {A : Around} {outer : List Env} {s : Shared} {H : Hp} {E : XK} :
    Takes (cxOf (L2.CX P w) P w K mg base N qual scope f cdv A outer s H E) (fun cls d _ H => E cls d H) := takes_of rfl rfl rfl rfl
end VL

set_option Elab.async false
set_option linter.all false
set_option maxRecDepth 100000
set_option maxHeartbeats 4000000
namespace VL
open PySem PySem.Spec PyProof.Rows L2

/-! ### what the text has: methods with keyword-only parameters, properties, written tuples, own exceptions without a text of their own -/
def WrT (K : PySem.W.Frag) (a : Addr) (xs : List V) : Prop := ∃ (o : Obj) (its : Array Value) (n : Nat), K.lookup a = some o ∧ o.cls = .type "tuple" ∧ o.data = .seq its n ∧ its.size ≤ sizeLine ∧ Vals xs its.toList ∧ o.dict = none
abbrev catG {α : Type} (us ws : List α) : List α := us ++ ws
def MethKE (K : PySem.W.Frag) (C : Addr) (x qual : Str) (st : Stmt) (ps : List Str) (n : Nat) (ks : List Str) : Prop :=
  ∃ (f : Addr) (fd : FuncData), Fun K x qual st f fd ∧ Meth K C x f ∧ KBn K fd ps n ks catG catG
def PropE (K : PySem.W.Frag) (C : Addr) (x qual : Str) (st : Stmt) : Prop := ∃ (p g : Addr) (fd : FuncData), PropOf K C x p g ∧ Fun K x qual st g fd ∧ Binds K fd ["self"] []
structure ExT (K : PySem.W.Frag) (mg : Str → Option Value) (x : Str) (D : Addr) : Prop where
  g : mg x = some (.ref D)
  xx : PySem.W.excIn K D [.type "ValueError", .type "Exception", .type "BaseException", .type "object"] "ValueError.__new__" = true
  kp : PySem.W.keepIn K (.ref D) = true
  bP : PySem.W.subIn K (.ref D) (.type "BaseException") = some true
  tP : PySem.W.typeIn K (.ref D) = some (.type "type")
  em : PySem.W.exmOne K (.ref D) (.ref D) = some true
  ec : ExcC K D
theorem fun_kbn {K : PySem.W.Frag} {x qual : Str} {st : Stmt} {f : Addr} {fd : FuncData} {ps : List Str} (F : Fun K x qual st f fd) (n : Nat) (ks : List Str)
    (h : ∀ (kV doc pm : Value) (an : Option Addr) (cdv ct : Value) (us ws : List Value), us.length = n → ws.length = ks.length → bindArgs (PySem.W.fnOf x qual (defArgs st) (defBody st) (defScope st) .none kV doc pm an cdv ct) ⟨us, ks.zip ws⟩ = pure (ps.zip (us ++ ws))) :
    KBn K fd ps n ks catG catG := by
  obtain ⟨oc, od, kV, doc, pm, an, cdv, ct, osl, rfl, lk, hcd⟩ := F.ex
  exact ⟨fun s us ws X l1 l2 => .of_eq (h kV doc pm an cdv ct us ws l1 l2), fun r1 r2 => r1.append r2⟩
/-! ### as callers see them -/
structure MetK (P : Program) (w : World) (K : PySem.W.Frag) (mg : Str → Option Value) (base : Heap) (k : Nat) (C : Addr) (m : Str) (sp : Sp) (n : Nat) (ks : List Str) (gV : List V → List V → List V) : Prop where
  ex : ∃ (f : Addr) (fd : FuncData) (ps : List Str) (g : List Value → List Value → List Value), Cls K C ∧ Meth K C m f ∧ FnOk P w K mg base CX0 k f fd ps sp ∧ KBn K fd ps n ks g gV
structure Pro (P : Program) (w : World) (K : PySem.W.Frag) (mg : Str → Option Value) (base : Heap) (k : Nat) (C : Addr) (x : Str) (sp : Sp) : Prop where
  ex : ∃ (p g : Addr) (fd : FuncData), Cls K C ∧ PropOf K C x p g ∧ FnOk P w K mg base CX0 k g fd ["self"] sp ∧ Binds K fd ["self"] []
/-- o.m(.., k = v, ..): n is one more than the values written -/
def tMethK (C : Addr) (m : Str) (sp : Sp) (n kn : Nat) (gV : List V → List V → List V) (ta : TE) (t tk : TA) : TE := fun σ H Q => ta σ H fun x H1 => ∃ a dx fs, x = .ref a ∧ H1 a = some (.ins C dx fs) ∧ fs.lookup m = none ∧ t σ H1 fun vs H2 => tk σ H2 fun zs H3 => vs.length + 1 = n ∧ zs.length = kn ∧ sp (gV (.ref a :: vs) zs) H3 Q E0
section
variable {X : Cx} {k j n : Nat} {C : Addr} {m x : Str} {ks : List Str} {sp : Sp} {pos apos : Pos} {e o : Expr} {es : List Expr} {kws : List Keyword} {ta : TE} {t tk : TA} {gV : List V → List V → List V}
theorem pe_mtK {pl : Sem Bool} (c : MetK X.prog X.w X.K X.mg X.base k C m sp n ks gV) (hr : Room j X.A) (hk : k ≤ j) (he : PE X o ta) (ha : PA X (e :: es) t) (hkw : PK X kws tk)
    (hall : (backToKw pos (keywordEach kws X.env)).all (·.1.isSome) = true := by rfl) (hks : (backToKw pos (keywordEach kws X.env)).filterMap (·.1) = ks := by rfl)
    (hst : starEach (e :: es) X.env = (false, eval e X.env) :: starEach es X.env := by rfl)
    (hpl : ((backTo pos (starEach (e :: es) X.env)).any (·.1) || (backToKw pos (keywordEach kws X.env)).any (·.1.isNone)) = false := by rfl)
    (ht : eval (.Call (.Attribute o m apos) (e :: es) kws pos) X.env = (do
      let ov ← eval o X.env
      standAt apos.atName
      let (f, first) ← holding [ov] (getMethod ov m pl)
      callWith pos f first (backTo pos (starEach (e :: es) X.env)) (backToKw pos (keywordEach kws X.env))) := by rfl) :
    PE X (.Call (.Attribute o m apos) (e :: es) kws pos) (tMethK C m sp n ks.length gV ta t tk) := by
  obtain ⟨f, fd, ps, g, hc, hm, F, b⟩ := c.ex
  refine ⟨fun pins s σ H Q I h => ?_⟩
  refine PySem.W.methodCall_KW (pl := pl) (thn (he.run pins s σ H _ I h) fun u s1 ⟨x, H1, I1, rx, a, dx, fs, ex, ea, l, q⟩ => ?_) ht
  subst ex
  obtain rfl : u = Value.ref a := rx
  refine getmeth_ok I1 ea hc hm l ?_
  refine PySem.W.callWith_KW (first := [.ref a]) (h₀ := X.base) I.ok.mod.kin hm.kp hall (thn (ha.run pos pins s1 σ H1 _ I1 q) fun us s2 ⟨vs, H2, I2, r, q2⟩ => ?_) hpl hst
  refine thn (hkw.run pos pins s2 σ H2 _ I2 q2) fun ws s3 ⟨zs, H3, I3, rz, l1, l2, q3⟩ => ⟨I3.kIn, ?_⟩
  rw [hks]
  exact run_fnN (us := .ref a :: us) (vs := .ref a :: vs) F (hr.mono hk) b pass0 I3 (.cons rfl r) rz l1 l2 q3
theorem pe_mtK0 {pl : Sem Bool} (c : MetK X.prog X.w X.K X.mg X.base k C m sp n ks gV) (hr : Room j X.A) (hk : k ≤ j) (he : PE X o ta) (hkw : PK X kws tk)
    (hall : (backToKw pos (keywordEach kws X.env)).all (·.1.isSome) = true := by rfl) (hks : (backToKw pos (keywordEach kws X.env)).filterMap (·.1) = ks := by rfl)
    (hpl : ((backTo pos (starEach [] X.env)).any (·.1) || (backToKw pos (keywordEach kws X.env)).any (·.1.isNone)) = false := by rfl)
    (ht : eval (.Call (.Attribute o m apos) [] kws pos) X.env = (do
      let ov ← eval o X.env
      standAt apos.atName
      let (f, first) ← holding [ov] (getMethod ov m pl)
      callWith pos f first (backTo pos (starEach [] X.env)) (backToKw pos (keywordEach kws X.env))) := by rfl) :
    PE X (.Call (.Attribute o m apos) [] kws pos) (tMethK C m sp n ks.length gV ta tNil tk) := by
  obtain ⟨f, fd, ps, g, hc, hm, F, b⟩ := c.ex
  refine ⟨fun pins s σ H Q I h => ?_⟩
  refine PySem.W.methodCall_KW (pl := pl) (thn (he.run pins s σ H _ I h) fun u s1 ⟨x, H1, I1, rx, a, dx, fs, ex, ea, l, q⟩ => ?_) ht
  subst ex
  obtain rfl : u = Value.ref a := rx
  refine getmeth_ok I1 ea hc hm l ?_
  refine PySem.W.callWith_KW0 (first := [.ref a]) (h₀ := X.base) I.ok.mod.kin hm.kp hall ?_ hpl
  refine thn (hkw.run pos pins s1 σ H1 _ I1 q) fun ws s3 ⟨zs, H3, I3, rz, l1, l2, q3⟩ => ⟨I3.kIn, ?_⟩
  rw [hks]
  exact run_fnN (us := [.ref a]) (vs := [.ref a]) F (hr.mono hk) b pass0 I3 (.cons rfl .nil) rz l1 l2 q3
theorem pe_pr (c : Pro X.prog X.w X.K X.mg X.base k C x sp) (hr : Room j X.A) (hk : k + 1 ≤ j) (he : PE X e ta) (hab : attributeBase e x X.env (eval e X.env) = eval e X.env := by rfl) : PE X (.Attribute e x pos) (tProp C sp [] E0 ta) := by
  obtain ⟨p, g, fd, hc, hp, F, b⟩ := c.ex
  exact pe_prop he hc hp F (hr.mono hk) b .nil pass0 hab
end
section
variable {P : Program} {w : World} {K : PySem.W.Frag} {mg : Str → Option Value} {base : Heap}
theorem metK_of {C : Addr} {x qual : Str} {st : Stmt} {ps ks N : List Str} {k n : Nat} {sp : Sp} (D : MethKE K C x qual st ps n ks) (c : Cls K C) (S : FnScope N ps (defScope st)) (len : ∀ vs H Q E, sp vs H Q E → vs.length = ps.length)
    (hbody : ∀ (f : Addr) (cdv : Value) (A : Around) (outer : List Env) (s : Shared) (H : Hp) (vs : List V) (Q : VK) (E : XK), Room k (A.deeper (envOfC qual (defScope st) s.heap.objs.size f cdv)) → sp vs H Q E →
      ∃ t, PSs (cxOf CX0 P w K mg base N qual (defScope st) f cdv A outer s H E).nox (defBody st) t ∧ t { nx := fun _ H' => Q .non H', rt := Q } (start N vs) H) : MetK P w K mg base (k + 1) C x sp n ks catG := by
  obtain ⟨f, fd, F, hm, b⟩ := D
  exact ⟨f, fd, ps, _, c, hm, F.ok S len (hbody f), b⟩
theorem pro_of {C : Addr} {x qual : Str} {st : Stmt} {N : List Str} {k : Nat} {sp : Sp} (D : PropE K C x qual st) (c : Cls K C) (S : FnScope N ["self"] (defScope st)) (len : ∀ vs H Q E, sp vs H Q E → vs.length = 1)
    (hbody : ∀ (f : Addr) (cdv : Value) (A : Around) (outer : List Env) (s : Shared) (H : Hp) (vs : List V) (Q : VK) (E : XK), Room k (A.deeper (envOfC qual (defScope st) s.heap.objs.size f cdv)) → sp vs H Q E →
      ∃ t, PSs (cxOf CX0 P w K mg base N qual (defScope st) f cdv A outer s H E).nox (defBody st) t ∧ t { nx := fun _ H' => Q .non H', rt := Q } (start N vs) H) : Pro P w K mg base (k + 1) C x sp := by
  obtain ⟨p, g, fd, hp, F, b⟩ := D
  exact ⟨p, g, fd, c, hp, F.ok S len (hbody g), b⟩
end
end VL

set_option Elab.async false
set_option linter.all false
set_option maxRecDepth 100000
set_option maxHeartbeats 4000000
namespace VL
open PySem PySem.Spec PyProof.Rows L2
/-! ### rules whose readings speak of K, with K told: within comprehensions and except suites -/
theorem u65 {A : Around} {k : Nat} (r : Room k A) : A.units + 65 < cLine := by have := r.un; omega
section
variable {X : Cx} {K : PySem.W.Frag} {e o : Expr} {f : Str} {pos : Pos} {ta : TE}
theorem pe_fldS (hK : X.K = K) (he : PE X e ta) (hb : attributeBase e f X.env (eval e X.env) = eval e X.env) : PE X (.Attribute e f pos) (tFld K ta f) := by subst hK; exact pe_fld he hb
theorem pe_conS (hK : X.K = K) (he : PE X e ta) (hb : attributeBase e f X.env (eval e X.env) = eval e X.env) : PE X (.Attribute e f pos) (tCon K ta f) := by subst hK; exact pe_con he hb
theorem pe_cvalS (hK : X.K = K) (he : PE X e ta) (hb : attributeBase e f X.env (eval e X.env) = eval e X.env := by rfl) : PE X (.Attribute e f pos) (ClX.tCVal K ta f) := by subst hK; exact ClX.pe_cval he hb
theorem ix_listS (hK : X.K = K) : IxR X (rIxL K) := by subst hK; exact ix_list
theorem ix_tupS (hK : X.K = K) : IxR X (rIxT K) := by subst hK; exact ix_tup
theorem sl_listS (hK : X.K = K) : SlR X (rSlL K) := by subst hK; exact sl_list
theorem sl_tupS (hK : X.K = K) : SlR X (rSlT K) := by subst hK; exact sl_tup
theorem op_in_seqS (hK : X.K = K) : OpR X (compareOp .In) (rIn K false) := by subst hK; exact op_in_seq
theorem op_notIn_seqS (hK : X.K = K) : OpR X (compareOp .NotIn) (rIn K true) := by subst hK; exact op_notIn_seq
theorem call_len_seqS (hK : X.K = K) : CallR X (.builtin "len") (fun xs H Q => ∃ p ys, xs = [.ref p] ∧ (SqL K H p ys ∨ SqT K H p ys) ∧ Q (.int ys.length) H) := by subst hK; exact call_len_seq
theorem call_list_ofS (hK : X.K = K) : CallR X (.type "list") (fun xs H Q => ∃ p ys, xs = [.ref p] ∧ (SqL K H p ys ∨ SqT K H p ys) ∧ ∀ l, H l = none → Q (.ref l) (upd H l (.lst ys))) := by subst hK; exact call_list_of
theorem call_isiS (hK : X.K = K) : CallR X (.builtin "isinstance") (rIsi K) := by subst hK; exact call_isi
theorem op_eqDS (hK : X.K = K) (hu : X.A.units + 64 < cLine) : OpR X (compareOp .Eq) (rEqD K) := by subst hK; exact op_eqD hu
theorem op_neDS (hK : X.K = K) (hu : X.A.units + 64 < cLine) : OpR X (compareOp .NotEq) (rNeD K) := by subst hK; exact op_neD hu
theorem op_inDS (hK : X.K = K) (hu : X.A.units + 65 < cLine) : OpR X (compareOp .In) (rInD K) := by subst hK; exact op_inD hu
theorem pt_truthS (hK : X.K = K) (ha : PE X e ta) (he : ∀ whole, isTrue e X.env whole = (do let v ← whole; standAt e.pos; holding [v] (truthy v))) :
    PT X e (fun σ H Q => ta σ H fun x H' => ∃ k, TruV K x H' k ∧ Q k H') := by subst hK; exact pt_truth ha he
theorem pi_listS {tg : Expr} (hK : X.K = K) (hl : PE X e ta) : PI X tg e (iList K ta) := by subst hK; exact pi_list hl
theorem pi_tupS {tg : Expr} (hK : X.K = K) (hl : PE X e ta) : PI X tg e (iTup K ta) := by subst hK; exact pi_tup hl
theorem pg_tupS {es : List Expr} {k : Nat} {t : TGs} {n : Nat} (hK : X.K = K) (hc : X.calm = true) (h : PGs X es t)
    (hn : (assignEach es X.env).length = n := by rfl) (hst : (assignEach es X.env).findIdx? (·.1) = none := by rfl) : PG X (.Tuple es k pos) (gTup K n t) := by subst hK; exact pg_tup hc h hn hst
end
end VL

set_option Elab.async false
set_option linter.all false
set_option maxRecDepth 100000
set_option maxHeartbeats 4000000
namespace VL
open PySem PySem.Spec PyProof.Rows L2

/-! ### texts as lists of signs -/
abbrev TX (l : List Nat) : Str := ⟨l.toArray⟩
theorem TX_tl (l : List Nat) : (TX l).cps.toList = l := by simp
theorem TX_len (l : List Nat) : (TX l).length = l.length := by simp [Str.length]
theorem TX_cat (a b : List Nat) : TX a ++ TX b = TX (a ++ b) := SX.S_cat a b
theorem TX_inj {a b : List Nat} (h : TX a = TX b) : a = b := SX.S_inj h
theorem vstr_TX {a b : List Nat} : decide (V.str (TX a) = V.str (TX b)) = decide (a = b) := by
  by_cases e : a = b
  · subst e; simp
  · have : ¬ V.str (TX a) = V.str (TX b) := fun q => e (TX_inj (V.str.inj q))
    rw [decide_eq_false this, decide_eq_false e]
theorem one_eq {c d : Nat} : decide (V.str (TX [c]) = V.str (TX [d])) = decide (c = d) := by
  rw [vstr_TX]
  by_cases e : c = d
  · subst e; simp
  · simp [e]
/-- the sign at a place -/
theorem at_mid {pre r : List Nat} {c : Nat} {i : Int} (hi : i = (pre.length : Int)) : atI (TX (pre ++ c :: r)).cps.toList i = some c := by
  subst hi
  rw [TX_tl]
  unfold atI ixN
  rw [if_pos (by omega), if_pos (by simp; omega)]
  show (pre ++ c :: r)[(pre.length : Int).toNat]? = _
  rw [Int.toNat_natCast]
  simp
theorem getD_TX (l : List Nat) (v : Nat) : (TX l).cps.getD v 0 = l.getD v 0 := by
  simp only [Array.getD, List.getD_eq_getElem?_getD]
  by_cases h : v < l.length
  · rw [dif_pos (by simpa using h)]
    simp [h]
  · rw [dif_neg (by simpa using h), List.getElem?_eq_none (by omega)]
    rfl
theorem lt_one {c d : Nat} : ([c] < [d]) ↔ c < d := by
  constructor
  · intro h
    cases h with
    | rel h => exact h
    | cons h => cases h
  · intro h
    exact .rel h
/-- s.startswith(y, i) -/
theorem starts_at {pre R y : List Nat} {i : Int} (hi : i = (pre.length : Int)) : Txt.startswith3 (TX (pre ++ R)) (TX y) i = (R.take y.length == y) := by
  subst hi
  have e : fromIndex (TX (pre ++ R)).length (pre.length : Int) = pre.length := by
    unfold fromIndex
    rw [if_neg (by omega)]
    omega
  unfold Txt.startswith3
  rw [e, StrLaws.subAt_eq]
  have h1 : (TX (pre ++ R)).cps.toList.drop pre.length = R := by simp
  rw [h1, TX_len, TX_len]
  show (decide (pre.length + y.length ≤ (pre ++ R).length) && (R.take y.length == (TX y).cps.toList)) = _
  rw [TX_tl, List.length_append]
  by_cases h : y.length ≤ R.length
  · rw [decide_eq_true (by omega)]
    rfl
  · rw [decide_eq_false (by omega)]
    have : (R.take y.length == y) = false := by
      refine beq_eq_false_iff_ne.mpr fun q => h ?_
      have := congrArg List.length q
      rw [List.length_take] at this
      omega
    rw [this]
    rfl
/-- s.find("\n", i) -/
theorem find_nl {pre c r : List Nat} {d : Nat} {i : Int} (hi : i = (pre.length : Int)) (hc : d ∉ c) : Txt.find3 (TX (pre ++ (c ++ d :: r))) (TX [d]) i = ((pre.length + c.length : Nat) : Int) := by
  subst hi
  have e : fromIndex (TX (pre ++ (c ++ d :: r))).length (pre.length : Int) = pre.length := by
    unfold fromIndex
    rw [if_neg (by omega)]
    omega
  have hg : ∀ v, v < (pre ++ (c ++ d :: r)).length → (TX (pre ++ (c ++ d :: r))).cps.getD v 0 = (pre ++ (c ++ d :: r)).getD v 0 := fun v _ => getD_TX _ v
  have hat : (pre ++ (c ++ d :: r)).getD (pre.length + c.length) 0 = d := by simp [List.getD_eq_getElem?_getD]
  have hlt : pre.length + c.length < (pre ++ (c ++ d :: r)).length := by rw [List.length_append, List.length_append, List.length_cons]; omega
  rcases StrLaws.find3_spec (TX (pre ++ (c ++ d :: r))) d (pre.length : Int) with ⟨_, h2⟩ | ⟨k, h1, h2, h3, h4, h5⟩
  · rw [e, TX_len] at h2
    exact absurd (by rw [hg _ hlt]; exact hat) (h2 (pre.length + c.length) (by omega) hlt)
  · rw [e] at h2 h5
    rw [TX_len] at h3
    rw [h1]
    have hk : k = pre.length + c.length := by
      rcases Nat.lt_trichotomy k (pre.length + c.length) with q | q | q
      · exfalso
        rw [hg k h3] at h4
        have e3 : (pre ++ (c ++ d :: r)).getD k 0 = c.getD (k - pre.length) 0 := by
          rw [List.getD_eq_getElem?_getD, List.getD_eq_getElem?_getD, List.getElem?_append_right h2, List.getElem?_append_left (by omega)]
        rw [e3] at h4
        apply hc
        have hlt2 : k - pre.length < c.length := by omega
        rw [List.getD_eq_getElem?_getD, List.getElem?_eq_getElem hlt2] at h4
        have h4 : c[k - pre.length] = d := h4
        rw [← h4]
        exact List.getElem_mem hlt2
      · exact q
      · exfalso
        exact h5 (pre.length + c.length) (by omega) q (by rw [hg _ hlt]; exact hat)
    rw [hk]
/-- s[i:j] -/
theorem cut_mid {pre m r : List Nat} {i j : Int} (hi : i = (pre.length : Int)) (hj : j = ((pre.length + m.length : Nat) : Int)) : cutS (TX (pre ++ (m ++ r))) (some i) (some j) = TX m := by
  subst hi hj
  unfold cutS
  rw [TX_len, HT.sIx_nat, HT.sIx_nat, TX_tl]
  have e1 : min pre.length (pre ++ (m ++ r)).length = pre.length := by simp
  have e2 : min (pre.length + m.length) (pre ++ (m ++ r)).length = pre.length + m.length := by simp
  rw [e1, e2]
  refine congrArg TX ?_
  rw [List.drop_left, Nat.add_sub_cancel_left, List.take_left]

/-! ### rows -/
def rws : List Nat → List Nat → List (List Nat)
  | acc, [] => [acc]
  | acc, c :: r => if c = 10 then acc :: rws [] r else rws (acc ++ [c]) r
theorem spl_rws : ∀ (l acc : List Nat), TL.spl [10] 0 acc l = rws acc l
  | [], acc => by rw [TL.spl_nil]; rfl
  | c :: r, acc => by
    unfold rws
    by_cases h : c = 10
    · subst h
      rw [if_pos rfl, TL.spl_hit (by rfl)]
      exact congrArg (acc :: ·) (spl_rws r [])
    · rw [if_neg h, TL.spl_miss (by
        show TL.pre [10] (c :: r) = false
        unfold TL.pre
        simp [h])]
      exact spl_rws r _
theorem rws_ne : ∀ (l acc : List Nat), rws acc l ≠ []
  | [], acc => by unfold rws; simp
  | c :: r, acc => by
    unfold rws
    split
    · simp
    · exact rws_ne r _
def lnOf (l : List Nat) : Nat := (rws [] l).length
def clOf (l : List Nat) : Nat := ((rws [] l).getLast (rws_ne _ _)).length
theorem rws_plain : ∀ (l acc m : List Nat), 10 ∉ m → ∃ fr la, rws acc l = fr ++ [la] ∧ rws acc (l ++ m) = fr ++ [la ++ m]
  | [], acc, m, h => by
    refine ⟨[], acc, rfl, ?_⟩
    show rws acc m = [acc ++ m]
    induction m generalizing acc with
    | nil => rw [List.append_nil]; rfl
    | cons c m ih =>
      have hc : c ≠ 10 := fun e => h (by rw [e]; exact List.mem_cons_self)
      unfold rws
      rw [if_neg hc, ih _ fun e => h (List.mem_cons_of_mem _ e), List.append_assoc]
      rfl
  | c :: r, acc, m, h => by
    rw [List.cons_append]
    unfold rws
    by_cases hc : c = 10
    · rw [if_pos hc, if_pos hc]
      obtain ⟨fr, la, e1, e2⟩ := rws_plain r [] m h
      exact ⟨acc :: fr, la, by rw [e1]; rfl, by rw [e2]; rfl⟩
    · rw [if_neg hc, if_neg hc]
      exact rws_plain r _ m h
theorem rws_nl : ∀ (l acc : List Nat), rws acc (l ++ [10]) = rws acc l ++ [[]]
  | [], acc => by
    show rws acc [10] = [acc] ++ [[]]
    unfold rws
    rw [if_pos rfl]
    rfl
  | c :: r, acc => by
    rw [List.cons_append]
    unfold rws
    split
    · rw [rws_nl r []]; rfl
    · exact rws_nl r _
theorem getLast_of {α : Type} {l fr : List α} {la : α} (h : l ≠ []) (e : l = fr ++ [la]) : l.getLast h = la := by
  subst e
  simp
theorem ln_plain (l m : List Nat) (h : 10 ∉ m) : lnOf (l ++ m) = lnOf l := by
  obtain ⟨fr, la, e1, e2⟩ := rws_plain l [] m h
  unfold lnOf
  rw [e1, e2]
  simp
theorem cl_plain (l m : List Nat) (h : 10 ∉ m) : clOf (l ++ m) = clOf l + m.length := by
  obtain ⟨fr, la, e1, e2⟩ := rws_plain l [] m h
  unfold clOf
  rw [getLast_of _ e1, getLast_of _ e2, List.length_append]
theorem ln_nl (l : List Nat) : lnOf (l ++ [10]) = lnOf l + 1 := by
  unfold lnOf
  rw [rws_nl]
  simp
theorem cl_nl (l : List Nat) : clOf (l ++ [10]) = 0 := by
  unfold clOf
  rw [getLast_of _ (rws_nl l [])]
  rfl
theorem cl_le : ∀ l : List Nat, clOf l ≤ l.length := by
  intro l
  have : ∀ (l acc : List Nat), ((rws acc l).getLast (rws_ne _ _)).length ≤ acc.length + l.length := by
    intro l
    induction l with
    | nil => intro acc; simp [rws]
    | cons c r ih =>
      intro acc
      by_cases hc : c = 10
      · have e : rws acc (c :: r) = acc :: rws [] r := by
          show (if c = 10 then _ else _) = _
          rw [if_pos hc]
        have e2 : (rws acc (c :: r)).getLast (rws_ne _ _) = (rws [] r).getLast (rws_ne _ _) := by
          simp only [e]
          exact List.getLast_cons (rws_ne _ _)
        rw [e2]
        have := ih []
        simp at this ⊢
        omega
      · have e : rws acc (c :: r) = rws (acc ++ [c]) r := by
          show (if c = 10 then _ else _) = _
          rw [if_neg hc]
        have e2 : (rws acc (c :: r)).getLast (rws_ne _ _) = (rws (acc ++ [c]) r).getLast (rws_ne _ _) := by simp only [e]
        rw [e2]
        have := ih (acc ++ [c])
        simp at this ⊢
        omega
  have := this l []
  simpa [clOf] using this
/-- row = source.split("\n"): how many, and the last one's length -/
theorem split_rows (l : List Nat) : Txt.split (TX l) (TX [10]) = (rws [] l).map TX := by
  have := SX.split_S (a := l) (b := [10]) (by simp) (by decide)
  rw [spl_rws] at this
  exact this
theorem rows_last (l : List Nat) : ∃ la : List Nat, atI ((rws [] l).map fun r => V.str (TX r)) (-1) = some (.str (TX la)) ∧ la.length = clOf l := by
  refine ⟨(rws [] l).getLast (rws_ne _ _), ?_, rfl⟩
  have hp : 0 < (rws [] l).length := List.length_pos_iff.mpr (rws_ne _ _)
  unfold atI ixN
  rw [if_neg (by decide), if_pos (by rw [List.length_map]; omega)]
  show ((rws [] l).map fun r => V.str (TX r))[_]? = _
  have e : (-1 + (((rws [] l).map fun r => V.str (TX r)).length : Int)).toNat = (rws [] l).length - 1 := by rw [List.length_map]; omega
  rw [e, List.getElem?_map, List.getElem?_eq_getElem (by omega), List.getLast_eq_getElem]
  rfl

/-! ### signs -/
def isLet (c : Nat) : Bool := (decide (97 ≤ c) && decide (c ≤ 122)) || (decide (65 ≤ c) && decide (c ≤ 90))
def isDig (c : Nat) : Bool := decide (48 ≤ c) && decide (c ≤ 57)
def isWs (c : Nat) : Bool := isLet c || isDig c || decide (c = 95)
end VL

set_option Elab.async false
set_option linter.all false
set_option maxRecDepth 100000
set_option maxHeartbeats 4000000
namespace VL
open PySem PySem.Spec PyProof.Rows L2

section
variable {X : Cx} {CX : CXT} {k : Nat} {f : Addr} {fd : FuncData} {ps : List Str} {sp : Sp} {E : XK} {A1 : Around}
/-- a callee runs somewhere below the body -/
theorem run_at {pins : List (Addr × Obj)} {σ : L2.St} {H : Hp} {s : Shared} {Q : VK} {us : List Value} {vs : List V} (F : FnOk X.prog X.w X.K X.mg X.base CX k f fd ps sp) (sb : Sub X k A1) (hb : Binds X.K fd ps []) (hx : Passes CX X E)
    (I : Inv X pins σ H s) (r : Vals vs us) (h : sp vs H Q E) : wpAny (model X.prog X.w) A1 (call (.ref f) us) (EP X pins σ Q) X.xe s := by
  have e0 : Env0 X.prog X.w X.K X.mg X.base A1 X.stack s H := by
    have e := I.env0
    exact ⟨by rw [sb.fr]; exact e.frames, e.mod, e.bs, e.bsz, e.funs, e.frf, e.hok, e.bare⟩
  have hl := F.len _ _ _ _ h
  have hl2 : (us ++ ([] : List Value)).length = ps.length := by rw [List.append_nil, ← r.length]; exact hl
  refine wpAny_call (codeAny_mono (F.run A1 X.stack s H ⟨us, []⟩ us vs Q E sb.room e0 (by
    have q := hb s us I.kIn hl2
    rw [List.append_nil] at q
    exact q) r h) fun r s' hq => ?_)
  cases r with
  | error e => exact hx pins σ H s e s' I hq
  | ok fl =>
    cases fl with
    | ret w => exact I.after hq
    | next => exact False.elim hq
    | brk => exact False.elim hq
    | cont => exact False.elim hq

/-- x in o, o an instance with a __contains__ of the text -/
def rInOwn (C : Addr) (sp : Sp) (E : XK) : R2 := fun x y H Q => ∃ a dx fs, y = .ref a ∧ H a = some (.ins C dx fs) ∧ sp [.ref a, x] H (fun v H' => ∃ c, v = .bl c ∧ Q (.bl c) H') E
theorem op_in_own {C : Addr} (hs : PySem.W.findIn X.K (.ref C) "__contains__" = some (some (.ref f))) (hf : PySem.W.isFn X.K (.ref f) = true) (F : FnOk X.prog X.w X.K X.mg X.base CX k f fd ps sp) (hr : Room k X.A) (hb : Binds X.K fd ps []) (hx : Passes CX X E) :
    OpR X (compareOp .In) (rInOwn C sp E) := by
  intro pins s σ H x y v u Q I rx ry h
  obtain ⟨a, dx, fs, rfl, ha, q⟩ := h
  cases ry
  obtain ⟨mA, J, _⟩ := ins_get I.hok ha
  obtain ⟨od, J, _⟩ := J.look
  obtain ⟨m, hF⟩ := I.fr
  refine PySem.W.in_K hF I.ok.mod.kin J hs hf ?_
  refine wpAny_mono (run_at F ⟨hr, rfl⟩ hb hx I (.cons (show RelV (.ref a) (.ref a) from rfl) (.cons rx .nil)) q) (fun r s' hq => ?_) fun _ _ z => z
  obtain ⟨w', H', I', rw', c, rfl, q'⟩ := hq
  cases rw'
  exact wpAny_truthy_bool ⟨.bl c, H', I', rfl, q'⟩

def rNotInOwn (C : Addr) (sp : Sp) (E : XK) : R2 := fun x y H Q => ∃ a dx fs, y = .ref a ∧ H a = some (.ins C dx fs) ∧ sp [.ref a, x] H (fun v H' => ∃ c, v = .bl c ∧ Q (.bl (!c)) H') E
theorem op_notIn_own {C : Addr} (hs : PySem.W.findIn X.K (.ref C) "__contains__" = some (some (.ref f))) (hf : PySem.W.isFn X.K (.ref f) = true) (F : FnOk X.prog X.w X.K X.mg X.base CX k f fd ps sp) (hr : Room k X.A) (hb : Binds X.K fd ps []) (hx : Passes CX X E) :
    OpR X (compareOp .NotIn) (rNotInOwn C sp E) := by
  intro pins s σ H x y v u Q I rx ry h
  obtain ⟨a, dx, fs, rfl, ha, q⟩ := h
  cases ry
  obtain ⟨mA, J, _⟩ := ins_get I.hok ha
  obtain ⟨od, J, _⟩ := J.look
  obtain ⟨m, hF⟩ := I.fr
  refine PySem.W.notIn_K hF I.ok.mod.kin J hs hf ?_
  refine wpAny_mono (run_at F ⟨hr, rfl⟩ hb hx I (.cons (show RelV (.ref a) (.ref a) from rfl) (.cons rx .nil)) q) (fun r s' hq => ?_) fun _ _ z => z
  obtain ⟨w', H', I', rw', c, rfl, q'⟩ := hq
  cases rw'
  exact wpAny_truthy_bool ⟨.bl (!c), H', I', rfl, q'⟩

/-- len(o), o an instance with a __len__ of the text -/
def rLenOwn (C : Addr) (sp : Sp) (E : XK) : List V → Hp → VK → Prop := fun xs H Q => ∃ a dx fs, xs = [.ref a] ∧ H a = some (.ins C dx fs) ∧ sp [.ref a] H (fun v H' => ∃ n : Int, v = .int n ∧ 0 ≤ n ∧ n < 2 ^ 63 ∧ Q (.int n) H') E
theorem call_len_own {C : Addr} (hs : PySem.W.findIn X.K (.ref C) "__len__" = some (some (.ref f))) (hf : PySem.W.isFn X.K (.ref f) = true) (F : FnOk X.prog X.w X.K X.mg X.base CX k f fd ps sp) (hr : Room (k + 1) X.A) (hb : Binds X.K fd ps []) (hx : Passes CX X E) :
    CallR X (.builtin "len") (rLenOwn C sp E) := by
  intro pins s σ H xs us Q I rv h
  obtain ⟨a, dx, fs, rfl, ha, q⟩ := h
  obtain ⟨u, rfl, ru⟩ := rv.one
  cases ru
  obtain ⟨mA, J, _⟩ := ins_get I.hok ha
  obtain ⟨od, J, _⟩ := J.look
  have sb : Sub X k X.A.in1 := Sub.in1 (⟨hr, rfl⟩ : Sub X (k + 1) X.A)
  refine Calls.call_function_entry kind_len plain_len entry_len (args_len1 _) ?_
  unfold Builtin.«len»
  refine wpAny_bind (m := oneArg "len" _) (wpAny_pure ?_)
  refine wpAny_bind (m := callSpecial? (.ref a) (Str.ofString "__len__")) (PySem.W.special_fn I.kIn J hs (beq_iff_eq.mp hf) (wpAny_mono (run_at F sb hb hx I (.cons (show RelV (.ref a) (.ref a) from rfl) .nil) q) (fun r s' hr' => ?_) fun _ _ y => y))
  obtain ⟨v, H', I', r, n, rfl, h0, h1, hq⟩ := hr'
  obtain ⟨t, rfl⟩ := r
  refine wpAny_bind (wpAny_holding (wpAny_pure ?_))
  refine wpAny_bind (wpAny_letGo ?_)
  show wpAny _ _ (if n < 0 then _ else _) _ _ _
  rw [if_neg (by omega)]
  show wpAny _ _ (if n ≥ 2 ^ 63 then _ else _) _ _ _
  rw [if_neg (by omega)]
  exact wpAny_bind (wpAny_mkInt (wpAny_pure ⟨_, rfl, ⟨.int n, H', I'.tok _, ⟨_, rfl⟩, hq⟩⟩))
end
end VL

set_option Elab.async false
set_option linter.all false
set_option maxRecDepth 100000
set_option maxHeartbeats 4000000
namespace VL
open PySem PySem.Spec PyProof.Rows L2

/-! ### schedules: the mathematics -/
abbrev Sd := List (Nat × Int)
def look (L : Sd) (l : Nat) : Option Int := (L.find? fun e => decide (e.1 = l)).map (·.2)
structure OkD (L : Sd) : Prop where
  lt : ∀ e ∈ L, e.1 < 4
  nd : (L.map (·.1)).Nodup
def pat (l : Nat) : Int := if l = 0 then 0 else if l = 1 then 5000 else if l = 2 then 10000 else 60000
def overD (L : Sd) (now : Int) (l : Nat) : Bool := match look L l with | some t => decide (t + pat l ≤ now) | none => false
def lanesD (L : Sd) : List Nat := [0, 1, 2, 3].filter fun l => (look L l).isSome
def oversD (L : Sd) (now : Int) : List Nat := (lanesD L).filter (overD L now)
def passD (L : Sd) (now : Int) : List Nat := match (oversD L now).getLast? with | none => (lanesD L).take 1 | some m => (lanesD L).filter fun l => decide (l ≤ m)
def wholeD (L : Sd) (now : Int) : Bool := !(oversD L now).isEmpty
def wakeD (L : Sd) (l : Nat) (now : Int) : Sd := if (look L l).isSome then L else L ++ [(l, now)]
def wakeN (L : Sd) (l : Nat) (n : Int) : Int := if L.all (fun e => decide (l ≤ e.1)) then 0 else n
def endD (L : Sd) (P : List Nat) : Sd := L.filter fun e => !decide (e.1 ∈ P)
def pendD (L : Sd) : Sd := (lanesD L).map fun l => (l, (look L l).getD 0)
def kvsD (L : Sd) : List (Key × V) := L.map fun e => ((Sum.inl (e.1 : Int) : Key), V.int e.2)
theorem look_nil (l : Nat) : look [] l = none := rfl
theorem look_cons (e : Nat × Int) (L : Sd) (l : Nat) : look (e :: L) l = if e.1 = l then some e.2 else look L l := by
  unfold look
  rw [List.find?_cons]
  by_cases h : e.1 = l
  · simp [h]
  · simp [h]
theorem look_app (L : Sd) (e : Nat × Int) (l : Nat) : look (L ++ [e]) l = (look L l).or (if e.1 = l then some e.2 else none) := by
  induction L with
  | nil => rw [List.nil_append, look_cons, look_nil]; rfl
  | cons a L ih =>
    rw [List.cons_append, look_cons, look_cons, ih]
    by_cases h : a.1 = l
    · simp [h]
    · simp [h]
theorem look_mem {L : Sd} {l : Nat} {t : Int} (h : look L l = some t) : (l, t) ∈ L := by
  induction L with
  | nil => cases h
  | cons a L ih =>
    rw [look_cons] at h
    by_cases e : a.1 = l
    · rw [if_pos e] at h
      injection h with h
      have : a = (l, t) := by cases a; cases e; cases h; rfl
      rw [← this]
      exact List.mem_cons_self
    · rw [if_neg e] at h
      exact List.mem_cons_of_mem _ (ih h)
theorem look_of_mem {L : Sd} (nd : (L.map (·.1)).Nodup) {e : Nat × Int} (h : e ∈ L) : look L e.1 = some e.2 := by
  induction L with
  | nil => cases h
  | cons a L ih =>
    rw [look_cons]
    rw [List.map_cons, List.nodup_cons] at nd
    rcases List.mem_cons.mp h with rfl | h
    · rw [if_pos rfl]
    · rw [if_neg, ih nd.2 h]
      intro q
      exact nd.1 (List.mem_map.mpr ⟨e, h, q.symm⟩)
theorem look_none {L : Sd} {l : Nat} (h : look L l = none) : ∀ e ∈ L, e.1 ≠ l := by
  induction L with
  | nil => intro e he; cases he
  | cons a L ih =>
    rw [look_cons] at h
    by_cases e : a.1 = l
    · rw [if_pos e] at h; cases h
    · rw [if_neg e] at h
      intro x hx
      rcases List.mem_cons.mp hx with rfl | hx
      · exact e
      · exact ih h x hx
theorem look_some_lt {L : Sd} (O : OkD L) {l : Nat} (h : (look L l).isSome = true) : l < 4 := by
  cases e : look L l with
  | none => rw [e] at h; cases h
  | some t => exact O.lt _ (look_mem e)
theorem OkD.nil : OkD [] := ⟨fun e h => (by cases h), List.nodup_nil⟩
theorem OkD.wake {L : Sd} (O : OkD L) {l : Nat} (hl : l < 4) (now : Int) : OkD (wakeD L l now) := by
  unfold wakeD
  split
  · exact O
  · rename_i h
    have hn : look L l = none := by
      cases e : look L l with
      | none => rfl
      | some t => rw [e] at h; exact absurd rfl h
    refine ⟨fun e he => ?_, ?_⟩
    · rcases List.mem_append.mp he with he | he
      · exact O.lt _ he
      · rw [List.mem_singleton.mp he]; exact hl
    · rw [List.map_append, List.nodup_append]
      refine ⟨O.nd, by simp, fun a ha b hb => ?_⟩
      obtain ⟨e, he, rfl⟩ := List.mem_map.mp ha
      have : b = l := by simpa using hb
      rw [this]
      exact look_none hn e he
theorem look_wake {L : Sd} {l k : Nat} {now : Int} : look (wakeD L l now) k = if k = l then some ((look L l).getD now) else look L k := by
  unfold wakeD
  split
  · rename_i h
    split
    · rename_i e
      subst e
      cases q : look L k with
      | none => rw [q] at h; cases h
      | some t => rfl
    · rfl
  · rename_i h
    have hn : look L l = none := by
      cases e : look L l with
      | none => rfl
      | some t => rw [e] at h; exact absurd rfl h
    rw [look_app]
    by_cases e : k = l
    · subst e
      rw [if_pos rfl, hn, if_pos rfl]
      rfl
    · rw [if_neg e, if_neg fun q => e q.symm]
      cases look L k <;> rfl
theorem OkD.endd {L : Sd} (O : OkD L) (P : List Nat) : OkD (endD L P) :=
  ⟨fun e he => O.lt _ (List.mem_filter.mp he).1, O.nd.sublist (List.Sublist.map _ List.filter_sublist)⟩
theorem look_end {L : Sd} {P : List Nat} {k : Nat} : look (endD L P) k = if k ∈ P then none else look L k := by
  unfold endD
  induction L with
  | nil => rw [List.filter_nil, look_nil]; split <;> rfl
  | cons a L ih =>
    rw [List.filter_cons]
    by_cases h : a.1 ∈ P
    · rw [if_neg (by simp [h]), ih, look_cons]
      by_cases e : a.1 = k
      · rw [if_pos (by rw [← e]; exact h), if_pos (by rw [← e]; exact h)]
      · rw [if_neg e]
    · rw [if_pos (by simp [h]), look_cons, look_cons, ih]
      by_cases e : a.1 = k
      · rw [if_pos e, if_pos e, if_neg (by rw [← e]; exact h)]
      · rw [if_neg e, if_neg e]
theorem mem_lanes {L : Sd} (O : OkD L) {l : Nat} : l ∈ lanesD L ↔ (look L l).isSome = true := by
  unfold lanesD
  rw [List.mem_filter]
  refine ⟨fun h => h.2, fun h => ⟨?_, h⟩⟩
  have := look_some_lt O h
  simp
  omega
theorem lanes_sorted (L : Sd) : (lanesD L).Pairwise (· < ·) := List.Pairwise.sublist List.filter_sublist (by decide)
theorem eq_of_sorted : ∀ {a b : List Int}, a.Pairwise (· < ·) → b.Pairwise (· < ·) → (∀ x, x ∈ a ↔ x ∈ b) → a = b
  | [], [], _, _, _ => rfl
  | [], y :: b, _, _, h => absurd ((h y).mpr List.mem_cons_self) (by simp)
  | x :: a, [], _, _, h => absurd ((h x).mp List.mem_cons_self) (by simp)
  | x :: a, y :: b, ha, hb, h => by
    rw [List.pairwise_cons] at ha hb
    have e : x = y := by
      rcases Int.lt_trichotomy x y with q | q | q
      · rcases List.mem_cons.mp ((h x).mp List.mem_cons_self) with r | r
        · exact r
        · have := hb.1 _ r; omega
      · exact q
      · rcases List.mem_cons.mp ((h y).mpr List.mem_cons_self) with r | r
        · exact r.symm
        · have := ha.1 _ r; omega
    subst e
    rw [eq_of_sorted ha.2 hb.2 fun z => ⟨fun m => ?_, fun m => ?_⟩]
    · rcases List.mem_cons.mp ((h z).mp (List.mem_cons_of_mem _ m)) with r | r
      · have := ha.1 _ m; omega
      · exact r
    · rcases List.mem_cons.mp ((h z).mpr (List.mem_cons_of_mem _ m)) with r | r
      · have := hb.1 _ m; omega
      · exact r
theorem strict_of {a : List Int} (nd : a.Nodup) (h : a.Pairwise (· ≤ ·)) : a.Pairwise (· < ·) := by
  refine (nd.and h).imp fun {x y} q => ?_
  have := q.1
  have := q.2
  omega
theorem sorted_keys {L : Sd} (O : OkD L) {ns : List Int} (hp : ns.Perm (L.map fun e => (e.1 : Int))) (hs : ns.Pairwise (· ≤ ·)) : ns = (lanesD L).map fun (l : Nat) => (l : Int) := by
  have nd0 : (L.map fun e => (e.1 : Int)).Nodup := by
    have : (L.map fun e => (e.1 : Int)) = (L.map (·.1)).map (fun (n : Nat) => (n : Int)) := by rw [List.map_map]; rfl
    rw [this]
    exact List.Pairwise.map _ (fun a b h q => h (by omega)) O.nd
  refine eq_of_sorted (strict_of (hp.nodup_iff.mpr nd0) hs) ((lanes_sorted L).map _ fun a b h => by omega) fun x => ?_
  rw [hp.mem_iff, List.mem_map, List.mem_map]
  constructor
  · rintro ⟨e, he, rfl⟩
    exact ⟨e.1, (mem_lanes O).mpr (by rw [look_of_mem O.nd he]; rfl), rfl⟩
  · rintro ⟨l, hl, rfl⟩
    have h := (mem_lanes O).mp hl
    cases q : look L l with
    | none => rw [q] at h; cases h
    | some t => exact ⟨_, look_mem q, rfl⟩
theorem kvsD_len (L : Sd) : (kvsD L).length = L.length := by unfold kvsD; rw [List.length_map]
theorem OkD.len {L : Sd} (O : OkD L) : L.length ≤ 4 := by
  have h : ∀ (n : Nat) (xs : List Nat), (∀ x ∈ xs, x < n) → xs.Nodup → xs.length ≤ n := by
    intro n
    induction n with
    | zero =>
      intro xs h _
      cases xs with
      | nil => exact Nat.le_refl _
      | cons a xs => exact absurd (h a List.mem_cons_self) (Nat.not_lt_zero _)
    | succ n ih =>
      intro xs h nd
      have h1 : (xs.filter fun x => !decide (x = n)).length ≤ n := by
        refine ih _ (fun x hx => ?_) (nd.sublist List.filter_sublist)
        have := List.mem_filter.mp hx
        have h2 := h x this.1
        have h3 : x ≠ n := by simpa using this.2
        omega
      have h2 : xs.length ≤ (xs.filter fun x => !decide (x = n)).length + 1 := by
        clear h h1 ih
        induction xs with
        | nil => exact Nat.zero_le _
        | cons a xs ih2 =>
          rw [List.nodup_cons] at nd
          by_cases e : a = n
          · subst e
            have : xs.filter (fun x => !decide (x = a)) = xs := by
              rw [List.filter_eq_self]
              intro x hx
              have : x ≠ a := fun q => nd.1 (q ▸ hx)
              simpa using this
            rw [List.filter_cons, if_neg (by simp), this, List.length_cons]
            omega
          · rw [List.filter_cons, if_pos (by simp [e]), List.length_cons, List.length_cons]
            have := ih2 nd.2
            omega
      omega
  have := h 4 (L.map (·.1)) (fun x hx => by
    obtain ⟨e, he, rfl⟩ := List.mem_map.mp hx
    exact O.lt _ he) O.nd
  rw [List.length_map] at this
  exact this
theorem valV_kvsD (L : Sd) (l : Nat) : valV (kvsD L) (Sum.inl (l : Int) : Key) = (look L l).map V.int := by
  induction L with
  | nil => rfl
  | cons a L ih =>
    show valV (((Sum.inl (a.1 : Int) : Key), V.int a.2) :: kvsD L) _ = _
    rw [look_cons]
    by_cases e : a.1 = l
    · subst e
      rw [valV_pos rfl, if_pos rfl]
      rfl
    · rw [valV_neg (fun q => e (by have := Sum.inl.inj q; omega)), ih, if_neg e]
theorem kvsD_put {L : Sd} {l : Nat} {now : Int} (h : look L l = none) : putK (kvsD L) (Sum.inl (l : Int) : Key) (V.int now) = kvsD (L ++ [(l, now)]) := by
  rw [putK_new _ (by rw [valV_kvsD, h]; rfl)]
  unfold kvsD
  rw [List.map_append]
  rfl
theorem lanes_nil {L : Sd} (O : OkD L) : lanesD L = [] ↔ L = [] := by
  constructor
  · intro h
    cases L with
    | nil => rfl
    | cons a L =>
      have : a.1 ∈ lanesD (a :: L) := (mem_lanes O).mpr (by rw [look_cons, if_pos rfl]; rfl)
      rw [h] at this
      cases this
  · rintro rfl
    rfl
theorem lanes_len (L : Sd) : (lanesD L).length ≤ 4 := Nat.le_trans (List.length_filter_le _ _) (by decide)
theorem over_some {L : Sd} {now : Int} {l : Nat} (h : overD L now l = true) : (look L l).isSome = true := by
  unfold overD at h
  cases e : look L l with
  | none => rw [e] at h; cases h
  | some t => rfl
/-- a pass has all pending lanes above its last one -/
theorem pass_upper {L : Sd} (O : OkD L) {now : Int} {m : Nat} (hm : (passD L now).getLast? = some m) {l : Nat} (hl : l ∈ lanesD L) (hlt : l < m) : l ∈ passD L now := by
  unfold passD at hm ⊢
  cases q : (oversD L now).getLast? with
  | none =>
    rw [q] at hm
    dsimp only at hm ⊢
    cases e : lanesD L with
    | nil => rw [e] at hl; cases hl
    | cons a r =>
      rw [e] at hm hl
      have : a = m := by simpa using hm
      subst this
      have hs := lanes_sorted L
      rw [e, List.pairwise_cons] at hs
      rcases List.mem_cons.mp hl with rfl | h
      · omega
      · have := hs.1 _ h; omega
  | some k =>
    rw [q] at hm
    dsimp only at hm ⊢
    have h1 : m ∈ (lanesD L).filter fun l => decide (l ≤ k) := List.mem_of_getLast? hm
    have h2 : m ≤ k := of_decide_eq_true (List.mem_filter.mp h1).2
    exact List.mem_filter.mpr ⟨hl, decide_eq_true (by omega)⟩
theorem pass_sub {L : Sd} {now : Int} {l : Nat} (h : l ∈ passD L now) : l ∈ lanesD L := by
  unfold passD at h
  split at h
  · exact List.mem_of_mem_take h
  · exact (List.mem_filter.mp h).1
theorem pass_ne {L : Sd} {now : Int} (h : lanesD L ≠ []) : passD L now ≠ [] := by
  unfold passD
  cases q : (oversD L now).getLast? with
  | none =>
    cases e : lanesD L with
    | nil => exact absurd e h
    | cons a r => simp
  | some k =>
    have hk : k ∈ oversD L now := List.mem_of_getLast? q
    have : k ∈ (lanesD L).filter fun l => decide (l ≤ k) := List.mem_filter.mpr ⟨(List.mem_filter.mp hk).1, decide_eq_true (Nat.le_refl _)⟩
    intro e
    dsimp only at e
    rw [e] at this
    cases this
theorem end_len {L : Sd} {P : List Nat} {l : Nat} (h : (look L l).isSome = true) (hp : l ∈ P) : (endD L P).length < L.length := by
  unfold endD
  cases e : look L l with
  | none => rw [e] at h; cases h
  | some t =>
    have hm := look_mem e
    clear h e
    induction L with
    | nil => cases hm
    | cons a L ih =>
      rw [List.filter_cons]
      rcases List.mem_cons.mp hm with rfl | hm
      · rw [if_neg (by simp [hp])]
        exact Nat.lt_succ_of_le (List.length_filter_le _ _)
      · have := ih hm
        split
        · rw [List.length_cons, List.length_cons]; omega
        · rw [List.length_cons]; omega
end VL
namespace VL
open PySem PySem.Spec PyProof.Rows L2
theorem m2_ofs : True := trivial
/-! ### dict comprehensions over any walk; dicts read while locked -/
theorem dc_it {J : It} {n : Nat} {G : Hp → Prop} {Y : Nat → Hp → V → Hp → Prop} (w : Walk J n G Y) {g : TG} {tt : TT} {tk tv : TE} {vs : List Nat} {σ : L2.St} {H1 : Hp} {D : Addr} {Qd : Hp → Prop} (Pv : Nat → Hp → Prop) (h0 : Pv 0 (upd H1 D (.dK []))) (hG : ∀ i H, i ≤ n → Pv i H → G H)
    (hs : ∀ i x H H', i < n → Pv i H → Y i H x H' → g x (wipe σ vs) H' fun σ2 H2 => wipe σ2 vs = wipe σ vs ∧ tt σ2 H2 fun b H3 =>
      if b = true then tk σ2 H3 fun y H4 => tv σ2 H4 fun z H5 => ∃ kvs k, y = kV k ∧ H5 D = some (.dK kvs) ∧ kvs.length < sizeLine ∧ Pv (i + 1) (upd H5 D (.dK (putK kvs k z))) else Pv (i + 1) H3) (hd : ∀ H, Pv n H → Qd H) :
    ∃ W : Nat → Nat → Hp → Prop, (∃ m, W 0 m (upd H1 D (.dK []))) ∧ ∀ i m H, W i m H →
      (J.stop i H ∧ Qd H) ∨ (J.go i H ∧ ∃ Nx : Hp → Prop, (∀ H', Nx H' → ∃ m', m' < m ∧ W (i + 1) m' H') ∧ ∀ x H', J.yld i H x H' → g x (wipe σ vs) H' fun σ2 H2 => wipe σ2 vs = wipe σ vs ∧ tt σ2 H2 fun b H3 =>
        if b = true then tk σ2 H3 fun y H4 => tv σ2 H4 fun z H5 => ∃ kvs k, y = kV k ∧ H5 D = some (.dK kvs) ∧ kvs.length < sizeLine ∧ Nx (upd H5 D (.dK (putK kvs k z))) else Nx H3) := by
  refine ⟨fun i m H => m = n - i ∧ i ≤ n ∧ Pv i H, ⟨n, by simp, Nat.zero_le _, h0⟩, ?_⟩
  rintro i m H ⟨rfl, hi, p⟩
  have q := hG i H hi p
  by_cases hlt : i < n
  · refine .inr ⟨w.goes i H hlt q, Pv (i + 1), fun H' p' => ⟨n - (i + 1), by omega, rfl, hlt, p'⟩, fun x H' y => hs i x H H' hlt p (w.yields i H x H' hlt q y)⟩
  · have e : i = n := by omega
    subst e
    exact .inl ⟨w.stops H q, hd H p⟩
theorem DGet.kf {H : Hp} {a : Addr} {o : Obj} {kvs : List (Key × V)} {k : Key} (e : H a = some (.frz o (.dK kvs))) : DGet H a (kV k) (valV kvs k) := .inl ⟨kvs, k, .inr ⟨o, e⟩, rfl, rfl⟩
theorem unlock_eq {H : Hp} {D d : Addr} {x y u : HO} (h : D ≠ d) (hd : H d = some u) : upd (upd (upd H d x) D y) d u = upd H D y := by
  funext b
  by_cases e : b = d
  · subst e
    rw [upd_same, upd_ne h.symm, hd]
  · rw [upd_ne e]
    by_cases e2 : b = D
    · subst e2
      rw [upd_same, upd_same]
    · rw [upd_ne e2, upd_ne e2, upd_ne e]
theorem wakeN_eq (L : Sd) (l : Nat) (n : Int) : wakeN L l n = if ((L.filter fun e => decide (e.1 < l)).map fun e => V.int (e.1 : Int)).isEmpty = true then 0 else n := by
  unfold wakeN
  have : L.all (fun e => decide (l ≤ e.1)) = ((L.filter fun e => decide (e.1 < l)).map fun e => V.int (e.1 : Int)).isEmpty := by
    induction L with
    | nil => rfl
    | cons a L ih =>
      rw [List.all_cons, List.filter_cons, ih]
      by_cases h : a.1 < l
      · rw [decide_eq_false (by omega), if_pos (decide_eq_true h)]
        rfl
      · rw [decide_eq_true (by omega), if_neg (by simp; omega)]
        rfl
  rw [this]
theorem take_filter {α β : Type} {L : List α} {p : α → Bool} {f : α → β} {i : Nat} (hi : i < L.length) : ((L.take (i + 1)).filter p).map f = ((L.take i).filter p).map f ++ if p L[i] = true then [f L[i]] else [] := by
  rw [List.take_add_one, List.getElem?_eq_getElem hi, List.filter_append, List.map_append]
  congr 1
  show (List.filter p [L[i]]).map f = _
  rw [List.filter_cons]
  split <;> rfl
theorem inV_l (l : Nat) : ∀ P : List Nat, inV (.int (l : Int)) (P.map fun (k : Nat) => V.int (k : Int)) = decide (l ∈ P)
  | [] => rfl
  | a :: P => by
    show (eqV (.int (a : Int)) (.int (l : Int)) || inV (.int (l : Int)) (P.map fun (k : Nat) => V.int (k : Int))) = _
    rw [inV_l l P]
    show (((a : Int) == (l : Int)) || decide (l ∈ P)) = decide (l ∈ a :: P)
    by_cases e : a = l
    · subst e
      simp
    · have e2 : l ≠ a := fun q => e q.symm
      have e3 : ((a : Int) == (l : Int)) = false := beq_eq_false_iff_ne.mpr (by omega)
      simp [e2, e3]
theorem flat_l : ∀ P : List Nat, (P.map fun (k : Nat) => V.int (k : Int)).all flatV = true
  | [] => rfl
  | a :: P => by
    show (true && (P.map fun (k : Nat) => V.int (k : Int)).all flatV) = true
    rw [flat_l P]
    rfl
theorem endD_snoc {L : Sd} {P : List Nat} {i : Nat} (hi : i < L.length) : endD (L.take (i + 1)) P = if L[i].1 ∈ P then endD (L.take i) P else endD (L.take i) P ++ [L[i]] := by
  unfold endD
  rw [List.take_add_one, List.getElem?_eq_getElem hi, List.filter_append]
  show _ ++ List.filter _ [L[i]] = _
  by_cases h : L[i].1 ∈ P
  · rw [if_pos h, List.filter_cons, if_neg (by simp [h])]
    simp
  · rw [if_neg h, List.filter_cons, if_pos (by simp [h])]
    rfl
theorem look_take {L : Sd} (nd : (L.map (·.1)).Nodup) {P : List Nat} {i : Nat} (hi : i < L.length) : look (endD (L.take i) P) L[i].1 = none := by
  cases e : look (endD (L.take i) P) L[i].1 with
  | none => rfl
  | some t =>
    exfalso
    have hm := (List.mem_filter.mp (look_mem e)).1
    obtain ⟨j, hj, ej⟩ := List.getElem_of_mem hm
    have hj2 : j < i := by rw [List.length_take] at hj; omega
    have e1 : (L.map (·.1))[j]'(by rw [List.length_map]; omega) = (L.map (·.1))[i]'(by rw [List.length_map]; exact hi) := by
      rw [List.getElem_map, List.getElem_map]
      rw [List.getElem_take] at ej
      rw [ej]
    exact (List.pairwise_iff_getElem.mp nd) j i _ _ hj2 e1
theorem last_at {α : Type} {xs : List α} {x : α} : atI (xs ++ [x]) (-1) = some x := by
  unfold atI ixN
  rw [if_neg (by decide), if_pos (by rw [List.length_append]; simp; omega)]
  show (xs ++ [x])[_]? = _
  have e : (-1 + ((xs ++ [x]).length : Int)).toNat = xs.length := by rw [List.length_append]; simp; omega
  rw [e]
  simp
theorem at_last {l : List Nat} {m : Nat} (h : l.getLast? = some m) : atI (l.map fun (k : Nat) => V.int (k : Int)) (-1) = some (.int (m : Int)) := by
  obtain ⟨ys, e⟩ := List.getLast?_eq_some_iff.mp h
  rw [e, List.map_append]
  exact last_at
theorem cut_one (xs : List V) : cutV xs none (some 1) = xs.take 1 := by
  cases xs with
  | nil => rfl
  | cons a r =>
    unfold cutV
    have h1 : HT.sIx (a :: r).length 0 none = 0 := rfl
    have h2 : HT.sIx (a :: r).length (a :: r).length (some 1) = 1 := by
      unfold HT.sIx
      simp
    rw [h1, h2]
    rfl
theorem eq_of_sortedK {α : Type} {f : α → Int} : ∀ {a b : List α}, a.Pairwise (fun x y => f x < f y) → b.Pairwise (fun x y => f x < f y) → (∀ x, x ∈ a ↔ x ∈ b) → a = b
  | [], [], _, _, _ => rfl
  | [], y :: b, _, _, h => absurd ((h y).mpr List.mem_cons_self) (by simp)
  | x :: a, [], _, _, h => absurd ((h x).mp List.mem_cons_self) (by simp)
  | x :: a, y :: b, ha, hb, h => by
    rw [List.pairwise_cons] at ha hb
    have e : x = y := by
      rcases List.mem_cons.mp ((h x).mp List.mem_cons_self) with r | r
      · exact r
      · rcases List.mem_cons.mp ((h y).mpr List.mem_cons_self) with r2 | r2
        · exact r2.symm
        · have h1 := hb.1 _ r
          have h2 := ha.1 _ r2
          omega
    subst e
    rw [eq_of_sortedK ha.2 hb.2 fun z => ⟨fun m => ?_, fun m => ?_⟩]
    · rcases List.mem_cons.mp ((h z).mp (List.mem_cons_of_mem _ m)) with r | r
      · have := ha.1 _ m; rw [r] at this; omega
      · exact r
    · rcases List.mem_cons.mp ((h z).mpr (List.mem_cons_of_mem _ m)) with r | r
      · have := hb.1 _ m; rw [r] at this; omega
      · exact r
def cstE (e : Nat × Int) : Int × Int := ((e.1 : Int), e.2)
theorem pend_sorted {L : Sd} (O : OkD L) {A : List (Int × Int)} (hp : A.Perm (L.map cstE)) (hs : A.Pairwise fun x y => SrtO.lexB y x = false) : A = (pendD L).map cstE := by
  have nd0 : (L.map cstE).Pairwise (fun x y => x.1 ≠ y.1) := by
    have h := O.nd
    unfold List.Nodup at h
    rw [List.pairwise_map] at h
    rw [List.pairwise_map]
    exact h.imp fun {a b} q => by show (a.1 : Int) ≠ (b.1 : Int); omega
  have nd1 : A.Pairwise (fun x y => x.1 ≠ y.1) := hp.symm.pairwise nd0 fun {x y} h => Ne.symm h
  refine eq_of_sortedK (f := Prod.fst) ((hs.and nd1).imp fun {x y} q => ?_) ?_ fun x => ?_
  · have h1 := q.1
    have h2 := q.2
    unfold SrtO.lexB at h1
    rw [if_neg (fun e => h2 e.symm)] at h1
    have := of_decide_eq_false h1
    omega
  · unfold pendD
    rw [List.map_map]
    exact List.Pairwise.map _ (fun a b h => by show (a : Int) < (b : Int); omega) (lanes_sorted L)
  · rw [hp.mem_iff]
    unfold pendD
    rw [List.map_map, List.mem_map, List.mem_map]
    constructor
    · rintro ⟨e, he, rfl⟩
      have := look_of_mem O.nd he
      refine ⟨e.1, (mem_lanes O).mpr (by rw [this]; rfl), ?_⟩
      show cstE (e.1, (look L e.1).getD 0) = _
      rw [this]
      rfl
    · rintro ⟨l, hl, rfl⟩
      have h := (mem_lanes O).mp hl
      cases q : look L l with
      | none => rw [q] at h; cases h
      | some t =>
        refine ⟨_, look_mem q, ?_⟩
        show _ = cstE (l, (look L l).getD 0)
        rw [q]
        rfl
/-- the pair at an address -/
def kapH (H : Hp) (v : V) : Int × Int := match v with
  | .ref t => match H t with | some (.tup [.int i, .int j]) => (i, j) | _ => (0, 0)
  | _ => (0, 0)
theorem kapH_at {H : Hp} {t : Addr} {i j : Int} (h : H t = some (.tup [.int i, .int j])) : kapH H (.ref t) = (i, j) := by
  show (match H t with | some (.tup [.int i, .int j]) => (i, j) | _ => (0, 0)) = _
  rw [h]
theorem paired_kap {H : Hp} : ∀ {ys : List V} {B : List (Nat × Int)}, (∀ y ∈ ys, ∃ t, y = .ref t ∧ H t = some (.tup [.int (kapH H y).1, .int (kapH H y).2])) → ys.map (kapH H) = B.map cstE →
    ∃ ts : List Addr, ys = ts.map V.ref ∧ Paired (fun t (e : Nat × Int) => H t = some (.tup [.int (e.1 : Int), .int e.2])) ts B
  | [], [], _, _ => ⟨[], rfl, .nil⟩
  | [], b :: B, _, e => by cases e
  | y :: ys, [], _, e => by cases e
  | y :: ys, b :: B, h, e => by
    injection e with e1 e2
    obtain ⟨ts, e3, pr⟩ := paired_kap (fun z hz => h z (List.mem_cons_of_mem _ hz)) e2
    obtain ⟨t, e4, e5⟩ := h y List.mem_cons_self
    rw [e1] at e5
    exact ⟨t :: ts, by rw [e4, e3]; rfl, .cons e5 pr⟩
theorem kap_of_paired {H : Hp} : ∀ {ts : List Addr} {L : Sd}, Paired (fun t (q : Key × V) => H t = some (.tup [kV q.1, q.2])) ts (kvsD L) → (ts.map V.ref).map (kapH H) = L.map cstE ∧ ∀ y ∈ ts.map V.ref, ∃ t, y = .ref t ∧ H t = some (.tup [.int (kapH H y).1, .int (kapH H y).2])
  | [], [], _ => ⟨rfl, fun y hy => by cases hy⟩
  | [], e :: L, h => by cases h
  | t :: ts, [], h => by cases h
  | t :: ts, e :: L, h => by
    cases h with
    | cons r rr =>
      obtain ⟨e1, e2⟩ := kap_of_paired (L := L) rr
      have r' : H t = some (.tup [.int (e.1 : Int), .int e.2]) := r
      refine ⟨?_, fun y hy => ?_⟩
      · show kapH H (.ref t) :: (ts.map V.ref).map (kapH H) = cstE e :: L.map cstE
        rw [e1, kapH_at r']
        rfl
      · rcases List.mem_cons.mp hy with rfl | hy
        · exact ⟨t, rfl, by rw [kapH_at r']; exact r'⟩
        · exact e2 y hy
/-! ### a schedule on the heap -/
def fsD (d : Addr) (n : Int) : List (Str × V) := [("ticks", .ref d), ("portions", .int n)]
theorem fsD_ticks (d : Addr) (n : Int) : (fsD d n).lookup ("ticks" : Str) = some (.ref d) := by rfl
theorem fsD_portions (d : Addr) (n : Int) : (fsD d n).lookup ("portions" : Str) = some (.int n) := by rfl
theorem putD_ticks (d d' : Addr) (n : Int) : putF "ticks" (.ref d') (fsD d n) = fsD d' n := by rfl
theorem putD_portions (d : Addr) (n n' : Int) : putF "portions" (.int n') (fsD d n) = fsD d n' := by rfl
/-- a schedule stands at p, its dict at d -/
structure SchA (C : Addr) (H : Hp) (p d : Addr) (L : Sd) (n : Int) : Prop where
  ob : ∃ dx, H p = some (.ins C dx (fsD d n))
  dc : H d = some (.dK (kvsD L))
  ok : OkD L
/-- all but p and d is kept -/
def K2 (p d : Addr) (H H' : Hp) : Prop := ∀ b o, H b = some o → b ≠ p → b ≠ d → H' b = some o
theorem K2.refl {p d : Addr} {H : Hp} : K2 p d H H := fun _ _ e _ _ => e
theorem SchA.same {C p d : Addr} {H H' : Hp} {L : Sd} {n : Int} (S : SchA C H p d L n) (s : Same H H') : SchA C H' p d L n := by
  obtain ⟨⟨dx, h⟩, h2, ok⟩ := S
  exact ⟨⟨dx, s _ _ h⟩, s _ _ h2, ok⟩
theorem SchA.pd {C p d : Addr} {H : Hp} {L : Sd} {n : Int} (S : SchA C H p d L n) : p ≠ d := by
  obtain ⟨⟨dx, h⟩, h2, ok⟩ := S
  exact ne_of h h2 (by intro e; cases e)
/-- what is no instance and no dict is kept -/
theorem K2.lst {C p d a : Addr} {H H' : Hp} {L : Sd} {n : Int} (k : K2 p d H H') (S : SchA C H p d L n) {xs : List V} (h : H a = some (.lst xs)) : H' a = some (.lst xs) := by
  obtain ⟨⟨dx, h1⟩, h2, _⟩ := S
  exact k _ _ h (ne_of h h1 (by intro e; cases e)) (ne_of h h2 (by intro e; cases e))
theorem K2.tup {C p d a : Addr} {H H' : Hp} {L : Sd} {n : Int} (k : K2 p d H H') (S : SchA C H p d L n) {xs : List V} (h : H a = some (.tup xs)) : H' a = some (.tup xs) := by
  obtain ⟨⟨dx, h1⟩, h2, _⟩ := S
  exact k _ _ h (ne_of h h1 (by intro e; cases e)) (ne_of h h2 (by intro e; cases e))
def lV (l : Nat) : V := .int (l : Int)
/-! ### promises -/
def spSInit (C : Addr) : Sp := fun vs H Q _ => ∃ (p dx : Addr), vs = [.ref p] ∧ H p = some (.ins C dx []) ∧ ∀ d H', H d = none → SchA C H' p d [] 0 → (∀ b o, H b = some o → b ≠ p → H' b = some o) → Q .non H'
def spSHas (C : Addr) : Sp := fun vs H Q _ => ∃ (p d : Addr) (L : Sd) (n : Int) (l : Nat), vs = [.ref p, lV l] ∧ SchA C H p d L n ∧ Q (.bl (look L l).isSome) H
def spSWake (C : Addr) : Sp := fun vs H Q _ => ∃ (p d : Addr) (L : Sd) (n : Int) (l : Nat) (now : Int), vs = [.ref p, lV l, .int now] ∧ SchA C H p d L n ∧ l < 4 ∧ ∀ v H', SchA C H' p d (wakeD L l now) (wakeN L l n) → K2 p d H H' → Q v H'
def spSOver (C : Addr) : Sp := fun vs H Q _ => ∃ (p d : Addr) (L : Sd) (n : Int) (l : Nat) (now : Int), vs = [.ref p, lV l, .int now] ∧ SchA C H p d L n ∧ l < 4 ∧ Q (.bl (overD L now l)) H
def spSNext (C : Addr) : Sp := fun vs H Q _ => ∃ (p d : Addr) (L : Sd) (n : Int) (now : Int), vs = [.ref p, .int now] ∧ SchA C H p d L n ∧ (lanesD L = [] → ∀ H', Same H H' → Q .non H') ∧
  (lanesD L ≠ [] → ∀ t li H', Same H H' → H t = none → H li = none → H' t = some (.tup [.ref li, .bl (wholeD L now)]) → H' li = some (.lst ((passD L now).map lV)) → Q (.ref t) H')
def spSPortion (C : Addr) : Sp := fun vs H Q _ => ∃ (p d : Addr) (L : Sd) (n cost : Int), vs = [.ref p, .int cost] ∧ SchA C H p d L n ∧ ∀ H', SchA C H' p d L (if L = [] then n else n + 1) → K2 p d H H' → Q (.bl (decide (cost ≤ (if L = [] then n else n + 1)))) H'
def spSEnd (C : Addr) (K : PySem.W.Frag) : Sp := fun vs H Q _ => ∃ (p d la : Addr) (L : Sd) (n : Int) (P : List Nat), vs = [.ref p, .ref la] ∧ SchA C H p d L n ∧ SqL K H la (P.map lV) ∧ ∀ d' H', SchA C H' p d' (endD L P) 0 → K2 p d H H' → H d' = none → Q .non H'
def spSPending (C : Addr) : Sp := fun vs H Q _ => ∃ (p d : Addr) (L : Sd) (n : Int), vs = [.ref p] ∧ SchA C H p d L n ∧ ∀ r (ts : List Addr) H', Same H H' → H r = none → (∀ t ∈ ts, H t = none) → r ∉ ts → H' r = some (.lst (ts.map V.ref)) → Paired (fun t (e : Nat × Int) => H' t = some (.tup [lV e.1, .int e.2])) ts (pendD L) → Q (.ref r) H'
def spSDone (C : Addr) : Sp := fun vs H Q _ => ∃ (p d : Addr) (L : Sd) (n : Int), vs = [.ref p] ∧ SchA C H p d L n ∧ Q (.int n) H

/-! ### what k37 asks -/
theorem pendD_fst (L : Sd) : (pendD L).map (·.1) = lanesD L := by
  unfold pendD
  rw [List.map_map]
  exact List.map_id _
theorem lanes_cons {L : Sd} {m : Nat} {r : List Nat} (h : lanesD L = m :: r) : ∃ r', pendD L = (m, (look L m).getD 0) :: r' := ⟨r.map fun l => (l, (look L l).getD 0), by unfold pendD; rw [h]; rfl⟩
theorem lanes_min {L : Sd} (O : OkD L) {m : Nat} {r : List Nat} (h : lanesD L = m :: r) : ∀ e ∈ L, m ≤ e.1 := fun e he => by
  have hl : e.1 ∈ lanesD L := (mem_lanes O).mpr (by rw [look_of_mem O.nd he]; rfl)
  have hs := lanes_sorted L
  rw [h] at hl hs
  rw [List.pairwise_cons] at hs
  rcases List.mem_cons.mp hl with q | q
  · omega
  · have := hs.1 _ q; omega
theorem wakeN_min {L : Sd} (O : OkD L) {m : Nat} {r : List Nat} (h : lanesD L = m :: r) (l : Nat) (n : Int) : wakeN L l n = if l ≤ m then 0 else n := by
  unfold wakeN
  by_cases q : l ≤ m
  · rw [if_pos q, if_pos]
    rw [List.all_eq_true]
    intro e he
    exact decide_eq_true (Nat.le_trans q (lanes_min O h e he))
  · rw [if_neg q, if_neg]
    intro z
    rw [List.all_eq_true] at z
    have hm : m ∈ lanesD L := by rw [h]; exact List.mem_cons_self
    have h1 := (mem_lanes O).mp hm
    cases e : look L m with
    | none => rw [e] at h1; cases h1
    | some t =>
      have := of_decide_eq_true (z _ (look_mem e))
      exact q this
theorem lanes_wake {L : Sd} {l : Nat} {now : Int} : lanesD (wakeD L l now) = [0, 1, 2, 3].filter fun k => (look L k).isSome || decide (k = l) := by
  unfold lanesD
  refine List.filter_congr fun k _ => ?_
  rw [look_wake]
  by_cases e : k = l
  · rw [if_pos e, decide_eq_true e]; simp
  · rw [if_neg e, decide_eq_false e]; simp
theorem mem_pend {L : Sd} (O : OkD L) {l : Nat} {t : Int} : (l, t) ∈ pendD L ↔ look L l = some t := by
  unfold pendD
  rw [List.mem_map]
  constructor
  · rintro ⟨k, hk, e⟩
    injection e with e1 e2
    subst e1
    have := (mem_lanes O).mp hk
    cases q : look L k with
    | none => rw [q] at this; cases this
    | some t' => rw [q] at e2; rw [← e2]; rfl
  · intro e
    exact ⟨l, (mem_lanes O).mpr (by rw [e]; rfl), by rw [e]; rfl⟩
theorem pend_wake {L : Sd} (O : OkD L) {l : Nat} (hl : l < 4) {now : Int} : (pendD (wakeD L l now)).filter (fun e => decide (e ∈ pendD L)) = pendD L := by
  have O' := O.wake hl now
  have h1 : (pendD (wakeD L l now)).Pairwise (fun a b => (a.1 : Int) < (b.1 : Int)) := by
    unfold pendD
    exact List.Pairwise.map _ (fun a b h => by show (a : Int) < (b : Int); omega) (lanes_sorted _)
  have h2 : (pendD L).Pairwise (fun a b => (a.1 : Int) < (b.1 : Int)) := by
    unfold pendD
    exact List.Pairwise.map _ (fun a b h => by show (a : Int) < (b : Int); omega) (lanes_sorted _)
  refine eq_of_sortedK (f := fun e => (e.1 : Int)) (h1.sublist List.filter_sublist) h2 fun e => ?_
  rw [List.mem_filter]
  refine ⟨fun h => of_decide_eq_true h.2, fun h => ⟨?_, decide_eq_true h⟩⟩
  obtain ⟨k, t⟩ := e
  have h3 := (mem_pend O).mp h
  refine (mem_pend O').mpr ?_
  rw [look_wake]
  by_cases q : k = l
  · subst q
    rw [if_pos rfl, h3]
    rfl
  · rw [if_neg q, h3]
theorem pend_end {L : Sd} (O : OkD L) (P : List Nat) : pendD (endD L P) = (pendD L).filter fun e => !decide (e.1 ∈ P) := by
  have O' := O.endd P
  have h1 : (pendD (endD L P)).Pairwise (fun a b => (a.1 : Int) < (b.1 : Int)) := by
    unfold pendD
    exact List.Pairwise.map _ (fun a b h => by show (a : Int) < (b : Int); omega) (lanes_sorted _)
  have h2 : (pendD L).Pairwise (fun a b => (a.1 : Int) < (b.1 : Int)) := by
    unfold pendD
    exact List.Pairwise.map _ (fun a b h => by show (a : Int) < (b : Int); omega) (lanes_sorted _)
  refine eq_of_sortedK (f := fun e => (e.1 : Int)) h1 (h2.sublist List.filter_sublist) fun e => ?_
  obtain ⟨k, t⟩ := e
  rw [List.mem_filter, mem_pend O', mem_pend O, look_end]
  by_cases q : k ∈ P
  · simp [q]
  · simp [q]
theorem overs_some {L : Sd} (O : OkD L) {now : Int} {l : Nat} (h : overD L now l = true) : ∃ m, (oversD L now).getLast? = some m ∧ l ≤ m ∧ overD L now m = true ∧ m ∈ lanesD L := by
  have hl : l ∈ oversD L now := List.mem_filter.mpr ⟨(mem_lanes O).mpr (over_some h), h⟩
  cases e : (oversD L now).getLast? with
  | none => rw [List.getLast?_eq_none_iff.mp e] at hl; cases hl
  | some m =>
    have hm : m ∈ oversD L now := List.mem_of_getLast? e
    refine ⟨m, rfl, ?_, (List.mem_filter.mp hm).2, (List.mem_filter.mp hm).1⟩
    obtain ⟨ys, ey⟩ := List.getLast?_eq_some_iff.mp e
    have hs : (oversD L now).Pairwise (· < ·) := (lanes_sorted L).sublist List.filter_sublist
    rw [ey] at hl hs
    rcases List.mem_append.mp hl with q | q
    · have := (List.pairwise_append.mp hs).2.2 _ q m (by simp)
      omega
    · rw [List.mem_singleton.mp q]; exact Nat.le_refl _
theorem pass_whole {L : Sd} {now : Int} {m : Nat} (e : (oversD L now).getLast? = some m) : passD L now = (lanesD L).filter (fun l => decide (l ≤ m)) ∧ wholeD L now = true := by
  constructor
  · unfold passD; rw [e]
  · unfold wholeD
    cases q : oversD L now with
    | nil => rw [q] at e; cases e
    | cons a r => rfl
theorem last_filter : ∀ {l : List Nat} {m : Nat}, l.Pairwise (· < ·) → m ∈ l → (l.filter fun k => decide (k ≤ m)).getLast? = some m
  | [], _, _, h => by cases h
  | a :: l, m, hs, h => by
    rw [List.pairwise_cons] at hs
    rcases List.mem_cons.mp h with rfl | h
    · have : l.filter (fun k => decide (k ≤ m)) = [] := by
        rw [List.filter_eq_nil_iff]
        intro k hk q
        have := hs.1 _ hk
        have := of_decide_eq_true q
        omega
      rw [List.filter_cons, if_pos (by simp), this]
      rfl
    · have := hs.1 _ h
      rw [List.filter_cons, if_pos (decide_eq_true (by omega)), List.getLast?_cons, last_filter hs.2 h]
      rfl
theorem pass_last {L : Sd} {now : Int} {m : Nat} (e : (oversD L now).getLast? = some m) : (passD L now).getLast? = some m := by
  rw [(pass_whole e).1]
  exact last_filter (lanes_sorted L) (List.mem_filter.mp (List.mem_of_getLast? e)).1
theorem wake_zero {L : Sd} (h : look L 0 = none) {late : Int} {m : Nat} (e : (oversD L late).getLast? = some m) : passD (wakeD L 0 late) late = 0 :: passD L late ∧ wholeD (wakeD L 0 late) late = true := by
  have h1 : lanesD (wakeD L 0 late) = 0 :: lanesD L := by
    rw [lanes_wake]
    unfold lanesD
    rw [List.filter_cons, if_pos (by simp), List.filter_cons (x := 0), if_neg (by rw [h]; exact Bool.false_ne_true)]
    congr 1
    refine List.filter_congr fun k hk => ?_
    have : k ≠ 0 := by
      simp at hk
      omega
    rw [decide_eq_false this, Bool.or_false]
  have h2 : oversD (wakeD L 0 late) late = 0 :: oversD L late := by
    unfold oversD
    rw [h1, List.filter_cons, if_pos]
    · congr 1
      refine List.filter_congr fun k hk => ?_
      have hk0 : k ≠ 0 := by
        rintro rfl
        have := (List.mem_filter.mp hk).2
        rw [h] at this
        cases this
      unfold overD
      rw [look_wake, if_neg hk0]
    · unfold overD
      rw [look_wake, if_pos rfl, h]
      exact decide_eq_true (Int.le_of_eq (Int.add_zero late))
  have h3 : (oversD (wakeD L 0 late) late).getLast? = some m := by
    rw [h2, List.getLast?_cons, e]
    rfl
  refine ⟨?_, (pass_whole h3).2⟩
  rw [(pass_whole h3).1, (pass_whole e).1, h1, List.filter_cons, if_pos (by simp)]
end VL

set_option Elab.async false
set_option linter.all false
set_option maxRecDepth 100000
set_option maxHeartbeats 4000000
namespace VL
open PySem PySem.Spec PyProof.Rows L2

def top (i : Nat) : Stmt := PySem.Challenge.pw_viewloom_k37_present_passes.main.body.getD i (.Pass ⟨0, 0, 0, 0⟩)
abbrev s__wall : Stmt := top 0
abbrev s_Schedule___init__ : Stmt := inClass (top 2) 6
abbrev s_Schedule_pending : Stmt := inClass (top 2) 7
abbrev s_Schedule_done : Stmt := inClass (top 2) 8
abbrev s_Schedule___contains__ : Stmt := inClass (top 2) 9
abbrev s_Schedule_wake : Stmt := inClass (top 2) 10
abbrev s_Schedule_is_overdue : Stmt := inClass (top 2) 11
abbrev s_Schedule_next_pass : Stmt := inClass (top 2) 12
abbrev s_Schedule_portion : Stmt := inClass (top 2) 13
abbrev s_Schedule_give_up : Stmt := inClass (top 2) 14
abbrev s_Schedule_end : Stmt := inClass (top 2) 15
abbrev s_Schedule_clear : Stmt := inClass (top 2) 16
abbrev s__law_cell : Stmt := top 4
abbrev s__law_is_integer : Stmt := top 5
abbrev s__law_start : Stmt := top 6
abbrev s__law_digit : Stmt := top 7
abbrev s_law : Stmt := top 8
abbrev t_Schedule_PATIENCE : List V := [(V.int 0), (V.int 5000), (V.int 10000), (V.int 60000)]
abbrev t_Schedule_NAMES : List V := [(V.str "sync"), (V.str "usual"), (V.str "transition"), (V.str "idle")]
structure Ad where
  u0 : Unit
  Schedule : Addr
structure Txt (K : PySem.W.Frag) (w : World) (mg : Str → Option Value) (C : Ad) : Prop where
  g_Schedule : GV mg "Schedule" (.ref C.Schedule)
  cl_Schedule : Cls K C.Schedule
  n_Schedule_ticks : NoAttr K C.Schedule "ticks"
  n_Schedule_portions : NoAttr K C.Schedule "portions"
  rd_Schedule : ClX.CRead K C.Schedule (.type "type")
  cc_Schedule_SYNC : ∃ u, ClX.CVal K C.Schedule (.type "type") "SYNC" (V.int 0) u ∧ Con K C.Schedule "SYNC" (V.int 0) u
  cc_Schedule_USUAL : ∃ u, ClX.CVal K C.Schedule (.type "type") "USUAL" (V.int 1) u ∧ Con K C.Schedule "USUAL" (V.int 1) u
  cc_Schedule_TRANSITION : ∃ u, ClX.CVal K C.Schedule (.type "type") "TRANSITION" (V.int 2) u ∧ Con K C.Schedule "TRANSITION" (V.int 2) u
  cc_Schedule_IDLE : ∃ u, ClX.CVal K C.Schedule (.type "type") "IDLE" (V.int 3) u ∧ Con K C.Schedule "IDLE" (V.int 3) u
  cc_Schedule_PATIENCE : ∃ a u, ClX.CVal K C.Schedule (.type "type") "PATIENCE" (.ref a) u ∧ Con K C.Schedule "PATIENCE" (.ref a) u ∧ (∀ H, SqT K H a t_Schedule_PATIENCE) ∧ WrT K a t_Schedule_PATIENCE
  cc_Schedule_NAMES : ∃ a u, ClX.CVal K C.Schedule (.type "type") "NAMES" (.ref a) u ∧ Con K C.Schedule "NAMES" (.ref a) u ∧ (∀ H, SqT K H a t_Schedule_NAMES) ∧ WrT K a t_Schedule_NAMES
  z_int : mg "int" = none
  z_len : mg "len" = none
  z_list : mg "list" = none
  z_max : mg "max" = none
  z_property : mg "property" = none
  z_range : mg "range" = none
  z_sorted : mg "sorted" = none
  i_Schedule : InitE K mg "Schedule" C.Schedule "Schedule.__init__" s_Schedule___init__ ["self"]
  p_Schedule_pending : PropE K C.Schedule "pending" "Schedule.pending" s_Schedule_pending
  p_Schedule_done : PropE K C.Schedule "done" "Schedule.done" s_Schedule_done
  m_Schedule___contains__ : MethE K C.Schedule "__contains__" "Schedule.__contains__" s_Schedule___contains__ ["self", "lane"]
  m_Schedule_wake : MethKE K C.Schedule "wake" "Schedule.wake" s_Schedule_wake ["self", "lane", "now"] 2 ["now"]
  m_Schedule_is_overdue : MethKE K C.Schedule "is_overdue" "Schedule.is_overdue" s_Schedule_is_overdue ["self", "lane", "now"] 2 ["now"]
  m_Schedule_next_pass : MethKE K C.Schedule "next_pass" "Schedule.next_pass" s_Schedule_next_pass ["self", "now"] 1 ["now"]
  m_Schedule_portion : MethE K C.Schedule "portion" "Schedule.portion" s_Schedule_portion ["self", "cost"]
  m_Schedule_end : MethE K C.Schedule "end" "Schedule.end" s_Schedule_end ["self", "lanes"]
  d__law_cell : DefE K mg "_law_cell" s__law_cell ["script", "k"]
  d__law_start : DefE K mg "_law_start" s__law_start ["cell", "k"]
  d__law_digit : DefE K mg "_law_digit" s__law_digit ["state", "many"]
end VL

set_option Elab.async false
set_option linter.all false
set_option maxRecDepth 100000
set_option maxHeartbeats 4000000
namespace VL
open PySem PySem.Spec PyProof.Rows L2

abbrev MM : Int := 18446744073709551557
/-- a state of drawing -/
def StA (H : Hp) (a : Addr) : Prop := ∃ z, H a = some (.lst [.int z]) ∧ 0 ≤ z ∧ z < MM
/-- all but a is kept -/
def Kp (a : Addr) (H H' : Hp) : Prop := ∀ b o, H b = some o → b ≠ a → H' b = some o
theorem Kp.trans {a : Addr} {H H' H'' : Hp} (h : Kp a H H') (k : Kp a H' H'') : Kp a H H'' := fun b o e n => k b o (h b o e n) n
theorem Kp.refl {a : Addr} {H : Hp} : Kp a H H := fun _ _ e _ => e
theorem Kp.new {a t : Addr} {o : HO} {H : Hp} (h : H t = none) : Kp a H (upd H t o) := fun b u e _ => by rw [upd_ne (ne_of_none e h)]; exact e
theorem StA.new {a t : Addr} {o : HO} {H : Hp} (S : StA H a) (h : H t = none) : StA (upd H t o) a := by
  obtain ⟨z, e, r⟩ := S
  exact ⟨z, by rw [upd_ne (ne_of_none e h)]; exact e, r⟩
theorem StA.same {a : Addr} {H H' : Hp} (S : StA H a) (s : Same H H') : StA H' a := by
  obtain ⟨z, e, r⟩ := S
  exact ⟨z, s _ _ e, r⟩
theorem Same.new {t : Addr} {o : HO} {H : Hp} (h : H t = none) : Same H (upd H t o) := fun b u e => by rw [upd_ne (ne_of_none e h)]; exact e
theorem Kp.same {a : Addr} {H0 H H' : Hp} (k : Kp a H H') (s : Same H0 H) (n : H0 a = none) : Same H0 H' := fun b o e => k _ _ (s _ _ e) (ne_of_none e n)
def spLaw (K : PySem.W.Frag) : Sp := fun vs H Q _ => ∃ (a : Addr) (ns : List Int), vs = [.ref a] ∧ SqL K H a (ns.map V.int) ∧ ns.length ≤ 63 ∧ ∀ H', Q (.bl true) H'
def spCellA (K : PySem.W.Frag) : Sp := fun vs H Q _ => ∃ (a : Addr) (ns : List Int) (j : Int), vs = [.ref a, .int j] ∧ SqL K H a (ns.map V.int) ∧ 0 ≤ j ∧ ∀ z, Q (.int z) H
def spIsInt : Sp := fun vs H Q _ => ∃ i : Int, vs = [.int i] ∧ Q (.bl true) H
def spStart : Sp := fun vs H Q _ => ∃ c k : Int, vs = [.int c, .int k] ∧ ∀ p H', H p = none → Same H H' → StA H' p → Q (.ref p) H'
def spDigit : Sp := fun vs H Q _ => ∃ (a : Addr) (m : Int), vs = [.ref a, .int m] ∧ StA H a ∧ 0 < m ∧ ∀ r H', StA H' a → Kp a H H' → 0 ≤ r → r < m → Q (.int r) H'
theorem map_int_at {ns : List Int} {j : Int} (h0 : 0 ≤ j) (h1 : j < (ns.length : Int)) : ∃ z, atI (ns.map V.int) j = some (.int z) := by
  have hj : j.toNat < ns.length := by omega
  refine ⟨ns[j.toNat], ?_⟩
  unfold atI ixN
  rw [if_pos h0, if_pos (by rw [List.length_map]; exact h1)]
  show (ns.map V.int)[j.toNat]? = _
  rw [List.getElem?_map, List.getElem?_eq_getElem hj]
  rfl
theorem atI_map {α : Type} {rs : List α} {f : α → V} {r : Int} (h0 : 0 ≤ r) (h1 : r.toNat < rs.length) : atI (rs.map f) r = some (f rs[r.toNat]) := by
  unfold atI ixN
  rw [if_pos h0, if_pos (by rw [List.length_map]; omega)]
  show (rs.map f)[r.toNat]? = _
  rw [List.getElem?_map, List.getElem?_eq_getElem h1]
  rfl
theorem atI_get {α : Type} {xs : List α} {r : Int} (h0 : 0 ≤ r) (h1 : r.toNat < xs.length) : atI xs r = some xs[r.toNat] := by
  unfold atI ixN
  rw [if_pos h0, if_pos (by omega)]
  show xs[r.toNat]? = _
  rw [List.getElem?_eq_getElem h1]
section
variable {P : Program} {w : World} {K : PySem.W.Frag} {mg : Str → Option Value} {base : Heap} {C : Ad}
theorem sc__law_cell : FnScope ["script", "k"] ["script", "k"] (defScope s__law_cell) := ⟨rfl, rfl, rfl, by decide +kernel, rfl, by decide +kernel, by decide +kernel⟩
theorem ok_cell (T : Txt K w mg C) : Cal P w K mg base 1 "_law_cell" (spCellA K) := by
  refine cal_of T.d__law_cell sc__law_cell (fun vs H Q E h => ?_) (fun f cdv A outer s H vs Q E hr h => ?_)
  · obtain ⟨a, ns, j, rfl, _⟩ := h
    rfl
  · obtain ⟨a, ns, j, rfl, hS, h0, k⟩ := h
    refine ⟨_, (pss_cons (ps_if (pt_cmpR op_lt (pv 1) (pe_callB call_len_seq (by rfl) T.z_len PySem.boot_len (pa_cons (pv 0) pa_nil)) (nomark _)) (pss_one (ps_ret (pe_ix ix_list (pv 0) (pv 1) (fun _ _ => rfl)))) pss_nil) (pss_one (ps_ret pe_int))), ?_⟩
    refine ⟨_, rfl, _, rfl, a, _, rfl, .inl hS, _, _, rfl, rfl, _, rfl, ?_⟩
    refine ite2 (fun q => ?_) (fun q => ?_)
    · have q' := of_decide_eq_true q
      rw [List.length_map] at q'
      obtain ⟨z, hz⟩ := map_int_at h0 q'
      exact ⟨_, rfl, _, rfl, a, _, j, _, rfl, rfl, hS, hz, k z⟩
    · exact k 0
theorem sc__law_start : FnScope ["cell", "k"] ["cell", "k"] (defScope s__law_start) := ⟨rfl, rfl, rfl, by decide +kernel, rfl, by decide +kernel, by decide +kernel⟩
theorem ok_start (T : Txt K w mg C) : Cal P w K mg base 1 "_law_start" spStart := by
  refine cal_of T.d__law_start sc__law_start (fun vs H Q E h => ?_) (fun f cdv A outer s H vs Q E hr h => ?_)
  · obtain ⟨c, k, rfl, _⟩ := h
    rfl
  · obtain ⟨c, j, rfl, k⟩ := h
    refine ⟨_, (pss_one (ps_ret (pe_lst (pa_cons (pe_op op_mod (pe_callTy call_int1 (by rfl) T.z_int (by decide +kernel) (pa_cons (pe_op op_add (pe_op op_mul (pv 0) pe_int) (pe_op op_mul (pe_op op_add (pv 1) pe_int) pe_int)) pa_nil)) pe_int) pa_nil)))), ?_⟩
    refine ⟨_, rfl, _, _, rfl, rfl, .inr ⟨by decide, by decide⟩, _, rfl, _, _, rfl, rfl, _, _, rfl, rfl, .inr ⟨by decide, by decide⟩, _, _, rfl, rfl, .inl ⟨_, rfl, _, _, rfl, rfl, (by show (0 : Int) < MM; decide), ?_⟩⟩
    refine ⟨by show 1 ≤ sizeLine; decide, fun p hp => ?_⟩
    refine k p _ hp (fun b o e => by rw [upd_ne (ne_of_none e hp)]; exact e) ⟨_, upd_same, Int.emod_nonneg _ (by decide), Int.emod_lt_of_pos _ (by decide)⟩
theorem sc__law_digit : FnScope ["state", "many"] ["state", "many"] (defScope s__law_digit) := ⟨rfl, rfl, rfl, by decide +kernel, rfl, by decide +kernel, by decide +kernel⟩
theorem ok_digit (T : Txt K w mg C) : Cal P w K mg base 1 "_law_digit" spDigit := by
  refine cal_of T.d__law_digit sc__law_digit (fun vs H Q E h => ?_) (fun f cdv A outer s H vs Q E hr h => ?_)
  · obtain ⟨a, m, rfl, _⟩ := h
    rfl
  · obtain ⟨a, m, rfl, ⟨z, hS, h0, h1⟩, hm, k⟩ := h
    refine ⟨_, (pss_cons (ps_asg (pe_op op_mod (pe_callTy call_int1 (by rfl) T.z_int (by decide +kernel) (pa_cons (pe_op op_add (pe_op op_mul (pe_ix ix_list (pv 0) pe_int (fun _ _ => rfl)) pe_int) pe_int) pa_nil)) pe_int) (pg_sub (pv 0) pe_int set_list)) (pss_one (ps_ret (pe_op op_mod (pe_callTy call_int1 (by rfl) T.z_int (by decide +kernel) (pa_cons (pe_op op_fdiv (pe_ix ix_list (pv 0) pe_int (fun _ _ => rfl)) pe_int) pa_nil)) (pv 1))))), ?_⟩
    refine ⟨_, rfl, a, _, 0, _, rfl, rfl, SqL.of hS, rfl, _, _, rfl, rfl, .inr ⟨by decide, by decide⟩, _, _, rfl, rfl, .inl ⟨_, rfl, _, _, rfl, rfl, (by show (0 : Int) < MM; decide), ?_⟩⟩
    refine ⟨_, rfl, a, _, 0, 0, rfl, rfl, hS, rfl, ?_⟩
    refine ⟨_, rfl, a, _, 0, _, rfl, rfl, SqL.of upd_same, rfl, _, _, rfl, rfl, ⟨by decide, by decide⟩, .inl ⟨_, rfl, _, rfl, _, _, rfl, rfl, hm, ?_⟩⟩
    exact k _ _ ⟨_, upd_same, Int.emod_nonneg _ (by decide), Int.emod_lt_of_pos _ (by decide)⟩ (fun b o e n => by rw [upd_ne n]; exact e) (Int.emod_nonneg _ (by omega)) (Int.emod_lt_of_pos _ hm)
end
end VL

set_option Elab.async false
set_option linter.all false
set_option maxRecDepth 100000
set_option maxHeartbeats 4000000
namespace VL
open PySem PySem.Spec PyProof.Rows L2
theorem paired_memS {α β : Type} {F G : α → β → Prop} : ∀ {l₁ : List α} {l₂ : List β}, (∀ a b, a ∈ l₁ → F a b → G a b) → Paired F l₁ l₂ → Paired G l₁ l₂
  | _, _, _, .nil => .nil
  | _, _, f, .cons r t => .cons (f _ _ List.mem_cons_self r) (paired_memS (fun a b m => f a b (List.mem_cons_of_mem _ m)) t)
theorem at_pat {l : Nat} (h : l < 4) : atI t_Schedule_PATIENCE (l : Int) = some (.int (pat l)) := by
  rcases l with _ | _ | _ | _ | l
  · rfl
  · rfl
  · rfl
  · rfl
  · omega
section
variable {P : Program} {w : World} {K : PySem.W.Frag} {mg : Str → Option Value} {base : Heap} {C : Ad}
theorem sc_Schedule___init__ : FnScope ["self"] ["self"] (defScope s_Schedule___init__) := ⟨rfl, rfl, rfl, by decide +kernel, rfl, by decide +kernel, by decide +kernel⟩
theorem ok_sinit (T : Txt K w mg C) : Mak P w K mg base 1 "Schedule" C.Schedule (spSInit C.Schedule) := by
  refine mak_of T.i_Schedule sc_Schedule___init__ (fun vs H Q E h => ?_) (fun f cdv A outer s H vs Q E hr h => ?_)
  · obtain ⟨p, dx, rfl, _⟩ := h
    rfl
  · obtain ⟨p, dx, rfl, hp, k⟩ := h
    refine ⟨_, (pss_cons (ps_fld (pv 0) pe_dnewK rfl) (pss_one (ps_fld (pv 0) pe_int rfl))), ?_⟩
    intro d hd
    have npd : p ≠ d := ne_of_none hp hd
    refine ⟨_, rfl, p, _, dx, [], rfl, (by rw [upd_ne npd]; exact hp), T.cl_Schedule, T.n_Schedule_ticks, (by show 0 < 1000; decide), ?_⟩
    refine ⟨_, rfl, p, _, dx, _, rfl, upd_same, T.cl_Schedule, T.n_Schedule_portions, (by show 1 < 1000; decide), ?_⟩
    rw [upd_upd]
    refine k d _ hd ⟨⟨dx, upd_same⟩, ?_, OkD.nil⟩ fun b o e nb => ?_
    · rw [upd_ne npd.symm, upd_same]
      rfl
    · rw [upd_ne nb, upd_ne (ne_of_none e hd)]
      exact e
theorem sc_Schedule___contains__ : FnScope ["self", "lane"] ["self", "lane"] (defScope s_Schedule___contains__) := ⟨rfl, rfl, rfl, by decide +kernel, rfl, by decide +kernel, by decide +kernel⟩
theorem ok_shas {f : Addr} {fd : FuncData} (F : Fun K "__contains__" "Schedule.__contains__" s_Schedule___contains__ f fd) (T : Txt K w mg C) : FnOk P w K mg base CX0 1 f fd ["self", "lane"] (spSHas C.Schedule) := by
  refine F.ok sc_Schedule___contains__ (fun vs H Q E h => ?_) (fun cdv A outer s H vs Q E hr h => ?_)
  · obtain ⟨p, d, L, n, l, rfl, _⟩ := h
    rfl
  · obtain ⟨p, d, L, n, l, rfl, S, k⟩ := h
    have hu := hu_of hr
    obtain ⟨⟨dx, h1⟩, hd, ok⟩ := id S
    refine ⟨_, (pss_one (ps_ret (pe_cmp (pc_din hu (pv 1) (pe_fld (pv 0) rfl))))), ?_⟩
    refine ⟨_, rfl, _, rfl, p, _, dx, _, _, rfl, h1, T.cl_Schedule, T.n_Schedule_ticks, fsD_ticks d n, d, _, rfl, DGet.k (k := Sum.inl (l : Int)) hd, ?_⟩
    rw [valV_kvsD, Option.isSome_map]
    exact k
theorem sc_Schedule_is_overdue : FnScope ["self", "lane", "now"] ["self", "lane", "now"] (defScope s_Schedule_is_overdue) := ⟨rfl, rfl, rfl, by decide +kernel, rfl, by decide +kernel, by decide +kernel⟩
theorem ok_sover (T : Txt K w mg C) : MetK P w K mg base 1 C.Schedule "is_overdue" (spSOver C.Schedule) 2 ["now"] catG := by
  obtain ⟨na, nu, cv, cn, hq, _⟩ := T.cc_Schedule_PATIENCE
  refine metK_of T.m_Schedule_is_overdue T.cl_Schedule sc_Schedule_is_overdue (fun vs H Q E h => ?_) (fun f cdv A outer s H vs Q E hr h => ?_)
  · obtain ⟨p, d, L, n, l, now, rfl, _⟩ := h
    rfl
  · obtain ⟨p, d, L, n, l, now, rfl, S, hl, k⟩ := h
    have hu := hu_of hr
    obtain ⟨⟨dx, h1⟩, hd, ok⟩ := id S
    refine ⟨_, (pss_one (ps_ret (pe_and (pe_cmp (pc_din hu (pv 1) (pe_fld (pv 0) rfl))) (pe_one (pe_cmpR op_le (pe_op op_add (pe_dget hu (pe_fld (pv 0) rfl) (pv 1) (fun _ _ => rfl)) (pe_ix ix_tup (pe_con (pv 0) rfl) (pv 1) (fun _ _ => rfl))) (pv 2) (nomark _)))))), ?_⟩
    refine ⟨_, rfl, _, rfl, p, _, dx, _, _, rfl, h1, T.cl_Schedule, T.n_Schedule_ticks, fsD_ticks d n, d, _, rfl, DGet.k (k := Sum.inl (l : Int)) hd, ?_⟩
    rw [valV_kvsD, Option.isSome_map]
    unfold overD at k
    cases e : look L l with
    | none =>
      rw [e] at k
      exact ⟨false, rfl, k⟩
    | some t =>
      rw [e] at k
      refine ⟨true, rfl, ?_⟩
      rw [if_pos rfl]
      refine ⟨_, rfl, p, _, dx, _, _, rfl, h1, T.cl_Schedule, T.n_Schedule_ticks, fsD_ticks d n, _, rfl, d, .int t, rfl, ?_, ?_⟩
      · have := DGet.k (k := Sum.inl (l : Int)) hd
        rw [valV_kvsD, e] at this
        exact this
      · refine ⟨_, rfl, p, _, dx, _, _, nu, rfl, h1, T.cl_Schedule, cn, rfl, _, rfl, na, _, (l : Int), .int (pat l), rfl, rfl, hq _, at_pat hl, ?_⟩
        refine ⟨_, _, rfl, rfl, _, rfl, _, _, rfl, rfl, ?_⟩
        exact k
theorem sc_Schedule_wake : FnScope ["self", "lane", "now", "other"] ["self", "lane", "now"] (defScope s_Schedule_wake) := ⟨rfl, rfl, rfl, by decide +kernel, rfl, by decide +kernel, by decide +kernel⟩
theorem ok_swake (T : Txt K w mg C) : MetK P w K mg base 1 C.Schedule "wake" (spSWake C.Schedule) 2 ["now"] catG := by
  refine metK_of T.m_Schedule_wake T.cl_Schedule sc_Schedule_wake (fun vs H Q E h => ?_) (fun f cdv A outer s H vs Q E hr h => ?_)
  · obtain ⟨p, d, L, n, l, now, rfl, _⟩ := h
    rfl
  · obtain ⟨p, d, L, n, l, now, rfl, S, hl, k⟩ := h
    have hu := hu_of hr
    obtain ⟨⟨dx, h1⟩, hd, ok⟩ := id S
    have pd := S.pd
    refine ⟨_, (pss_cons (ps_if (pt_not (pt_truth (pe_lock (pe_lc (own := [("other", 3)]) (g := gName 3) (tt := _) rfl sc_Schedule_wake.nd (pi_keys (pe_fld (pv 0) rfl)) (blkOk_by (N := ["self", "lane", "now", "other"]) (sc := (defScope s_Schedule_wake)) (by decide +kernel)) (fun _ _ _ _ _ => pg_name (i := 3) sc_Schedule_wake.nd rfl (Or.inl rfl)) (fun _ _ _ _ _ => pts_one (pt_cmpR op_lt (pv 3) (pv 1) (nomark _))) (fun _ _ _ _ _ => (pv 3)))) (fun _ => rfl))) (pss_one (ps_fld (pv 0) pe_int rfl)) pss_nil) (pss_one (ps_expr (pe_dsetd (pe_fld (pv 0) rfl) (pv 1) (pv 2) ⟨rfl, rfl, rfl, rfl⟩)))), ?_⟩
    refine ⟨d, _, hd, trivial, fun od => ?_⟩
    have hlk : upd H d (.frz od (.dK (kvsD L))) d = some (.frz od (.dK (kvsD L))) := upd_same
    have h1' : upd H d (.frz od (.dK (kvsD L))) p = some (.ins C.Schedule dx (fsD d n)) := by rw [upd_ne pd]; exact h1
    refine ⟨_, rfl, p, _, dx, _, _, rfl, h1', T.cl_Schedule, T.n_Schedule_ticks, fsD_ticks d n, d, od, rfl, .inl ⟨_, hlk, fun D hD => ?_⟩⟩
    have hDd : D ≠ d := fun z => by rw [z, upd_same] at hD; cases hD
    have hDp : D ≠ p := (ne_of_none h1' hD).symm
    refine lc_it (walk_keys (d := d) (o := od) (kvs := kvsD L)) (fun i H' => H' = upd (upd H d (.frz od (.dK (kvsD L)))) D (.lst (((L.take i).filter fun e => decide (e.1 < l)).map fun e => lV e.1))) rfl (fun i H' _ e => by rw [e, upd_ne hDd.symm]; exact upd_same) ?_ ?_
    · rintro i x H1 H2 hi rfl ⟨rfl, kk, vv, hk, rfl⟩
      have hi' : i < L.length := by rw [kvsD_len] at hi; exact hi
      have ek : kk = Sum.inl ((L[i].1 : Nat) : Int) := by
        unfold kvsD at hk
        rw [List.getElem?_map, List.getElem?_eq_getElem hi'] at hk
        exact (congrArg Prod.fst (Option.some.inj hk)).symm
      subst ek
      refine ⟨rfl, ?_⟩
      refine ⟨_, rfl, _, rfl, _, _, rfl, rfl, _, rfl, ?_⟩
      have et := take_filter (L := L) (p := fun e => decide (e.1 < l)) (f := fun e => lV e.1) hi'
      refine ite2 (fun q => ?_) (fun q => ?_)
      · have q' : L[i].1 < l := by have := of_decide_eq_true q; omega
        rw [if_pos (decide_eq_true q')] at et
        refine ⟨_, rfl, _, upd_same, ?_, ?_⟩
        · rw [List.length_map]
          have h1 := List.length_filter_le (fun e : Nat × Int => decide (e.1 < l)) (L.take i)
          have h2 := List.length_take_le i L
          have := ok.len
          exact small1000 (by omega)
        · rw [upd_upd]
          show _ = upd _ D (.lst (((L.take (i + 1)).filter fun e => decide (e.1 < l)).map fun e => lV e.1))
          rw [et]
          rfl
      · have q' : ¬ L[i].1 < l := fun z => q (decide_eq_true (by show ((L[i].1 : Nat) : Int) < (l : Int); omega))
        rw [if_neg (by simp; omega), List.append_nil] at et
        show _ = upd _ D (.lst (((L.take (i + 1)).filter fun e => decide (e.1 < l)).map fun e => lV e.1))
        rw [et]
    · rintro H1 rfl
      rw [kvsD_len, List.take_length]
      refine ⟨by rw [upd_ne hDd.symm]; exact upd_same, ?_⟩
      have hDn : H D = none := by rw [upd_ne hDd] at hD; exact hD
      rw [unlock_eq hDd hd]
      generalize hF : ((L.filter fun e => decide (e.1 < l)).map fun e => lV e.1) = F
      have eN : wakeN L l n = if F.isEmpty = true then 0 else n := by rw [← hF]; exact wakeN_eq L l n
      refine ⟨!F.isEmpty, .inl ⟨F, SqL.of upd_same, rfl⟩, ?_⟩
      have h1D : upd H D (.lst F) p = some (.ins C.Schedule dx (fsD d n)) := by rw [upd_ne hDp.symm]; exact h1
      have hdD : upd H D (.lst F) d = some (.dK (kvsD L)) := by rw [upd_ne hDd.symm]; exact hd
      have keep0 : K2 p d H (upd H D (.lst F)) := fun b o e _ _ => by rw [upd_ne (ne_of_none e hDn)]; exact e
      -- what setdefault does
      have fin : ∀ (n' : Int) (H' : Hp), n' = wakeN L l n → H' p = some (.ins C.Schedule dx (fsD d n')) → H' d = some (.dK (kvsD L)) → K2 p d H H' →
          (∃ (kvs : List (Key × V)) (kk : Key), H' d = some (.dK kvs) ∧ lV l = kV kk ∧ kvs.length < sizeLine ∧ (∀ v, valV kvs kk = some v → Q .non H') ∧ (valV kvs kk = none → Q .non (upd H' d (.dK (putK kvs kk (V.int now)))))) := by
        intro n' H' en hp' hd' hk
        refine ⟨_, Sum.inl (l : Int), hd', rfl, ?_, fun v hv => ?_, fun hv => ?_⟩
        · rw [kvsD_len]
          have := ok.len
          exact small1000 (by omega)
        · rw [valV_kvsD] at hv
          refine k .non H' ⟨⟨dx, by rw [← en]; exact hp'⟩, ?_, ok.wake hl now⟩ hk
          unfold wakeD
          rw [if_pos (by cases e : look L l with | none => rw [e] at hv; cases hv | some t => rfl)]
          exact hd'
        · rw [valV_kvsD] at hv
          have hn : look L l = none := by cases e : look L l with | none => rfl | some t => rw [e] at hv; cases hv
          rw [kvsD_put hn]
          refine k .non _ ⟨⟨dx, by rw [upd_ne pd, ← en]; exact hp'⟩, ?_, ok.wake hl now⟩ fun b o e n1 n2 => by rw [upd_ne n2]; exact hk _ _ e n1 n2
          unfold wakeD
          rw [if_neg (by rw [hn]; exact Bool.false_ne_true)]
          exact upd_same
      refine ite2 (fun q => ?_) (fun q => ?_)
      · have q' : F.isEmpty = true := by simpa using q
        rw [if_pos q'] at eN
        refine ⟨_, rfl, p, _, dx, _, rfl, h1D, T.cl_Schedule, T.n_Schedule_portions, (by show 2 < 1000; decide), ?_⟩
        rw [putD_portions]
        refine ⟨_, rfl, p, _, dx, _, _, rfl, upd_same, T.cl_Schedule, T.n_Schedule_ticks, fsD_ticks d 0, d, rfl, .inl ⟨_, .inl (by rw [upd_ne pd.symm]; exact hdD)⟩, _, rfl, _, rfl, ?_⟩
        exact fin 0 _ eN.symm upd_same (by rw [upd_ne pd.symm]; exact hdD) fun b o e n1 n2 => by rw [upd_ne n1]; exact keep0 _ _ e n1 n2
      · have q' : ¬ F.isEmpty = true := fun z => q (by simpa using z)
        rw [if_neg q'] at eN
        refine ⟨_, rfl, p, _, dx, _, _, rfl, h1D, T.cl_Schedule, T.n_Schedule_ticks, fsD_ticks d n, d, rfl, .inl ⟨_, .inl hdD⟩, _, rfl, _, rfl, ?_⟩
        exact fin n _ eN.symm h1D hdD keep0
theorem sc_Schedule_portion : FnScope ["self", "cost"] ["self", "cost"] (defScope s_Schedule_portion) := ⟨rfl, rfl, rfl, by decide +kernel, rfl, by decide +kernel, by decide +kernel⟩
theorem ok_sportion (T : Txt K w mg C) : Met P w K mg base 1 C.Schedule "portion" (spSPortion C.Schedule) := by
  refine met_of T.m_Schedule_portion T.cl_Schedule sc_Schedule_portion (fun vs H Q E h => ?_) (fun f cdv A outer s H vs Q E hr h => ?_)
  · obtain ⟨p, d, L, n, cost, rfl, _⟩ := h
    rfl
  · obtain ⟨p, d, L, n, cost, rfl, S, k⟩ := h
    obtain ⟨⟨dx, h1⟩, hd, ok⟩ := id S
    have pd := S.pd
    refine ⟨_, (pss_cons (ps_if (pt_truth (pe_fld (pv 0) rfl) (fun _ => rfl)) (pss_one (ps_fldaug (pv 0) pe_int in_add)) pss_nil) (pss_one (ps_ret (pe_cmpR op_ge (pe_fld (pv 0) rfl) (pv 1) (nomark _))))), ?_⟩
    refine ⟨_, rfl, p, _, dx, _, _, rfl, h1, T.cl_Schedule, T.n_Schedule_ticks, fsD_ticks d n, !(kvsD L).isEmpty, .inr (.inr ⟨_, hd, rfl⟩), ?_⟩
    refine ite2 (fun q => ?_) (fun q => ?_)
    · have hL : L ≠ [] := fun e => by rw [e] at q; cases q
      rw [if_neg hL] at k
      refine ⟨_, rfl, p, _, dx, _, _, rfl, h1, T.cl_Schedule, T.n_Schedule_portions, fsD_portions d n, _, _, rfl, rfl, dx, _, h1, (by show 2 < 1000; decide), ?_⟩
      rw [putD_portions]
      refine ⟨_, rfl, p, _, dx, _, _, rfl, upd_same, T.cl_Schedule, T.n_Schedule_portions, fsD_portions d _, _, rfl, _, _, rfl, rfl, ?_⟩
      exact k _ ⟨⟨dx, upd_same⟩, by rw [upd_ne pd.symm]; exact hd, ok⟩ fun b o e n1 n2 => by rw [upd_ne n1]; exact e
    · have hL : L = [] := by cases L with | nil => rfl | cons a L => exact absurd rfl q
      rw [if_pos hL] at k
      refine ⟨_, rfl, p, _, dx, _, _, rfl, h1, T.cl_Schedule, T.n_Schedule_portions, fsD_portions d n, _, rfl, _, _, rfl, rfl, ?_⟩
      exact k H S K2.refl
theorem sc_Schedule_end : FnScope ["self", "lanes", "lane"] ["self", "lanes"] (defScope s_Schedule_end) := ⟨rfl, rfl, rfl, by decide +kernel, rfl, by decide +kernel, by decide +kernel⟩
theorem ok_send (T : Txt K w mg C) : Met P w K mg base 1 C.Schedule "end" (spSEnd C.Schedule K) := by
  refine met_of T.m_Schedule_end T.cl_Schedule sc_Schedule_end (fun vs H Q E h => ?_) (fun f cdv A outer s H vs Q E hr h => ?_)
  · obtain ⟨p, d, la, L, n, P, rfl, _⟩ := h
    rfl
  · obtain ⟨p, d, la, L, n, P, rfl, S, hP, k⟩ := h
    have hu := hu_of hr
    obtain ⟨⟨dx, h1⟩, hd, ok⟩ := id S
    have pd := S.pd
    refine ⟨_, (pss_cons (ps_fld (pv 0) (pe_lock (pe_dc (own := [("lane", 2)]) (g := gName 2) (tt := _) rfl sc_Schedule_end.nd (pi_keys (pe_fld (pv 0) rfl)) (blkOk_by (N := ["self", "lanes", "lane"]) (sc := (defScope s_Schedule_end)) (by decide +kernel)) (fun _ _ _ _ _ => pg_name (i := 2) sc_Schedule_end.nd rfl (Or.inl rfl)) (fun _ _ _ _ _ => pts_one (pt_cmpR (op_notIn_seqS (K := K) rfl) (pv 2) (pv 1) rfl)) (fun _ _ _ _ _ => (pv 2)) (fun _ _ _ _ _ => (pe_dget hu (pe_fldS (K := K) rfl (pv 0) rfl) (pv 2) (fun _ _ => rfl))))) rfl) (pss_one (ps_fld (pv 0) pe_int rfl))), ?_⟩
    refine ⟨d, _, hd, trivial, fun od => ?_⟩
    have hlk : upd H d (.frz od (.dK (kvsD L))) d = some (.frz od (.dK (kvsD L))) := upd_same
    have h1' : upd H d (.frz od (.dK (kvsD L))) p = some (.ins C.Schedule dx (fsD d n)) := by rw [upd_ne pd]; exact h1
    refine ⟨_, rfl, p, _, dx, _, _, rfl, h1', T.cl_Schedule, T.n_Schedule_ticks, fsD_ticks d n, d, od, rfl, .inl ⟨_, hlk, fun D hD => ?_⟩⟩
    have hDd : D ≠ d := fun z => by rw [z, upd_same] at hD; cases hD
    have hDp : D ≠ p := (ne_of_none h1' hD).symm
    have hDn : H D = none := by rw [upd_ne hDd] at hD; exact hD
    have hP1 : ∀ x : HO, SqL K (upd (upd H d (.frz od (.dK (kvsD L)))) D x) la (P.map lV) := fun x => by
      rcases hP with (hP | ⟨o, hP⟩) | hP
      · exact .inl (.inl (by rw [upd_ne (ne_of_none hP hDn), upd_ne (ne_of hP hd (by intro e; cases e))]; exact hP))
      · exact .inl (.inr ⟨o, by rw [upd_ne (ne_of_none hP hDn), upd_ne (ne_of hP hd (by intro e; cases e))]; exact hP⟩)
      · exact .inr hP
    refine dc_it (walk_keys (d := d) (o := od) (kvs := kvsD L)) (fun i H' => H' = upd (upd H d (.frz od (.dK (kvsD L)))) D (.dK (kvsD (endD (L.take i) P)))) rfl (fun i H' _ e => by rw [e, upd_ne hDd.symm]; exact upd_same) ?_ ?_
    · rintro i x H1 H2 hi rfl ⟨rfl, kk, vv, hk, rfl⟩
      have hi' : i < L.length := by rw [kvsD_len] at hi; exact hi
      have ek : kk = Sum.inl ((L[i].1 : Nat) : Int) := by
        unfold kvsD at hk
        rw [List.getElem?_map, List.getElem?_eq_getElem hi'] at hk
        exact (congrArg Prod.fst (Option.some.inj hk)).symm
      subst ek
      refine ⟨rfl, ?_⟩
      refine ⟨_, rfl, _, rfl, la, _, rfl, .inl (hP1 _), rfl, flat_l P, _, rfl, ?_⟩
      have e0 : (if true = true then !inV (.int ((L[i].1 : Nat) : Int)) (P.map lV) else inV (.int ((L[i].1 : Nat) : Int)) (P.map lV)) = !decide (L[i].1 ∈ P) := by
        rw [if_pos rfl]
        exact congrArg (!·) (inV_l L[i].1 P)
      have es := endD_snoc (P := P) hi'
      have eg : look L L[i].1 = some L[i].2 := look_of_mem ok.nd (List.getElem_mem hi')
      have hlk2 : upd (upd H d (.frz od (.dK (kvsD L)))) D (.dK (kvsD (endD (L.take i) P))) d = some (.frz od (.dK (kvsD L))) := by rw [upd_ne hDd.symm]; exact upd_same
      refine ite2 (fun q => ?_) (fun q => ?_)
      · have hn : L[i].1 ∉ P := fun z => by
          have q2 : (if true = true then !inV (.int ((L[i].1 : Nat) : Int)) (P.map lV) else inV (.int ((L[i].1 : Nat) : Int)) (P.map lV)) = true := q
          rw [e0, decide_eq_true z] at q2
          cases q2
        rw [if_neg hn] at es
        refine ⟨_, rfl, _, rfl, p, _, dx, _, _, rfl, (by rw [upd_ne hDp.symm]; exact h1'), T.cl_Schedule, T.n_Schedule_ticks, fsD_ticks d n, _, rfl, d, .int L[i].2, rfl, ?_, ?_⟩
        · have := DGet.kf (k := Sum.inl ((L[i].1 : Nat) : Int)) hlk2
          rw [valV_kvsD, eg] at this
          exact this
        · refine ⟨_, Sum.inl ((L[i].1 : Nat) : Int), rfl, upd_same, ?_, ?_⟩
          · rw [kvsD_len]
            have h1 := List.length_filter_le (fun e : Nat × Int => !decide (e.1 ∈ P)) (L.take i)
            have h2 := List.length_take_le i L
            have := ok.len
            exact small1000 (by show (endD (L.take i) P).length ≤ 1000; unfold endD; omega)
          · rw [upd_upd, kvsD_put (look_take ok.nd hi'), es]
      · have hn : L[i].1 ∈ P := by
          have q2 : ¬ (if true = true then !inV (.int ((L[i].1 : Nat) : Int)) (P.map lV) else inV (.int ((L[i].1 : Nat) : Int)) (P.map lV)) = true := q
          rw [e0] at q2
          simpa using q2
        rw [if_pos hn] at es
        rw [es]
    · rintro H1 rfl
      rw [kvsD_len, List.take_length]
      refine ⟨by rw [upd_ne hDd.symm]; exact upd_same, ?_⟩
      rw [unlock_eq hDd hd]
      refine ⟨_, rfl, p, _, dx, _, rfl, (by rw [upd_ne hDp.symm]; exact h1), T.cl_Schedule, T.n_Schedule_ticks, (by show 2 < 1000; decide), ?_⟩
      rw [putD_ticks]
      refine ⟨_, rfl, p, _, dx, _, rfl, upd_same, T.cl_Schedule, T.n_Schedule_portions, (by show 2 < 1000; decide), ?_⟩
      rw [putD_portions, upd_upd]
      refine k D _ ⟨⟨dx, upd_same⟩, by rw [upd_ne hDp]; exact upd_same, ok.endd P⟩ (fun b o e n1 n2 => by rw [upd_ne n1, upd_ne (ne_of_none e hDn)]; exact e) hDn
theorem sc_Schedule_next_pass : FnScope ["self", "now", "lanes", "overdue", "lane"] ["self", "now"] (defScope s_Schedule_next_pass) := ⟨rfl, rfl, rfl, by decide +kernel, rfl, by decide +kernel, by decide +kernel⟩
theorem ok_snext (T : Txt K w mg C) : MetK P w K mg base 2 C.Schedule "next_pass" (spSNext C.Schedule) 1 ["now"] catG := by
  have Mis_overdue : MetK P w K mg base 1 C.Schedule "is_overdue" (spSOver C.Schedule) 2 ["now"] catG := ok_sover T
  refine metK_of T.m_Schedule_next_pass T.cl_Schedule sc_Schedule_next_pass (fun vs H Q E h => ?_) (fun f cdv A outer s H vs Q E hr h => ?_)
  · obtain ⟨p, d, L, n, now, rfl, _⟩ := h
    rfl
  · obtain ⟨p, d, L, n, now, rfl, S, k0, k1⟩ := h
    have hu := hu_of hr
    obtain ⟨⟨dx, h1⟩, hd, ok⟩ := id S
    refine ⟨_, (pss_cons (ps_set (i := 2) sc_Schedule_next_pass.nd rfl (Or.inl rfl) (pe_callB cr_sortedI (by rfl) T.z_sorted (by decide +kernel) (pa_cons (pe_callTy (call_listD rfl) (by rfl) T.z_list (by decide +kernel) (pa_cons (pe_fld (pv 0) rfl) pa_nil)) pa_nil))) (pss_cons (ps_if (pt_not (pt_truth (pv 2) (fun _ => rfl))) (pss_one (ps_ret pe_non)) pss_nil) (pss_cons (ps_set (i := 3) sc_Schedule_next_pass.nd rfl (Or.inr rfl) (pe_lc (own := [("lane", 4)]) (g := gName 4) (tt := _) rfl sc_Schedule_next_pass.nd (pi_list (pv 2)) (blkOk_by (N := ["self", "now", "lanes", "overdue", "lane"]) (sc := (defScope s_Schedule_next_pass)) (by decide +kernel)) (fun _ _ _ _ _ => pg_name (i := 4) sc_Schedule_next_pass.nd rfl (Or.inl rfl)) (fun _ _ _ _ _ => pts_one (pt_val (pe_mtK Mis_overdue hr (by decide) (pv 0) (pa_cons (pv 4) pa_nil) (pk_cons (pv 1) pk_nil)))) (fun _ _ _ _ _ => (pv 4)))) (pss_cons (ps_if (pt_not (pt_truth (pv 3) (fun _ => rfl))) (pss_one (ps_ret (pe_tup (pa_cons (pe_slice sl_list (pv 2) po_none (po_some pe_int)) (pa_cons pe_bl pa_nil))))) pss_nil) (pss_one (ps_ret (pe_tup (pa_cons (pe_lc (own := [("lane", 4)]) (g := gName 4) (tt := _) rfl sc_Schedule_next_pass.nd (pi_list (pv 2)) (blkOk_by (N := ["self", "now", "lanes", "overdue", "lane"]) (sc := (defScope s_Schedule_next_pass)) (by decide +kernel)) (fun _ _ _ _ _ => pg_name (i := 4) sc_Schedule_next_pass.nd rfl (Or.inl rfl)) (fun _ _ _ _ _ => pts_one (pt_cmpR op_le (pv 4) (pe_ix (ix_listS (K := K) rfl) (pv 3) (pe_un un_neg pe_int) (fun _ _ => rfl)) (nomark _))) (fun _ _ _ _ _ => (pv 4))) (pa_cons pe_bl pa_nil))))))))), ?_⟩
    refine ⟨_, rfl, p, _, dx, _, _, rfl, h1, T.cl_Schedule, T.n_Schedule_ticks, fsD_ticks d n, d, _, rfl, .inl hd, fun a ha => ?_⟩
    have ek : ((kvsD L).map fun kv => kV kv.1) = (L.map fun e => (e.1 : Int)).map V.int := by
      unfold kvsD
      rw [List.map_map, List.map_map]
      rfl
    rw [ek]
    refine ⟨a, _, rfl, SqL.of upd_same, fun ns' b hp hs hb => ?_⟩
    have en : ns'.map V.int = (lanesD L).map lV := by
      rw [sorted_keys ok hp hs, List.map_map]
      rfl
    rw [en]
    have s1 : Same H (upd (upd H a (.lst ((L.map fun e => (e.1 : Int)).map V.int))) b (.lst ((lanesD L).map lV))) := (Same.new ha).trans (Same.new hb)
    have hb1 : upd (upd H a (.lst ((L.map fun e => (e.1 : Int)).map V.int))) b (.lst ((lanesD L).map lV)) b = some (.lst ((lanesD L).map lV)) := upd_same
    generalize upd (upd H a (.lst ((L.map fun e => (e.1 : Int)).map V.int))) b (.lst ((lanesD L).map lV)) = H1 at s1 hb1 ⊢
    refine ⟨_, rfl, !((lanesD L).map lV).isEmpty, .inl ⟨_, SqL.of hb1, rfl⟩, ?_⟩
    refine ite2 (fun q => ?_) (fun q => ?_)
    · have he : lanesD L = [] := by
        cases e : lanesD L with
        | nil => rfl
        | cons a r => rw [e] at q; exact absurd q (by simp)
      exact k0 he H1 s1
    · have hne : lanesD L ≠ [] := fun e => q (by rw [e]; rfl)
      have k1 := k1 hne
      -- overdue
      refine ⟨_, rfl, b, rfl, ⟨_, SqL.of hb1⟩, fun D hD => ?_⟩
      have hDb : b ≠ D := ne_of_none hb1 hD
      have hDn : H D = none := s1.free hD
      have sD : ∀ x : HO, Same H (upd H1 D x) := fun x c o e => by rw [upd_ne (ne_of_none (s1 _ _ e) hD)]; exact s1 _ _ e
      refine lc_it (walk_list (K := K) (a := b) (xs := (lanesD L).map lV)) (fun i H' => H' = upd H1 D (.lst ((((lanesD L).take i).filter (overD L now)).map lV))) rfl (fun i H' _ e => by rw [e]; exact SqL.of (by rw [upd_ne hDb]; exact hb1)) ?_ ?_
      · rintro i x H2 H3 hi rfl ⟨rfl, hx⟩
        have hi' : i < (lanesD L).length := by rw [List.length_map] at hi; exact hi
        have ex : x = lV (lanesD L)[i] := by
          rw [List.getElem?_map, List.getElem?_eq_getElem hi'] at hx
          exact (Option.some.inj hx).symm
        subst ex
        have hl4 : (lanesD L)[i] < 4 := look_some_lt ok ((mem_lanes ok).mp (List.getElem_mem hi'))
        have et := take_filter (L := lanesD L) (p := overD L now) (f := lV) hi'
        have S2 : SchA C.Schedule (upd H1 D (.lst ((((lanesD L).take i).filter (overD L now)).map lV))) p d L n := S.same (sD _)
        obtain ⟨dx2, h2⟩ := S2.ob
        refine ⟨rfl, ?_⟩
        refine ⟨_, rfl, p, dx2, _, rfl, h2, rfl, _, rfl, _, rfl, rfl, rfl, ?_⟩
        refine ⟨p, d, L, n, (lanesD L)[i], now, rfl, S2, hl4, _, rfl, ?_⟩
        refine ite2 (fun q => ?_) (fun q => ?_)
        · rw [if_pos q] at et
          refine ⟨_, rfl, _, upd_same, ?_, ?_⟩
          · rw [List.length_map]
            have h1 := List.length_filter_le (overD L now) ((lanesD L).take i)
            have h2 := List.length_take_le i (lanesD L)
            have := lanes_len L
            exact small1000 (by omega)
          · rw [upd_upd, et]
        · rw [if_neg q, List.append_nil] at et
          rw [et]
      · rintro H2 rfl
        rw [List.length_map, List.take_length]
        have hb2 : upd H1 D (.lst ((oversD L now).map lV)) b = some (.lst ((lanesD L).map lV)) := by rw [upd_ne hDb]; exact hb1
        have s2 := sD (.lst ((oversD L now).map lV))
        have hD2 : upd H1 D (.lst ((oversD L now).map lV)) D = some (.lst ((oversD L now).map lV)) := upd_same
        rw [show (lanesD L).filter (overD L now) = oversD L now from rfl]
        generalize upd H1 D (.lst ((oversD L now).map lV)) = H2 at hb2 s2 hD2 ⊢
        refine ⟨_, rfl, !((oversD L now).map lV).isEmpty, .inl ⟨_, SqL.of hD2, rfl⟩, ?_⟩
        have out : ∀ (Ps : List V) (wh : Bool) (li : Addr) (H3 : Hp), Ps = (passD L now).map lV → wh = wholeD L now → H li = none → Same H H3 → H3 li = some (.lst Ps) → ∀ t, H3 t = none → Q (.ref t) (upd H3 t (.tup [.ref li, .bl wh])) := by
          intro Ps wh li H3 ep ew hli s3 h3 t ht
          subst ep ew
          refine k1 t li _ (s3.trans (Same.new ht)) (s3.free ht) hli upd_same ?_
          rw [upd_ne (ne_of_none h3 ht)]
          exact h3
        cases qo : (oversD L now).getLast? with
        | none =>
          have hov : oversD L now = [] := List.getLast?_eq_none_iff.mp qo
          rw [hov]
          refine iteT ?_
          refine ⟨_, rfl, 1, rfl, b, _, rfl, SqL.of hb2, fun q hq => ⟨by show 2 ≤ sizeLine; decide, fun t ht => ?_⟩⟩
          refine out _ false q _ ?_ ?_ (s2.free hq) (s2.trans (Same.new hq)) upd_same t ht
          · rw [cut_one, ← List.map_take]
            unfold passD
            rw [qo]
          · unfold wholeD
            rw [hov]
            rfl
        | some m =>
          have hov : ((oversD L now).map lV).isEmpty = false := by
            cases e : oversD L now with
            | nil => rw [e] at qo; cases qo
            | cons a r => rfl
          rw [hov]
          refine iteF ?_
          refine ⟨_, rfl, b, rfl, ⟨_, SqL.of hb2⟩, fun E2 hE2 => ?_⟩
          have hEb : b ≠ E2 := ne_of_none hb2 hE2
          have hED : D ≠ E2 := ne_of_none hD2 hE2
          refine lc_it (walk_list (K := K) (a := b) (xs := (lanesD L).map lV)) (fun i H' => H' = upd H2 E2 (.lst ((((lanesD L).take i).filter fun l => decide (l ≤ m)).map lV))) rfl (fun i H' _ e => by rw [e]; exact SqL.of (by rw [upd_ne hEb]; exact hb2)) ?_ ?_
          · rintro i x H3 H4 hi rfl ⟨rfl, hx⟩
            have hi' : i < (lanesD L).length := by rw [List.length_map] at hi; exact hi
            have ex : x = lV (lanesD L)[i] := by
              rw [List.getElem?_map, List.getElem?_eq_getElem hi'] at hx
              exact (Option.some.inj hx).symm
            subst ex
            have et := take_filter (L := lanesD L) (p := fun l => decide (l ≤ m)) (f := lV) hi'
            refine ⟨rfl, ?_⟩
            refine ⟨_, rfl, _, rfl, 1, rfl, D, _, _, _, rfl, rfl, SqL.of (by rw [upd_ne hED]; exact hD2), at_last qo, _, _, rfl, rfl, _, rfl, ?_⟩
            refine ite2 (fun q => ?_) (fun q => ?_)
            · have q' : (lanesD L)[i] ≤ m := by have := of_decide_eq_true q; omega
              rw [if_pos (decide_eq_true q')] at et
              refine ⟨_, rfl, _, upd_same, ?_, ?_⟩
              · rw [List.length_map]
                have h1 := List.length_filter_le (fun l => decide (l ≤ m)) ((lanesD L).take i)
                have h2 := List.length_take_le i (lanesD L)
                have := lanes_len L
                exact small1000 (by omega)
              · rw [upd_upd, et]
            · have q' : ¬ (lanesD L)[i] ≤ m := fun z => q (decide_eq_true (by omega))
              rw [if_neg (by simp; omega), List.append_nil] at et
              rw [et]
          · rintro H3 rfl
            rw [List.length_map, List.take_length]
            refine ⟨by show 2 ≤ sizeLine; decide, fun t ht => ?_⟩
            refine out _ true E2 _ ?_ ?_ (s2.free hE2) (s2.trans (Same.new hE2)) upd_same t ht
            · unfold passD
              rw [qo]
            · unfold wholeD
              cases e : oversD L now with
              | nil => rw [e] at qo; cases qo
              | cons a r => rfl
theorem sc_Schedule_pending : FnScope ["self"] ["self"] (defScope s_Schedule_pending) := ⟨rfl, rfl, rfl, by decide +kernel, rfl, by decide +kernel, by decide +kernel⟩
theorem ok_spending (T : Txt K w mg C) : Pro P w K mg base 1 C.Schedule "pending" (spSPending C.Schedule) := by
  refine pro_of T.p_Schedule_pending T.cl_Schedule sc_Schedule_pending (fun vs H Q E h => ?_) (fun f cdv A outer s H vs Q E hr h => ?_)
  · obtain ⟨p, d, L, n, rfl, _⟩ := h
    rfl
  · obtain ⟨p, d, L, n, rfl, S, k⟩ := h
    obtain ⟨⟨dx, h1⟩, hd, ok⟩ := id S
    refine ⟨_, (pss_one (ps_ret (pe_callB cr_sortedPO (by rfl) T.z_sorted (by decide +kernel) (pa_cons (LiI.pe_listItems rfl (pe_fld (pv 0) rfl) (by rfl) T.z_list (by decide +kernel)) pa_nil)))), ?_⟩
    refine ⟨_, rfl, p, _, dx, _, _, rfl, h1, T.cl_Schedule, T.n_Schedule_ticks, fsD_ticks d n, d, _, rfl, hd, fun H1 a ts s1 ha hts hat h1a pr => ?_⟩
    obtain ⟨e1, e2⟩ := kap_of_paired pr
    refine ⟨a, _, kapH H1, rfl, SqL.of h1a, e2, fun ys b hs hst hb => ?_⟩
    have hp : (ys.map (kapH H1)).Perm (L.map cstE) := by rw [← e1]; exact hst.perm.map _
    have hs2 : (ys.map (kapH H1)).Pairwise fun x y => SrtO.lexB y x = false := List.Pairwise.map _ (fun _ _ h => h) hs
    obtain ⟨ts', e3, pr'⟩ := paired_kap (H := H1) (ys := ys) (B := pendD L) (fun y hy => e2 y (hst.perm.mem_iff.mp hy)) (pend_sorted ok hp hs2)
    have hin : ∀ t ∈ ts', t ∈ ts := fun t ht => by
      have h1 : V.ref t ∈ ys := by rw [e3]; exact List.mem_map.mpr ⟨t, ht, rfl⟩
      obtain ⟨t2, h2, h3⟩ := List.mem_map.mp (hst.perm.mem_iff.mp h1)
      injection h3 with h3
      rw [← h3]
      exact h2
    subst e3
    have hnb : ∀ t ∈ ts', H1 t ≠ none := fun t ht e => by
      obtain ⟨t2, h2, h3⟩ := e2 (V.ref t) (List.mem_map.mpr ⟨t, hin t ht, rfl⟩)
      injection h2 with h2
      rw [← h2, e] at h3
      cases h3
    refine k b ts' _ (fun c o e => by rw [upd_ne (ne_of_none (s1 _ _ e) hb)]; exact s1 _ _ e) (Same.free s1 hb) (fun t ht => hts t (hin t ht)) (fun hm => hnb b hm hb) upd_same ?_
    exact paired_memS (fun t e ht h => by rw [upd_ne (fun z => hnb t ht (by rw [z]; exact hb))]; exact h) pr'
theorem sc_Schedule_done : FnScope ["self"] ["self"] (defScope s_Schedule_done) := ⟨rfl, rfl, rfl, by decide +kernel, rfl, by decide +kernel, by decide +kernel⟩
theorem ok_sdone (T : Txt K w mg C) : Pro P w K mg base 1 C.Schedule "done" (spSDone C.Schedule) := by
  refine pro_of T.p_Schedule_done T.cl_Schedule sc_Schedule_done (fun vs H Q E h => ?_) (fun f cdv A outer s H vs Q E hr h => ?_)
  · obtain ⟨p, d, L, n, rfl, _⟩ := h
    rfl
  · obtain ⟨p, d, L, n, rfl, S, k⟩ := h
    obtain ⟨⟨dx, h1⟩, hd, ok⟩ := id S
    refine ⟨_, (pss_one (ps_ret (pe_fld (pv 0) rfl))), ?_⟩
    exact ⟨_, rfl, p, _, dx, _, _, rfl, h1, T.cl_Schedule, T.n_Schedule_portions, fsD_portions d n, k⟩
end
end VL

set_option Elab.async false
set_option linter.all false
set_option maxRecDepth 100000
set_option maxHeartbeats 4000000
set_option pp.maxSteps 300
namespace VL
open PySem PySem.Spec PyProof.Rows L2

/-- the schedule at p and the state of drawing at q; H0 stays -/
structure Jn (C : Addr) (H0 H : Hp) (p d q : Addr) (L : Sd) (n : Int) : Prop where
  same : Same H0 H
  np : H0 p = none
  nd : H0 d = none
  nq : H0 q = none
  S : SchA C H p d L n
  q : StA H q
theorem Jn.mono {C p d q : Addr} {H0 H H' : Hp} {L : Sd} {n : Int} (J : Jn C H0 H p d q L n) (s : Same H H') : Jn C H0 H' p d q L n :=
  ⟨J.same.trans s, J.np, J.nd, J.nq, J.S.same s, J.q.same s⟩
theorem Jn.kp {C p d q : Addr} {H0 H H' : Hp} {L : Sd} {n : Int} (J : Jn C H0 H p d q L n) (k : Kp q H H') (Sq : StA H' q) : Jn C H0 H' p d q L n := by
  obtain ⟨s0, np, nd, nq, ⟨⟨dx, h1⟩, hd, ok⟩, z, hz, _⟩ := J
  have h2 : p ≠ q := ne_of h1 hz (by intro e; cases e)
  have h3 : d ≠ q := ne_of hd hz (by intro e; cases e)
  exact ⟨k.same s0 nq, np, nd, nq, ⟨⟨dx, k _ _ h1 h2⟩, k _ _ hd h3, ok⟩, Sq⟩
theorem Jn.k2 {C p d d' q : Addr} {H0 H H' : Hp} {L L' : Sd} {n n' : Int} (J : Jn C H0 H p d q L n) (k : K2 p d H H') (S' : SchA C H' p d' L' n') (hd' : d' = d ∨ H d' = none) : Jn C H0 H' p d' q L' n' := by
  obtain ⟨s0, np, nd, nq, S, z, hz, b⟩ := J
  refine ⟨fun c o e => k _ _ (s0 _ _ e) (ne_of_none e np) (ne_of_none e nd), np, ?_, nq, S', z, k.lst S hz, b⟩
  rcases hd' with rfl | h
  · exact nd
  · exact s0.free h
theorem Jn.ob {C p d q : Addr} {H0 H : Hp} {L : Sd} {n : Int} (J : Jn C H0 H p d q L n) : ∃ dx, H p = some (.ins C dx (fsD d n)) := J.S.ob
/-- a list of pairs as data -/
def dPairs (E : Sd) : List PyData := E.map fun e => .tuple [.int (e.1 : Int), .int e.2]
theorem dp_pairs {K : PySem.W.Frag} {H : Hp} : ∀ {ts : List Addr} {E : Sd}, Paired (fun t (e : Nat × Int) => H t = some (.tup [lV e.1, .int e.2])) ts E → DpAll K H (ts.map V.ref) (dPairs E)
  | [], [], _ => .nil
  | [], e :: E, h => by cases h
  | t :: ts, [], h => by cases h
  | t :: ts, e :: E, h => by
    cases h with
    | cons r rr => exact .cons (.tup (SqT.of r) (.cons (.int _) (.cons (.int _) .nil))) (dp_pairs rr)
theorem shaped_pairs (E : Sd) : SeqAt.shaped (.list (dPairs E)) = true := by
  have h1 : PyData.canLayAll0 (dPairs E) = true := by
    induction E with
    | nil => rfl
    | cons e E ih =>
      show PyData.canLayAll0 (.tuple [.int (e.1 : Int), .int e.2] :: dPairs E) = true
      simp [PyData.canLayAll0, PyData.canLay0, ih]
  have h2 : PyData.depthAll (dPairs E) ≤ 2 := by
    induction E with
    | nil => decide
    | cons e E ih =>
      show PyData.depthAll (.tuple [.int (e.1 : Int), .int e.2] :: dPairs E) ≤ 2
      have ih := ih (by
        have : PyData.canLayAll0 (.tuple [.int (e.1 : Int), .int e.2] :: dPairs E) = true := h1
        simpa [PyData.canLayAll0, PyData.canLay0] using this)
      simp [PyData.depthAll, PyData.depth]
      omega
  unfold SeqAt.shaped
  rw [Bool.and_eq_true]
  refine ⟨by simpa [PyData.canLay0] using h1, decide_eq_true ?_⟩
  show PyData.depth (.list (dPairs E)) ≤ 64
  simp [PyData.depth]
  omega
theorem eqv_self {d : PyData} (h : SeqAt.shaped d = true) : PyData.eqv d d = true := by
  refine SeqAt.eqv_refl _ ?_
  unfold SeqAt.shaped at h
  exact (Bool.and_eq_true_iff.mp h).1
theorem atI_cons {α : Type} {x : α} {xs : List α} : atI (x :: xs) 0 = some x := by
  unfold atI ixN
  rw [if_pos (Int.le_refl 0), if_pos (by rw [List.length_cons]; omega)]
  rfl
theorem at_len {P : List Nat} {m : Nat} (h : P.getLast? = some m) : atI (P.map lV) (((P.map lV).length : Int) - 1) = some (lV m) := by
  obtain ⟨ys, e⟩ := List.getLast?_eq_some_iff.mp h
  rw [e, List.map_append]
  unfold atI ixN
  have hl : ((ys.map lV ++ [m].map lV).length : Int) = (ys.length : Int) + 1 := by simp
  rw [hl, if_pos (by omega), if_pos (by omega)]
  show (ys.map lV ++ [m].map lV)[_]? = _
  have e : ((ys.length : Int) + 1 - 1).toNat = (ys.map lV).length := by rw [List.length_map]; omega
  rw [e]
  simp
def dInts (P : List Nat) : List PyData := P.map fun (k : Nat) => PyData.int (k : Int)
theorem dp_ints {K : PySem.W.Frag} {H : Hp} : ∀ P : List Nat, DpAll K H (P.map lV) (dInts P)
  | [] => .nil
  | a :: P => .cons (.int _) (dp_ints P)
theorem ints_lay : ∀ P : List Nat, PyData.canLayAll0 (dInts P) = true
  | [] => rfl
  | a :: P => by
    show PyData.canLayAll0 (.int (a : Int) :: dInts P) = true
    simp [PyData.canLayAll0, PyData.canLay0, ints_lay P]
theorem ints_depth : ∀ P : List Nat, PyData.depthAll (dInts P) = 0
  | [] => rfl
  | a :: P => by
    show PyData.depthAll (.int (a : Int) :: dInts P) = 0
    simp [PyData.depthAll, PyData.depth, ints_depth P]
theorem sh_pass (P : List Nat) (b : Bool) : SeqAt.shaped (.tuple [.list (dInts P), .bool b]) = true := by
  unfold SeqAt.shaped
  simp [PyData.canLay0, PyData.canLayAll0, PyData.depth, PyData.depthAll, ints_lay, ints_depth]
theorem sh_one {m : Nat} : SeqAt.shaped (.list [.int (m : Int)]) = true := by
  unfold SeqAt.shaped
  simp [PyData.canLay0, PyData.canLayAll0, PyData.depth, PyData.depthAll]
theorem eqv_pair (a b : Nat × Int) : PyData.eqv (.tuple [.int (a.1 : Int), .int a.2]) (.tuple [.int (b.1 : Int), .int b.2]) = decide (a = b) := by
  have e1 : PyData.eqv (.tuple [.int (a.1 : Int), .int a.2]) (.tuple [.int (b.1 : Int), .int b.2]) = (((a.1 : Int) == (b.1 : Int)) && (a.2 == b.2)) := by simp [PyData.eqv, PyData.eqvAll]
  rw [e1]
  by_cases h : a = b
  · subst h
    simp
  · rw [decide_eq_false h]
    obtain ⟨a1, a2⟩ := a
    obtain ⟨b1, b2⟩ := b
    by_cases h1 : (a1 : Int) = (b1 : Int)
    · have h3 : a1 = b1 := by omega
      have h2 : a2 ≠ b2 := fun e => h (by rw [h3, e])
      simp [h2]
    · simp [h1]
theorem pairedS_get {α β : Type} {G : α → β → Prop} : ∀ {l₁ : List α} {l₂ : List β}, Paired G l₁ l₂ → ∀ (i : Nat) (h1 : i < l₁.length), ∃ h2 : i < l₂.length, G l₁[i] l₂[i]
  | _, _, .cons r t, 0, _ => ⟨Nat.succ_pos _, r⟩
  | _, _, .cons r t, i + 1, h1 => by
    obtain ⟨h2, g⟩ := pairedS_get t i (Nat.lt_of_succ_lt_succ h1)
    exact ⟨Nat.succ_lt_succ h2, g⟩
theorem any_pairs (e : Nat × Int) : ∀ E : Sd, (dPairs E).any (fun z => PyData.eqv z (.tuple [.int (e.1 : Int), .int e.2])) = decide (e ∈ E)
  | [] => rfl
  | a :: E => by
    show (PyData.eqv (.tuple [.int (a.1 : Int), .int a.2]) (.tuple [.int (e.1 : Int), .int e.2]) || (dPairs E).any fun z => PyData.eqv z (.tuple [.int (e.1 : Int), .int e.2])) = _
    rw [any_pairs e E, eqv_pair]
    by_cases h : a = e
    · subst h; simp
    · have h2 : e ≠ a := fun q => h q.symm
      simp [h, h2]
theorem sh_pair (e : Nat × Int) : SeqAt.shaped (.tuple [.int (e.1 : Int), .int e.2]) = true := by
  unfold SeqAt.shaped
  simp [PyData.canLay0, PyData.canLayAll0, PyData.depth, PyData.depthAll]
theorem paired_snocS {α β : Type} {G : α → β → Prop} {a : α} {b : β} (h : G a b) : ∀ {l₁ : List α} {l₂ : List β}, Paired G l₁ l₂ → Paired G (l₁ ++ [a]) (l₂ ++ [b])
  | _, _, .nil => .cons h .nil
  | _, _, .cons r t => .cons r (paired_snocS h t)
theorem filt_snoc {α : Type} {L : List α} {p : α → Bool} {i : Nat} (hi : i < L.length) : (L.take (i + 1)).filter p = (L.take i).filter p ++ if p L[i] = true then [L[i]] else [] := by
  rw [List.take_add_one, List.getElem?_eq_getElem hi, List.filter_append]
  congr 1
  show List.filter p [L[i]] = _
  rw [List.filter_cons]
  split <;> rfl
theorem pairedS_len {α β : Type} {G : α → β → Prop} : ∀ {l₁ : List α} {l₂ : List β}, Paired G l₁ l₂ → l₁.length = l₂.length
  | _, _, .nil => rfl
  | _, _, .cons _ t => congrArg Nat.succ (pairedS_len t)
theorem pend_len (L : Sd) : (pendD L).length ≤ 4 := by
  unfold pendD
  rw [List.length_map]
  exact lanes_len L
section
variable {P : Program} {w : World} {K : PySem.W.Frag} {mg : Str → Option Value} {base : Heap} {C : Ad}
theorem sc_law : FnScope ["script", "state", "schedule", "now", "k", "lanes", "whole", "cost", "many", "before", "kind", "lane", "due", "since", "late", "other", "tick", "pair"] ["script"] (defScope s_law) := ⟨rfl, rfl, rfl, by decide +kernel, rfl, by decide +kernel, by decide +kernel⟩
theorem ok_law {f : Addr} {fd : FuncData} (F : Fun K "law" "law" s_law f fd) (T : Txt K w mg C) : FnOk P w K mg base CX0 8 f fd ["script"] (spLaw K) := by
  have KSchedule : Mak P w K mg base 1 "Schedule" C.Schedule (spSInit C.Schedule) := ok_sinit T
  have Mis_overdue : MetK P w K mg base 1 C.Schedule "is_overdue" (spSOver C.Schedule) 2 ["now"] catG := ok_sover T
  have Mnext_pass : MetK P w K mg base 2 C.Schedule "next_pass" (spSNext C.Schedule) 1 ["now"] catG := ok_snext T
  have Mwake : MetK P w K mg base 1 C.Schedule "wake" (spSWake C.Schedule) 2 ["now"] catG := ok_swake T
  have Mportion : Met P w K mg base 1 C.Schedule "portion" (spSPortion C.Schedule) := ok_sportion T
  have Mend : Met P w K mg base 1 C.Schedule "end" (spSEnd C.Schedule K) := ok_send T
  have Ppending : Pro P w K mg base 1 C.Schedule "pending" (spSPending C.Schedule) := ok_spending T
  have Pdone : Pro P w K mg base 1 C.Schedule "done" (spSDone C.Schedule) := ok_sdone T
  have G_law_cell : Cal P w K mg base 1 "_law_cell" (spCellA K) := ok_cell T
  have G_law_start : Cal P w K mg base 1 "_law_start" spStart := ok_start T
  have G_law_digit : Cal P w K mg base 1 "_law_digit" spDigit := ok_digit T
  obtain ⟨na, nu, cv, cn, hq, _⟩ := T.cc_Schedule_PATIENCE
  obtain ⟨fc, fdc, Fc, ⟨vc, ic, kc⟩, bc⟩ := T.m_Schedule___contains__
  have GC : FnOk P w K mg base CX0 1 fc fdc ["self", "lane"] (spSHas C.Schedule) := ok_shas Fc T
  refine F.ok sc_law (fun vs H Q E h => ?_) (fun cdv A outer s H vs Q E hr h => ?_)
  · obtain ⟨a, ns, rfl, _⟩ := h
    rfl
  · obtain ⟨a, ns, rfl, hS, hlen, k⟩ := h
    refine ⟨_, (pss_cons (ps_set (i := 1) sc_law.nd rfl (Or.inl rfl) (pe_c G_law_start hr (by decide) (by rfl) (pa_cons (pe_c G_law_cell hr (by decide) (by rfl) (pa_cons (pv 0) (pa_cons pe_int pa_nil))) (pa_cons pe_int pa_nil)))) (pss_cons (ps_set (i := 2) sc_law.nd rfl (Or.inl rfl) (pe_mk0 KSchedule hr (by decide) (by rfl))) (pss_cons (ps_set (i := 3) sc_law.nd rfl (Or.inl rfl) (pe_c G_law_digit hr (by decide) (by rfl) (pa_cons (pv 1) (pa_cons pe_int pa_nil)))) (pss_cons (ps_for PassesOwn.never rfl (pi_range1 (by rfl) T.z_range (pa_cons (pe_op op_add pe_int (pe_c G_law_digit hr (by decide) (by rfl) (pa_cons (pv 1) (pa_cons pe_int pa_nil)))) pa_nil)) (pg_name (i := 4) sc_law.nd rfl (Or.inl rfl)) (pss_cons (ps_expr (pe_mtK Mwake hr (by decide) (pv 2) (pa_cons (pe_op op_add pe_int (pe_c G_law_digit hr (by decide) (by rfl) (pa_cons (pv 1) (pa_cons pe_int pa_nil)))) pa_nil) (pk_cons (pv 3) pk_nil))) (pss_one (ps_set (i := 3) sc_law.nd rfl (Or.inl rfl) (pe_op op_add (pv 3) (pe_c G_law_digit hr (by decide) (by rfl) (pa_cons (pv 1) (pa_cons pe_int pa_nil)))))))) (pss_cons (ps_asg (pe_mtK0 Mnext_pass hr (by decide) (pv 2) (pk_cons (pv 3) pk_nil)) (pg_tup rfl (pgs_cons (pg_name (i := 5) sc_law.nd rfl (Or.inr rfl)) (pgs_cons (pg_name (i := 6) sc_law.nd rfl (Or.inl rfl)) pgs_nil)))) (pss_cons (ps_if (PW.pt (pw_or (pt_cmpR op_isnot_bl (pv 6) pe_bl (nomark _)) (pw_or1 (pt_cmpR (op_neD hr.units) (pv 5) (pe_lst (pa_cons (pe_ix ix_tup (pe_ix ix_list (pe_pr Ppending hr (by decide) (pv 2)) pe_int (fun _ _ => rfl)) pe_int (fun _ _ => rfl)) pa_nil)) (nomark _))))) (pss_one (ps_ret pe_bl)) pss_nil) (pss_cons (ps_set (i := 7) sc_law.nd rfl (Or.inl rfl) (pe_op op_add pe_int (pe_c G_law_digit hr (by decide) (by rfl) (pa_cons (pv 1) (pa_cons pe_int pa_nil))))) (pss_cons (ps_set (i := 8) sc_law.nd rfl (Or.inl rfl) (pe_c G_law_digit hr (by decide) (by rfl) (pa_cons (pv 1) (pa_cons (pv 7) pa_nil)))) (pss_cons (ps_for PassesOwn.never rfl (pi_range1 (by rfl) T.z_range (pa_cons (pv 8) pa_nil)) (pg_name (i := 4) sc_law.nd rfl (Or.inl rfl)) (pss_one (ps_if (pt_cmpR op_isnot_bl (pe_mt Mportion hr (by decide) (pv 2) (pa_cons (pv 7) pa_nil)) pe_bl (nomark _)) (pss_one (ps_ret pe_bl)) pss_nil))) (pss_cons (ps_set (i := 9) sc_law.nd rfl (Or.inr rfl) (pe_pr Ppending hr (by decide) (pv 2))) (pss_cons (ps_set (i := 10) sc_law.nd rfl (Or.inl rfl) (pe_c G_law_digit hr (by decide) (by rfl) (pa_cons (pv 1) (pa_cons pe_int pa_nil)))) (pss_cons (ps_if (pt_cmpR op_eq (pv 10) pe_int (nomark _)) (pss_cons (ps_set (i := 11) sc_law.nd rfl (Or.inl rfl) (pe_c G_law_digit hr (by decide) (by rfl) (pa_cons (pv 1) (pa_cons pe_int pa_nil)))) (pss_cons (ps_expr (pe_mtK Mwake hr (by decide) (pv 2) (pa_cons (pv 11) pa_nil) (pk_cons (pv 3) pk_nil))) (pss_cons (ps_set (i := 12) sc_law.nd rfl (Or.inl rfl) (pv 8)) (C8.pss_cut (ps_if (pt_cmpR op_le (pv 11) (pe_ix ix_list (pv 5) pe_int (fun _ _ => rfl)) (nomark _)) (pss_one (ps_set (i := 12) sc_law.nd rfl (Or.inl rfl) pe_int)) pss_nil) (pss_cons (ps_if (PW.pt (pw_or (pt_cmpR op_ne (pe_pr Pdone hr (by decide) (pv 2)) (pv 12) (nomark _)) (pw_or1 (pt_cmpR (op_notIn_own vc ic GC (hr.mono (by decide)) bc pass0) (pv 11) (pv 2) rfl)))) (pss_one (ps_ret pe_bl)) pss_nil) (pss_one (ps_ret (pe_cmpR (op_eqD hr.units) (pe_lc (own := [("pair", 17)]) (g := gName 17) (tt := _) rfl sc_law.nd (pi_list (pe_pr Ppending hr (by decide) (pv 2))) (blkOk_by (N := ["script", "state", "schedule", "now", "k", "lanes", "whole", "cost", "many", "before", "kind", "lane", "due", "since", "late", "other", "tick", "pair"]) (sc := (defScope s_law)) (by decide +kernel)) (fun _ _ _ _ _ => pg_name (i := 17) sc_law.nd rfl (Or.inl rfl)) (fun _ _ _ _ _ => pts_one (pt_cmpR (op_inDS (K := K) rfl (u65 hr)) (pv 17) (pv 9) rfl)) (fun _ _ _ _ _ => (pv 17))) (pv 9) (nomark _))))))))) pss_nil) (pss_cons (ps_if (pt_cmpR op_eq (pv 10) pe_int (nomark _)) (pss_cons (ps_for PassesOwn.never rfl (pi_range1 (by rfl) T.z_range (pa_cons (pe_op op_sub (pe_op op_sub (pv 7) (pv 8)) pe_int) pa_nil)) (pg_name (i := 4) sc_law.nd rfl (Or.inl rfl)) (pss_one (ps_if (pt_cmpR op_isnot_bl (pe_mt Mportion hr (by decide) (pv 2) (pa_cons (pv 7) pa_nil)) pe_bl (nomark _)) (pss_one (ps_ret pe_bl)) pss_nil))) (pss_cons (ps_if (pt_cmpR op_isnot_bl (pe_mt Mportion hr (by decide) (pv 2) (pa_cons (pv 7) pa_nil)) pe_bl (nomark _)) (pss_one (ps_ret pe_bl)) pss_nil) (pss_cons (ps_expr (pe_mt Mend hr (by decide) (pv 2) (pa_cons (pv 5) pa_nil))) (pss_one (ps_ret (pe_and (pe_cmpR op_eq (pe_pr Pdone hr (by decide) (pv 2)) pe_int (nomark _)) (pe_one (pe_cmpR (op_eqD hr.units) (pe_pr Ppending hr (by decide) (pv 2)) (pe_lc (own := [("pair", 17)]) (g := gName 17) (tt := _) rfl sc_law.nd (pi_list (pv 9)) (blkOk_by (N := ["script", "state", "schedule", "now", "k", "lanes", "whole", "cost", "many", "before", "kind", "lane", "due", "since", "late", "other", "tick", "pair"]) (sc := (defScope s_law)) (by decide +kernel)) (fun _ _ _ _ _ => pg_name (i := 17) sc_law.nd rfl (Or.inl rfl)) (fun _ _ _ _ _ => pts_one (pt_cmpR (op_notIn_seqS (K := K) rfl) (pe_ix (ix_tupS (K := K) rfl) (pv 17) pe_int (fun _ _ => rfl)) (pv 5) rfl)) (fun _ _ _ _ _ => (pv 17))) (nomark _))))))))) pss_nil) (pss_cons (ps_asg (pe_ix ix_list (pv 9) (pe_c G_law_digit hr (by decide) (by rfl) (pa_cons (pv 1) (pa_cons (pe_callB call_len_seq (by rfl) T.z_len PySem.boot_len (pa_cons (pv 9) pa_nil)) pa_nil))) (fun _ _ => rfl)) (pg_tup rfl (pgs_cons (pg_name (i := 11) sc_law.nd rfl (Or.inl rfl)) (pgs_cons (pg_name (i := 13) sc_law.nd rfl (Or.inl rfl)) pgs_nil)))) (pss_cons (ps_set (i := 14) sc_law.nd rfl (Or.inl rfl) (pe_callB (call_max2 rfl) (by rfl) T.z_max (by decide +kernel) (pa_cons (pv 3) (pa_cons (pe_op op_add (pv 13) (pe_ix ix_tup (ClX.pe_cval (C8.pe_gc (by rfl) T.g_Schedule)) (pv 11) (fun _ _ => rfl))) pa_nil)))) (pss_cons (ps_asg (pe_mtK0 Mnext_pass hr (by decide) (pv 2) (pk_cons (pv 14) pk_nil)) (pg_tup rfl (pgs_cons (pg_name (i := 5) sc_law.nd rfl (Or.inr rfl)) (pgs_cons (pg_name (i := 6) sc_law.nd rfl (Or.inl rfl)) pgs_nil)))) (pss_cons (ps_if (PW.pt (pw_or (pt_cmpR op_isnot_bl (pv 6) pe_bl (nomark _)) (pw_or (pt_cmpR op_notIn_seq (pv 11) (pv 5) rfl) (pw_or1 (pt_cmpR op_ne (pe_pr Pdone hr (by decide) (pv 2)) (pv 8) (nomark _)))))) (pss_one (ps_ret pe_bl)) pss_nil) (pss_cons (ps_for PassesOwn.never rfl (pi_list (pv 9)) (pg_tup rfl (pgs_cons (pg_name (i := 15) sc_law.nd rfl (Or.inl rfl)) (pgs_cons (pg_name (i := 16) sc_law.nd rfl (Or.inl rfl)) pgs_nil))) (pss_one (ps_if (pt_cmpR op_ne (pe_cmpR op_in_seq (pv 15) (pv 5) rfl) (pe_cmpR op_le (pv 15) (pe_ix ix_list (pv 5) (pe_op op_sub (pe_callB call_len_seq (by rfl) T.z_len PySem.boot_len (pa_cons (pv 5) pa_nil)) pe_int) (fun _ _ => rfl)) (nomark _)) (nomark _)) (pss_one (ps_ret pe_bl)) pss_nil))) (pss_cons (ps_if (pt_cmpR op_eq (pv 10) pe_int (nomark _)) (pss_cons (ps_expr (pe_mtK Mwake hr (by decide) (pv 2) (pa_cons pe_int pa_nil) (pk_cons (pv 14) pk_nil))) (pss_one (ps_ret (pe_and (pe_cmpR (op_eqD hr.units) (pe_mtK0 Mnext_pass hr (by decide) (pv 2) (pk_cons (pv 14) pk_nil)) (pe_tup (pa_cons (pe_op op_cat (pe_lst (pa_cons pe_int pa_nil)) (pv 5)) (pa_cons pe_bl pa_nil))) (nomark _)) (pe_one (pe_cmpR op_eq (pe_pr Pdone hr (by decide) (pv 2)) pe_int (nomark _))))))) pss_nil) (pss_one (ps_ret (pe_cmpR op_is_bl (pe_mtK Mis_overdue hr (by decide) (pv 2) (pa_cons (pe_ix ix_list (pv 5) (pe_op op_sub (pe_callB call_len_seq (by rfl) T.z_len PySem.boot_len (pa_cons (pv 5) pa_nil)) pe_int) (fun _ _ => rfl)) pa_nil) (pk_cons (pv 14) pk_nil)) pe_bl (nomark _))))))))))))))))))))))), ?_⟩
    -- state
    refine ⟨_, rfl, a, ns, 0, rfl, hS, Int.le_refl _, fun zc => ?_⟩
    refine ⟨zc, 0, rfl, fun q H1 nq s1 Sq => ?_⟩
    intro p dx np ndx nex
    refine ⟨p, dx, rfl, upd_same, fun d H2 hd S keep => ⟨rfl, ?_⟩⟩
    have s2 : Same H1 H2 := fun b o e => by
      refine keep b o ?_ (ne_of_none e np)
      rw [upd_ne (ne_of_none e np), upd_ne (ne_of_none e ndx)]
      exact e
    have nd : H1 d = none := by
      cases e : H1 d with
      | none => rfl
      | some o =>
        rw [upd_ne (ne_of_none e np), upd_ne (ne_of_none e ndx), e] at hd
        cases hd
    have J0 : Jn C.Schedule H H2 p d q [] 0 := ⟨s1.trans s2, s1.free np, s1.free nd, nq, S, Sq.same s2⟩
    refine ⟨_, rfl, q, 100, rfl, J0.q, by decide, fun now0 H3 S3 k3 _ _ => ?_⟩
    have J1 := J0.kp k3 S3
    -- lanes are woken
    refine ⟨_, rfl, q, 5, rfl, J1.q, by decide, fun r4 H4 S4 k4 g0 g1 => ?_⟩
    have J2 := J1.kp k4 S4
    refine ⟨_, _, rfl, rfl, 1 + r4, rfl, by omega, by omega, ?_⟩
    refine for_range (lo := 0) (n := (1 + r4).toNat) (fun i σ H' => ∃ L now, Jn C.Schedule H H' p d q L 0 ∧ (∀ e ∈ L, 1 ≤ e.1 ∧ now ≤ e.2 + 29 * i) ∧ (0 < i → L ≠ []) ∧ ∃ kk, σ = [some (.ref a), some (.ref q), some (.ref p), some (.int now), kk, none, none, none, none, none, none, none, none, none, none, none, none, none]) ⟨[], now0, J2, fun e he => (by cases he), fun h => absurd h (Nat.lt_irrefl _), none, rfl⟩ ?_ ?_
    · rintro i σ H5 hi ⟨L, now, J, hL, hne, kk, rfl⟩
      obtain ⟨dx5, hp5⟩ := J.ob
      refine ⟨_, rfl, p, dx5, _, rfl, hp5, rfl, _, rfl, q, 3, rfl, J.q, by decide, fun r6 H6 S6 k6 g2 g3 => ?_⟩
      have J6 := J.kp k6 S6
      obtain ⟨l, hl, el⟩ : ∃ l : Nat, (1 ≤ l ∧ l < 4) ∧ 1 + r6 = (l : Int) := ⟨(1 + r6).toNat, by omega, by omega⟩
      refine ⟨_, _, rfl, rfl, _, rfl, rfl, rfl, p, d, L, 0, l, now, (by rw [show lV l = V.int (1 + r6) by unfold lV; rw [el]]; rfl), J6.S, hl.2, fun v H7 S7 k7 => ?_⟩
      have J7 := J6.k2 k7 S7 (.inl rfl)
      have en : wakeN L l 0 = 0 := by unfold wakeN; split <;> rfl
      rw [en] at J7
      refine ⟨_, rfl, _, rfl, q, 30, rfl, J7.q, by decide, fun r8 H8 S8 k8 g4 g5 => ?_⟩
      refine ⟨_, _, rfl, rfl, ?_⟩
      refine ⟨wakeD L l now, now + r8, J7.kp k8 S8, fun e he => ?_, fun _ => ?_, _, rfl⟩
      · unfold wakeD at he
        split at he
        · have h1 := hL e he
          have h2 := h1.2
          exact ⟨h1.1, by omega⟩
        · rcases List.mem_append.mp he with he | he
          · have h1 := hL e he
            have h2 := h1.2
            exact ⟨h1.1, by omega⟩
          · rw [List.mem_singleton.mp he]
            refine ⟨hl.1, ?_⟩
            show now + r8 ≤ now + _
            omega
      · unfold wakeD
        split
        · rename_i hs
          intro e
          rw [e] at hs
          cases hs
        · intro e
          simp at e
    · rintro σ H5 ⟨L, now, J, hL, hne, kk, rfl⟩
      have hne := hne (by omega)
      obtain ⟨ok⟩ : Nonempty (OkD L) := ⟨J.S.ok⟩
      have hov : oversD L now = [] := by
        unfold oversD
        rw [List.filter_eq_nil_iff]
        intro l hl q
        have h1 := (mem_lanes ok).mp hl
        unfold overD at q
        cases e : look L l with
        | none => rw [e] at h1; cases h1
        | some t =>
          rw [e] at q
          have q := of_decide_eq_true q
          have h2 := hL _ (look_mem e)
          have h3 : 5000 ≤ pat l := by
            unfold pat
            rw [if_neg (by omega)]
            split
            · decide
            · split <;> decide
          have h4 : now ≤ t + 29 * _ := h2.2
          omega
      obtain ⟨m, lr, hm⟩ : ∃ m lr, lanesD L = m :: lr := by
        cases e : lanesD L with
        | nil => exact absurd ((lanes_nil ok).mp e) hne
        | cons a r => exact ⟨a, r, rfl⟩
      have hm4 : 1 ≤ m ∧ m < 4 := by
        have h1 : m ∈ lanesD L := by rw [hm]; exact List.mem_cons_self
        have h2 := (mem_lanes ok).mp h1
        refine ⟨?_, look_some_lt ok h2⟩
        cases e : look L m with
        | none => rw [e] at h2; cases h2
        | some t => exact (hL _ (look_mem e)).1
      have ep : passD L now = [m] := by
        unfold passD
        rw [hov, hm]
        rfl
      have ew : wholeD L now = false := by
        unfold wholeD
        rw [hov]
        rfl
      obtain ⟨pr', hpend⟩ := lanes_cons hm
      -- the first pass
      obtain ⟨dx5, hp5⟩ := J.ob
      refine ⟨_, rfl, p, dx5, _, rfl, hp5, rfl, _, rfl, rfl, rfl, p, d, L, 0, now, rfl, J.S, fun he => absurd ((lanes_nil ok).mp he) hne, fun _ t li H6 s6 nt nli ht hli => ?_⟩
      rw [ep] at hli
      rw [ew] at ht
      refine ⟨t, _, rfl, SqT.of ht, rfl, ?_⟩
      refine ⟨_, _, rfl, _, _, rfl, rfl, ?_⟩
      have J6 := J.mono s6
      have hliq : li ≠ q := by
        obtain ⟨z, e, _⟩ := J.q
        exact (ne_of_none e nli).symm
      refine ⟨_, rfl, _, _, rfl, rfl, _, rfl, ?_⟩
      refine iteF ?_
      obtain ⟨dx6, hp6⟩ := J6.ob
      refine ⟨_, rfl, _, rfl, p, dx6, _, rfl, hp6, p, d, L, 0, rfl, J6.S, fun r ts H7 s7 nr nts hrt h7r pr => ?_⟩
      obtain ⟨t0, ts', rfl, g0⟩ : ∃ t0 ts', ts = t0 :: ts' ∧ H7 t0 = some (.tup [lV m, .int ((look L m).getD 0)]) := by
        rw [hpend] at pr
        cases ts with
        | nil => cases pr
        | cons t0 ts' => cases pr with | cons g0 gr => exact ⟨t0, ts', rfl, g0⟩
      refine ⟨r, _, 0, .ref t0, rfl, rfl, SqL.of h7r, atI_cons, ?_⟩
      refine ⟨t0, _, 0, lV m, rfl, rfl, SqT.of g0, rfl, ?_⟩
      refine ⟨by show 1 ≤ sizeLine; decide, fun l1 hl1 => ?_⟩
      have J7 := J6.mono s7
      have hli7 := s7 _ _ hli
      have s8 : Same H7 (upd H7 l1 (.lst [lV m])) := Same.new hl1
      refine ⟨.list [.int (m : Int)], .list [.int (m : Int)], .lst (SqL.of (s8 _ _ hli7)) (.cons (.int _) .nil), .lst (SqL.of upd_same) (.cons (.int _) .nil), sh_one, sh_one, _, rfl, ?_⟩
      rw [eqv_self sh_one]
      refine iteF ?_
      have J8 := J7.mono s8
      have hli8 := s8 _ _ hli7
      clear s8
      generalize upd H7 l1 (.lst [lV m]) = H8 at J8 hli8 ⊢
      -- cost, many
      refine ⟨_, rfl, q, 7, rfl, J8.q, by decide, fun r9 H9 S9 k9 g2 g3 => ?_⟩
      have J9 := J8.kp k9 S9
      have hli9 := k9 _ _ hli8 hliq
      refine ⟨_, _, rfl, rfl, ?_⟩
      refine ⟨_, rfl, _, rfl, q, 2 + r9, rfl, J9.q, by omega, fun many H10 S10 k10 g4 g5 => ?_⟩
      have J10 := J9.kp k10 S10
      have hli10 := k10 _ _ hli9 hliq
      obtain ⟨cost, hcost⟩ : ∃ cost, cost = 2 + r9 := ⟨_, rfl⟩
      rw [← hcost] at g5
      refine ⟨_, rfl, many, rfl, by omega, by omega, ?_⟩
      refine for_range (lo := 0) (n := many.toNat) (fun i σ H' => Jn C.Schedule H H' p d q L (i : Int) ∧ H' li = some (.lst [lV m]) ∧ ∃ kk, σ = [some (.ref a), some (.ref q), some (.ref p), some (.int now), kk, some (.ref li), some (.bl false), some (.int cost), some (.int many), none, none, none, none, none, none, none, none, none]) ⟨J10, hli10, kk, by rw [hcost]; rfl⟩ ?_ ?_
      · rintro i σ H11 hi ⟨J11, hli11, kk, rfl⟩
        obtain ⟨dx11, hp11⟩ := J11.ob
        refine ⟨_, rfl, p, dx11, _, rfl, hp11, rfl, _, rfl, p, d, L, (i : Int), cost, rfl, J11.S, fun H12 S12 k12 => ?_⟩
        rw [if_neg hne] at S12 ⊢
        refine ⟨_, _, rfl, rfl, _, rfl, ?_⟩
        rw [decide_eq_false (show ¬ cost ≤ (i : Int) + 1 by omega)]
        refine iteF ?_
        exact ⟨J11.k2 k12 S12 (.inl rfl), k12.lst J11.S hli11, _, rfl⟩
      rintro σ H11 ⟨J11, hli11, kk, rfl⟩
      have em : ((many.toNat : Nat) : Int) = many := by omega
      rw [em] at J11
      -- before
      obtain ⟨dx11, hp11⟩ := J11.ob
      refine ⟨_, rfl, p, dx11, _, rfl, hp11, p, d, L, many, rfl, J11.S, fun rb tb H12 s12 nrb ntb hrb h12b prb => ?_⟩
      have J12 := J11.mono s12
      have hli12 := s12 _ _ hli11
      have hbq : rb ≠ q := by
        obtain ⟨z, e, _⟩ := J11.q
        exact (ne_of_none e nrb).symm
      refine ⟨_, rfl, q, 4, rfl, J12.q, by decide, fun kind H13 S13 k13 g6 g7 => ?_⟩
      have J13 := J12.kp k13 S13
      have hli13 := k13 _ _ hli12 hliq
      have hb13 := k13 _ _ h12b hbq
      have prb13 : Paired (fun t (e : Nat × Int) => H13 t = some (.tup [lV e.1, .int e.2])) tb (pendD L) := by
        refine paired_memS (fun t e _ h => k13 _ _ h ?_) prb
        obtain ⟨z, e, _⟩ := J12.q
        exact ne_of h e (by intro e; cases e)
      refine ⟨_, rfl, rfl, _, rfl, ?_⟩
      refine ite2 (fun _ => ?_) (fun _ => ?_)
      · -- kind 0
        refine ⟨_, rfl, q, 4, rfl, J13.q, by decide, fun r5 H14 S14 k14 f2 f3 => ?_⟩
        obtain ⟨l, hl, rfl⟩ : ∃ l : Nat, l < 4 ∧ r5 = (l : Int) := ⟨r5.toNat, by omega, by omega⟩
        have J14 := J13.kp k14 S14
        obtain ⟨dx14, hp14⟩ := J14.ob
        refine ⟨_, rfl, p, dx14, _, rfl, hp14, rfl, _, rfl, _, rfl, rfl, rfl, p, d, L, many, l, now, rfl, J14.S, hl, fun v H15 S15 k15 => ?_⟩
        have J15 := J14.k2 k15 S15 (.inl rfl)
        have hli15 := k15.lst J14.S (k14 _ _ hli13 hliq)
        have hb15 := k15.lst J14.S (k14 _ _ hb13 hbq)
        have prb15 : Paired (fun t (e : Nat × Int) => H15 t = some (.tup [lV e.1, .int e.2])) tb (pendD L) := by
          refine paired_memS (fun t e _ h => k15.tup J14.S (k14 _ _ h ?_)) prb13
          obtain ⟨z, e, _⟩ := J13.q
          exact ne_of h e (by intro e; cases e)
        refine ⟨_, rfl, ?_⟩
        obtain ⟨due, hdue⟩ : ∃ due, due = wakeN L l many := ⟨_, rfl⟩
        rw [wakeN_min ok hm] at hdue
        refine ⟨fun σ H' => H' = H15 ∧ σ = [some (.ref a), some (.ref q), some (.ref p), some (.int now), kk, some (.ref li), some (.bl false), some (.int cost), some (.int many), some (.ref rb), some (.int kind), some (.int (l : Int)), some (.int due), none, none, none, none, none], ?_, ?_⟩
        · refine ⟨_, rfl, _, rfl, li, _, 0, lV m, rfl, rfl, SqL.of hli15, atI_cons, _, _, rfl, rfl, _, rfl, ?_⟩
          refine ite2 (fun q => ?_) (fun q => ?_)
          · have q' : l ≤ m := by have := of_decide_eq_true q; omega
            rw [if_pos q'] at hdue
            exact ⟨rfl, by rw [hdue]; rfl⟩
          · have q' : ¬ l ≤ m := fun z => q (decide_eq_true (by omega))
            rw [if_neg q'] at hdue
            exact ⟨rfl, by rw [hdue]; rfl⟩
        rintro σ H16 ⟨rfl, rfl⟩
        rw [← wakeN_min ok hm] at hdue
        obtain ⟨dx15, hp15⟩ := J15.ob
        refine ⟨_, rfl, p, dx15, _, rfl, hp15, p, d, _, _, rfl, J15.S, _, rfl, rfl, _, rfl, ?_⟩
        refine iteNS (by rw [hdue]) ?_
        refine ⟨_, rfl, _, rfl, p, dx15, _, rfl, hp15, ⟨p, d, _, _, l, rfl, J15.S, _, rfl, ?_⟩⟩
        refine ⟨_, rfl, ?_⟩
        rw [look_wake, if_pos rfl]
        refine iteF ?_
        -- the pairs that were there
        refine ⟨_, rfl, p, dx15, _, rfl, hp15, p, d, _, _, rfl, J15.S, fun r2 t2 H16 s16 nr2 nt2 hrt2 h16r pr2 => ?_⟩
        refine ⟨r2, rfl, ⟨_, SqL.of h16r⟩, fun D hD => ?_⟩
        have hb16 := s16 _ _ hb15
        have hbD : rb ≠ D := ne_of_none hb16 hD
        have hrD : r2 ≠ D := ne_of_none h16r hD
        have ok' := J15.S.ok
        refine lc_it (walk_list (K := K) (a := r2) (xs := t2.map V.ref)) (fun i H' => ∃ us, H' = upd H16 D (.lst (us.map V.ref)) ∧ Paired (fun t (e : Nat × Int) => H16 t = some (.tup [lV e.1, .int e.2])) us (((pendD (wakeD L l now)).take i).filter fun e => decide (e ∈ pendD L))) ⟨[], rfl, .nil⟩ (fun i H' _ e => by obtain ⟨us, e, _⟩ := e; rw [e]; exact SqL.of (by rw [upd_ne hrD]; exact h16r)) ?_ ?_
        · rintro i x H17 H18 hi ⟨us, rfl, pu⟩ ⟨rfl, hx⟩
          have hi' : i < t2.length := by rw [List.length_map] at hi; exact hi
          obtain ⟨h2, g⟩ := pairedS_get pr2 i hi'
          have ex : x = .ref t2[i] := by
            rw [List.getElem?_map, List.getElem?_eq_getElem hi'] at hx
            exact (Option.some.inj hx).symm
          subst ex
          have et := filt_snoc (L := pendD (wakeD L l now)) (p := fun e => decide (e ∈ pendD L)) h2
          have gD : upd H16 D (.lst (us.map V.ref)) t2[i] = some (.tup [lV (pendD (wakeD L l now))[i].1, .int (pendD (wakeD L l now))[i].2]) := by rw [upd_ne (ne_of_none g hD)]; exact g
          have pD : Paired (fun t (e : Nat × Int) => upd H16 D (.lst (us.map V.ref)) t = some (.tup [lV e.1, .int e.2])) tb (pendD L) := paired_memS (fun t e _ h => by rw [upd_ne (ne_of_none (s16 _ _ h) hD)]; exact s16 _ _ h) prb15
          refine ⟨rfl, ?_⟩
          refine ⟨_, rfl, _, rfl, _, _, .tup (SqT.of gD) (.cons (.int _) (.cons (.int _) .nil)), .lst (SqL.of (by rw [upd_ne hbD]; exact hb16)) (dp_pairs pD), sh_pair _, shaped_pairs _, _, rfl, ?_⟩
          rw [any_pairs]
          refine ite2 (fun q => ?_) (fun q => ?_)
          · rw [if_pos q] at et
            refine ⟨_, rfl, _, upd_same, ?_, ?_⟩
            · rw [List.length_map, pairedS_len pu]
              have h1 := List.length_filter_le (fun e : Nat × Int => decide (e ∈ pendD L)) ((pendD (wakeD L l now)).take i)
              have h2 := List.length_take_le i (pendD (wakeD L l now))
              have := pend_len (wakeD L l now)
              exact small1000 (by omega)
            · refine ⟨us ++ [t2[i]], by rw [upd_upd, List.map_append]; rfl, ?_⟩
              rw [et]
              exact paired_snocS (G := fun t (e : Nat × Int) => H16 t = some (.tup [lV e.1, .int e.2])) g pu
          · rw [if_neg q, List.append_nil] at et
            exact ⟨us, rfl, by rw [et]; exact pu⟩
        · rintro H17 ⟨us, rfl, pu⟩
          rw [List.length_map, pairedS_len pr2, List.take_length, pend_wake ok hl] at pu
          have pu' : Paired (fun t (e : Nat × Int) => upd H16 D (.lst (us.map V.ref)) t = some (.tup [lV e.1, .int e.2])) us (pendD L) := paired_memS (fun t e _ h => by rw [upd_ne (ne_of_none h hD)]; exact h) pu
          have pD : Paired (fun t (e : Nat × Int) => upd H16 D (.lst (us.map V.ref)) t = some (.tup [lV e.1, .int e.2])) tb (pendD L) := paired_memS (fun t e _ h => by rw [upd_ne (ne_of_none (s16 _ _ h) hD)]; exact s16 _ _ h) prb15
          refine ⟨_, rfl, _, _, .lst (SqL.of upd_same) (dp_pairs pu'), .lst (SqL.of (by rw [upd_ne hbD]; exact hb16)) (dp_pairs pD), shaped_pairs _, shaped_pairs _, ?_⟩
          rw [eqv_self (shaped_pairs _)]
          exact k _
      refine ⟨_, rfl, rfl, _, rfl, ?_⟩
      refine ite2 (fun _ => ?_) (fun _ => ?_)
      · -- kind 1
        refine ⟨_, rfl, _, rfl, _, _, rfl, rfl, _, _, rfl, rfl, cost - many - 1, rfl, by omega, by omega, ?_⟩
        refine for_range (lo := 0) (n := (cost - many - 1).toNat) (fun i σ H' => Jn C.Schedule H H' p d q L (many + i) ∧ H' li = some (.lst [lV m]) ∧ H' rb = some (.lst (tb.map V.ref)) ∧ Paired (fun t (e : Nat × Int) => H' t = some (.tup [lV e.1, .int e.2])) tb (pendD L) ∧ ∃ kk, σ = [some (.ref a), some (.ref q), some (.ref p), some (.int now), kk, some (.ref li), some (.bl false), some (.int cost), some (.int many), some (.ref rb), some (.int kind), none, none, none, none, none, none, none]) ⟨by rw [Int.natCast_zero, Int.add_zero]; exact J13, hli13, hb13, prb13, kk, rfl⟩ ?_ ?_
        · rintro i σ H14 hi ⟨J14, hli14, hb14, prb14, kk, rfl⟩
          obtain ⟨dx14, hp14⟩ := J14.ob
          refine ⟨_, rfl, p, dx14, _, rfl, hp14, rfl, _, rfl, p, d, L, many + i, cost, rfl, J14.S, fun H15 S15 k15 => ?_⟩
          rw [if_neg hne] at S15 ⊢
          refine ⟨_, _, rfl, rfl, _, rfl, ?_⟩
          rw [decide_eq_false (show ¬ cost ≤ many + (i : Int) + 1 by omega)]
          refine iteF ?_
          have ee : many + ((i + 1 : Nat) : Int) = many + (i : Int) + 1 := by omega
          exact ⟨by rw [ee]; exact J14.k2 k15 S15 (.inl rfl), k15.lst J14.S hli14, k15.lst J14.S hb14, paired_memS (fun t e _ h => k15.tup J14.S h) prb14, _, rfl⟩
        rintro σ H14 ⟨J14, hli14, hb14, prb14, kk, rfl⟩
        obtain ⟨dx14, hp14⟩ := J14.ob
        refine ⟨_, rfl, p, dx14, _, rfl, hp14, rfl, _, rfl, p, d, L, _, cost, rfl, J14.S, fun H15 S15 k15 => ?_⟩
        rw [if_neg hne] at S15 ⊢
        refine ⟨_, _, rfl, rfl, _, rfl, ?_⟩
        rw [decide_eq_true (show cost ≤ many + (((cost - many - 1).toNat : Nat) : Int) + 1 by omega)]
        refine iteF ?_
        have J15 := J14.k2 k15 S15 (.inl rfl)
        have hli15 := k15.lst J14.S hli14
        have hb15 := k15.lst J14.S hb14
        have prb15 : Paired (fun t (e : Nat × Int) => H15 t = some (.tup [lV e.1, .int e.2])) tb (pendD L) := paired_memS (fun t e _ h => k15.tup J14.S h) prb14
        obtain ⟨dx15, hp15⟩ := J15.ob
        refine ⟨_, rfl, p, dx15, _, rfl, hp15, rfl, _, rfl, p, d, li, L, _, [m], rfl, J15.S, SqL.of hli15, fun d' H16 S16 k16 nd' => ?_⟩
        have J16 := J15.k2 k16 S16 (.inr nd')
        have hli16 := k16.lst J15.S hli15
        have hb16 := k16.lst J15.S hb15
        have prb16 : Paired (fun t (e : Nat × Int) => H16 t = some (.tup [lV e.1, .int e.2])) tb (pendD L) := paired_memS (fun t e _ h => k16.tup J15.S h) prb15
        obtain ⟨dx16, hp16⟩ := J16.ob
        refine ⟨_, rfl, p, dx16, _, rfl, hp16, p, d', _, _, rfl, J16.S, rfl, true, rfl, ?_⟩
        refine iteT ?_
        refine ⟨_, rfl, p, dx16, _, rfl, hp16, p, d', _, _, rfl, J16.S, fun r2 t2 H17 s17 nr2 nt2 hrt2 h17r pr2 => ?_⟩
        have hb17 := s17 _ _ hb16
        refine ⟨_, rfl, rb, rfl, ⟨_, SqL.of hb17⟩, fun D hD => ?_⟩
        have hbD : rb ≠ D := ne_of_none hb17 hD
        have hrD : r2 ≠ D := ne_of_none h17r hD
        have hlD : li ≠ D := ne_of_none (s17 _ _ hli16) hD
        refine lc_it (walk_list (K := K) (a := rb) (xs := tb.map V.ref)) (fun i H' => ∃ us, H' = upd H17 D (.lst (us.map V.ref)) ∧ Paired (fun t (e : Nat × Int) => H17 t = some (.tup [lV e.1, .int e.2])) us (((pendD L).take i).filter fun e => !decide (e.1 ∈ [m]))) ⟨[], rfl, .nil⟩ (fun i H' _ e => by obtain ⟨us, e, _⟩ := e; rw [e]; exact SqL.of (by rw [upd_ne hbD]; exact hb17)) ?_ ?_
        · rintro i x H18 H19 hi ⟨us, rfl, pu⟩ ⟨rfl, hx⟩
          have hi' : i < tb.length := by rw [List.length_map] at hi; exact hi
          obtain ⟨h2, g0⟩ := pairedS_get prb16 i hi'
          have g := s17 _ _ g0
          have ex : x = .ref tb[i] := by
            rw [List.getElem?_map, List.getElem?_eq_getElem hi'] at hx
            exact (Option.some.inj hx).symm
          subst ex
          have et := filt_snoc (L := pendD L) (p := fun e => !decide (e.1 ∈ [m])) h2
          have gD : upd H17 D (.lst (us.map V.ref)) tb[i] = some (.tup [lV (pendD L)[i].1, .int (pendD L)[i].2]) := by rw [upd_ne (ne_of_none g hD)]; exact g
          have hli18 : upd H17 D (.lst (us.map V.ref)) li = some (.lst [lV m]) := by rw [upd_ne hlD]; exact s17 _ _ hli16
          refine ⟨rfl, ?_⟩
          refine ⟨_, rfl, _, _, 0, _, rfl, rfl, SqT.of gD, rfl, _, rfl, li, _, rfl, .inl (SqL.of hli18), rfl, flat_l [m], _, rfl, ?_⟩
          have e0 : (if true = true then !inV (lV (pendD L)[i].1) [lV m] else inV (lV (pendD L)[i].1) [lV m]) = !decide ((pendD L)[i].1 ∈ [m]) := by
            rw [if_pos rfl]
            exact congrArg (!·) (inV_l (pendD L)[i].1 [m])
          show if (if true = true then !inV (lV (pendD L)[i].1) [lV m] else inV (lV (pendD L)[i].1) [lV m]) = true then _ else _
          rw [e0]
          refine ite2 (fun q => ?_) (fun q => ?_)
          · rw [if_pos q] at et
            refine ⟨_, rfl, _, upd_same, ?_, ?_⟩
            · rw [List.length_map, pairedS_len pu]
              have h1 := List.length_filter_le (fun e : Nat × Int => !decide (e.1 ∈ [m])) ((pendD L).take i)
              have h2 := List.length_take_le i (pendD L)
              have := pend_len L
              exact small1000 (by omega)
            · refine ⟨us ++ [tb[i]], by rw [upd_upd, List.map_append]; rfl, ?_⟩
              rw [et]
              exact paired_snocS (G := fun t (e : Nat × Int) => H17 t = some (.tup [lV e.1, .int e.2])) g pu
          · rw [if_neg q, List.append_nil] at et
            exact ⟨us, rfl, by rw [et]; exact pu⟩
        · rintro H18 ⟨us, rfl, pu⟩
          rw [List.length_map, pairedS_len prb16, List.take_length, ← pend_end ok] at pu
          have pu' : Paired (fun t (e : Nat × Int) => upd H17 D (.lst (us.map V.ref)) t = some (.tup [lV e.1, .int e.2])) us (pendD (endD L [m])) := paired_memS (fun t e _ h => by rw [upd_ne (ne_of_none h hD)]; exact h) pu
          have pD : Paired (fun t (e : Nat × Int) => upd H17 D (.lst (us.map V.ref)) t = some (.tup [lV e.1, .int e.2])) t2 (pendD (endD L [m])) := paired_memS (fun t e _ h => by rw [upd_ne (ne_of_none h hD)]; exact h) pr2
          refine ⟨_, _, .lst (SqL.of (by rw [upd_ne hrD]; exact h17r)) (dp_pairs pD), .lst (SqL.of upd_same) (dp_pairs pu'), shaped_pairs _, shaped_pairs _, ?_⟩
          rw [eqv_self (shaped_pairs _)]
          exact k _
      -- a later pass
      have htl : tb.length = (pendD L).length := pairedS_len prb13
      have hpl : 0 < (pendD L).length := by rw [hpend]; exact Nat.succ_pos _
      refine ⟨_, rfl, _, rfl, _, rfl, rb, _, rfl, .inl (SqL.of hb13), ?_⟩
      refine ⟨q, _, rfl, J13.q, by rw [List.length_map]; omega, fun r5 H14 S14 k14 f2 f3 => ?_⟩
      rw [List.length_map] at f3
      have J14 := J13.kp k14 S14
      have hli14 := k14 _ _ hli13 hliq
      have hb14 := k14 _ _ hb13 hbq
      have prb14 : Paired (fun t (e : Nat × Int) => H14 t = some (.tup [lV e.1, .int e.2])) tb (pendD L) := by
        refine paired_memS (fun t e _ h => k14 _ _ h ?_) prb13
        obtain ⟨z, e, _⟩ := J13.q
        exact ne_of h e (by intro e; cases e)
      have hri : r5.toNat < tb.length := by omega
      refine ⟨rb, _, r5, _, rfl, rfl, SqL.of hb14, atI_map (f := V.ref) f2 hri, ?_⟩
      obtain ⟨hri2, gr⟩ := pairedS_get prb14 r5.toNat hri
      refine ⟨_, _, rfl, SqT.of gr, rfl, ?_⟩
      obtain ⟨l, t', hlt⟩ : ∃ l t', (pendD L)[r5.toNat] = (l, t') := ⟨_, _, rfl⟩
      have hlk : look L l = some t' := by
        have : (l, t') ∈ pendD L := by rw [← hlt]; exact List.getElem_mem hri2
        exact (mem_pend ok).mp this
      have hl4 : l < 4 := look_some_lt ok (by rw [hlk]; rfl)
      rw [hlt]
      refine ⟨_, _, rfl, _, _, rfl, rfl, ?_⟩
      refine ⟨_, rfl, _, rfl, _, _, _, _, rfl, T.rd_Schedule, cv, _, rfl, na, _, (l : Int), .int (pat l), rfl, rfl, hq _, at_pat hl4, _, _, rfl, rfl, ?_⟩
      obtain ⟨late, hlate⟩ : ∃ late, late = (if t' + pat l > now then t' + pat l else now) := ⟨_, rfl⟩
      have hge : t' + pat l ≤ late := by
        rw [hlate]
        split <;> omega
      have hov2 : overD L late l = true := by
        unfold overD
        rw [hlk]
        exact decide_eq_true hge
      obtain ⟨M, hM, hlM, hovM, hMl⟩ := overs_some ok hov2
      have hps := pass_whole hM
      have hpl2 := pass_last hM
      refine ⟨_, _, rfl, ?_⟩
      obtain ⟨dx14, hp14⟩ := J14.ob
      refine ⟨_, rfl, p, dx14, _, rfl, hp14, rfl, _, rfl, rfl, rfl, p, d, L, many, late, by rw [hlate]; rfl, J14.S, fun he => absurd ((lanes_nil ok).mp he) hne, fun _ t2 li2 H15 s15 nt2 nli2 ht2 hli2 => ?_⟩
      rw [hps.2] at ht2
      refine ⟨t2, _, rfl, SqT.of ht2, rfl, ?_⟩
      refine ⟨_, _, rfl, _, _, rfl, rfl, ?_⟩
      have J15 := J14.mono s15
      have hb15 := s15 _ _ hb14
      have prb15 : Paired (fun t (e : Nat × Int) => H15 t = some (.tup [lV e.1, .int e.2])) tb (pendD L) := paired_memS (fun t e _ h => s15 _ _ h) prb14
      obtain ⟨dx15, hp15⟩ := J15.ob
      refine ⟨_, rfl, _, _, rfl, rfl, _, rfl, ?_⟩
      refine iteF ?_
      have hlin : l ∈ passD L late := by
        rw [hps.1]
        exact List.mem_filter.mpr ⟨(mem_lanes ok).mpr (by rw [hlk]; rfl), decide_eq_true hlM⟩
      refine ⟨_, rfl, _, rfl, li2, _, rfl, .inl (SqL.of hli2), rfl, flat_l _, _, rfl, ?_⟩
      have e0 : (if true = true then !inV (.int (l : Int)) ((passD L late).map lV) else inV (.int (l : Int)) ((passD L late).map lV)) = false := by
        rw [if_pos rfl]
        exact congrArg (!·) ((inV_l _ _).trans (decide_eq_true hlin))
      show if (if true = true then !inV (.int (l : Int)) ((passD L late).map lV) else inV (.int (l : Int)) ((passD L late).map lV)) = true then _ else _
      rw [e0]
      refine iteF ?_
      refine ⟨_, rfl, p, dx15, _, rfl, hp15, p, d, _, _, rfl, J15.S, _, rfl, rfl, _, rfl, ?_⟩
      refine iteNS rfl ?_
      -- whose lanes are in it
      refine ⟨_, rfl, rb, rfl, ⟨_, SqL.of hb15⟩, ?_⟩
      refine for_it (walk_list (K := K) (a := rb) (xs := tb.map V.ref)) (fun i σ H' => H' = H15 ∧ ∃ ot tk, σ = [some (.ref a), some (.ref q), some (.ref p), some (.int now), kk, some (.ref li2), some (.bl true), some (.int cost), some (.int many), some (.ref rb), some (.int kind), some (.int (l : Int)), none, some (.int t'), some (.int late), ot, tk, none]) ⟨rfl, none, none, by rw [hlate]; rfl⟩ (fun i σ H' _ e => by rw [e.1]; exact SqL.of hb15) ?_ ?_
      · rintro i x σ H16 H17 hi ⟨rfl, ot, tk, rfl⟩ ⟨rfl, hx⟩
        have hi' : i < tb.length := by rw [List.length_map] at hi; exact hi
        obtain ⟨h2, g⟩ := pairedS_get prb15 i hi'
        have ex : x = .ref tb[i] := by
          rw [List.getElem?_map, List.getElem?_eq_getElem hi'] at hx
          exact (Option.some.inj hx).symm
        subst ex
        refine ⟨_, _, rfl, SqT.of g, rfl, ?_⟩
        refine ⟨_, _, rfl, _, _, rfl, rfl, ?_⟩
        obtain ⟨o, tk2, hot⟩ : ∃ o tk2, (pendD L)[i] = (o, tk2) := ⟨_, _, rfl⟩
        have hol : o ∈ lanesD L := by
          rw [← pendD_fst]
          exact List.mem_map.mpr ⟨(o, tk2), by rw [← hot]; exact List.getElem_mem h2, rfl⟩
        rw [hot]
        refine ⟨_, rfl, _, rfl, li2, _, rfl, .inl (SqL.of hli2), rfl, flat_l _, ?_⟩
        refine ⟨_, rfl, _, rfl, _, rfl, li2, _, rfl, .inl (SqL.of hli2), _, _, rfl, rfl, li2, _, _, _, rfl, rfl, SqL.of hli2, at_len hpl2, _, _, rfl, rfl, rfl, _, rfl, ?_⟩
        refine iteNS ?_ ?_
        · have e1 : inV (.int (o : Int)) ((passD L late).map lV) = decide ((o : Int) ≤ (M : Int)) := by
            refine (inV_l _ _).trans ?_
            rw [hps.1]
            by_cases q : o ≤ M
            · have z : o ∈ (lanesD L).filter fun k => decide (k ≤ M) := List.mem_filter.mpr ⟨hol, decide_eq_true q⟩
              rw [decide_eq_true z, decide_eq_true (by omega)]
            · have z : o ∉ (lanesD L).filter fun k => decide (k ≤ M) := fun z => q (of_decide_eq_true (List.mem_filter.mp z).2)
              rw [decide_eq_false z, decide_eq_false (by omega)]
          exact congrArg V.bl ((if_neg Bool.false_ne_true).trans e1)
        · exact ⟨rfl, _, _, rfl⟩
      rintro σ H16 ⟨rfl, ot, tk, rfl⟩
      refine ⟨_, rfl, rfl, _, rfl, ?_⟩
      refine ite2 (fun _ => ?_) (fun _ => ?_)
      · -- sync is woken
        have h0 : look L 0 = none := by
          cases e : look L 0 with
          | none => rfl
          | some t => exact absurd (hL _ (look_mem e)).1 (by show ¬ 1 ≤ 0; omega)
        obtain ⟨hz1, hz2⟩ := wake_zero h0 hM
        refine ⟨_, rfl, p, dx15, _, rfl, hp15, rfl, _, rfl, rfl, rfl, p, d, L, many, 0, late, rfl, J15.S, by decide, fun v H17 S17 k17 => ?_⟩
        have J17 := J15.k2 k17 S17 (.inl rfl)
        have hli17 := k17.lst J15.S hli2
        have en : wakeN L 0 many = 0 := by rw [wakeN_min ok hm, if_pos (Nat.zero_le _)]
        obtain ⟨dx17, hp17⟩ := J17.ob
        have hne7 : lanesD (wakeD L 0 late) ≠ [] := fun e => by
          have : passD (wakeD L 0 late) late = [] := by
            unfold passD oversD
            rw [e]
            rfl
          rw [hz1] at this
          cases this
        refine ⟨_, rfl, p, dx17, _, rfl, hp17, rfl, _, rfl, rfl, rfl, p, d, _, _, late, rfl, J17.S, fun he => absurd he hne7, fun _ t3 li3 H18 s18 nt3 nli3 ht3 hli3 => ?_⟩
        rw [hz2] at ht3
        rw [hz1] at hli3
        refine ⟨by show 1 ≤ sizeLine; decide, fun l2 hl2 => ?_⟩
        have hli18 := s18 _ _ hli17
        have n2 : li2 ≠ l2 := ne_of_none hli18 hl2
        refine ⟨_, rfl, l2, li2, _, _, rfl, rfl, upd_same, (by rw [upd_ne n2]; exact hli18), ?_⟩
        have hlen2 : [V.int 0].length + ((passD L late).map lV).length ≤ sizeLine := by
          have h1 : (passD L late).length ≤ 4 := by
            rw [hps.1]
            exact Nat.le_trans (List.length_filter_le _ _) (lanes_len L)
          rw [List.length_map]
          exact Nat.le_trans (show [V.int 0].length + (passD L late).length ≤ 5 by show 1 + _ ≤ 5; omega) (by decide)
        refine ⟨hlen2, fun l3 hl3 => ?_⟩
        refine ⟨by show 2 ≤ sizeLine; decide, fun t4 ht4 => ?_⟩
        have s19 : Same H18 (upd H18 l2 (.lst [.int 0])) := Same.new hl2
        have s20 := s19.trans (Same.new (o := .lst ([V.int 0] ++ (passD L late).map lV)) hl3)
        have s21 := s20.trans (Same.new (o := .tup [V.ref l3, V.bl true]) ht4)
        have n3 : l3 ≠ t4 := fun z => by rw [z, upd_same] at ht4; cases ht4
        have J21 := (J17.mono s18).mono s21
        refine ⟨.tuple [.list (dInts (0 :: passD L late)), .bool true], .tuple [.list (dInts (0 :: passD L late)), .bool true],
          .tup (SqT.of (s21 _ _ ht3)) (.cons (.lst (SqL.of (s21 _ _ hli3)) (dp_ints _)) (.cons (.bl _) .nil)),
          .tup (SqT.of upd_same) (.cons (.lst (SqL.of (by rw [upd_ne n3]; exact upd_same)) (dp_ints (0 :: passD L late))) (.cons (.bl _) .nil)), sh_pass _ _, sh_pass _ _, ?_⟩
        rw [eqv_self (sh_pass _ _)]
        refine ⟨true, rfl, ?_⟩
        refine iteT ?_
        obtain ⟨dx21, hp21⟩ := J21.ob
        refine ⟨_, rfl, p, dx21, _, rfl, hp21, p, d, _, _, rfl, J21.S, rfl, ?_⟩
        rw [en]
        exact k _
      · refine ⟨_, rfl, p, dx15, _, rfl, hp15, rfl, _, rfl, _, rfl, li2, _, rfl, .inl (SqL.of hli2), _, _, rfl, rfl, li2, _, _, _, rfl, rfl, SqL.of hli2, at_len hpl2, _, rfl, rfl, rfl, ?_⟩
        refine ⟨p, d, L, many, M, late, rfl, J15.S, look_some_lt ok ((mem_lanes ok).mp hMl), ?_⟩
        rw [hovM]
        exact ⟨_, _, rfl, rfl, k _⟩
end
end VL

set_option Elab.async false
set_option linter.all false
set_option maxRecDepth 100000
set_option maxHeartbeats 4000000
namespace VL
open PySem PySem.Spec PyProof.Rows L2
theorem all_mk {l : PySem.W.OpenLaw} {w : World} {K : PySem.W.Frag} {h : Heap} {mg : Str → Option Value} {fa aSchedule t_Schedule_PATIENCE t_Schedule_NAMES f1 f2 p2 f3 p3 f4 f5 f6 f7 f8 f9 f10 f11 f12 f13 : Addr} (X : K.In h) (G : h.Ns mainGlobals mg) (hfa : mg "law" = some (.ref fa))
    {od1 an1 od2 an2 od3 an3 od4 an4 od5 an5 od6 an6 od7 an7 od8 an8 od9 an9 od10 an10 od11 an11 od12 an12 od13 an13 : Option Addr} {ts_Schedule_PATIENCE ts_Schedule_NAMES sl1 sl2 sl3 sl4 sl5 sl6 sl7 sl8 sl9 sl10 sl11 sl12 sl13 : Array (Option Value)} {u_Schedule_SYNC u_Schedule_USUAL u_Schedule_TRANSITION u_Schedule_IDLE oc1 kV1 dc1 pm1 cd1 ct1 oc2 kV2 dc2 pm2 cd2 ct2 oc3 kV3 dc3 pm3 cd3 ct3 oc4 kV4 dc4 pm4 cd4 ct4 oc5 kV5 dc5 pm5 cd5 ct5 oc6 kV6 dc6 pm6 cd6 ct6 oc7 kV7 dc7 pm7 cd7 ct7 oc8 kV8 dc8 pm8 cd8 ct8 oc9 kV9 dc9 pm9 cd9 ct9 oc10 kV10 dc10 pm10 cd10 ct10 oc11 kV11 dc11 pm11 cd11 ct11 oc12 kV12 dc12 pm12 cd12 ct12 oc13 kV13 dc13 pm13 cd13 ct13 : Value} {ti_Schedule_PATIENCE ti_Schedule_NAMES : Array Value} {tn_Schedule_PATIENCE tn_Schedule_NAMES : Nat} {rs2 rs3 : List Value} 
    (q_Schedule : PySem.W.nsIn K mainGlobals "Schedule" = some (some (.ref aSchedule)))
    (pg_Schedule : PySem.W.plainGet K aSchedule Str.empty = true)
    (hd_Schedule : PySem.W.hasDictIn K aSchedule = true)
    (po_Schedule : PySem.W.plainOver K aSchedule = true)
    (sa_Schedule : PySem.W.findIn K (.ref aSchedule) "__setattr__" = some (some (.builtin "object.__setattr__")))
    (mk_Schedule : PySem.W.makesIn K aSchedule = true)
    (kc_Schedule : PySem.W.keepIn K (.ref aSchedule) = true)
    (n_Schedule_ticks : PySem.W.findIn K (.ref aSchedule) "ticks" = some none)
    (n_Schedule_portions : PySem.W.findIn K (.ref aSchedule) "portions" = some none)
    (rd_Schedule : PySem.W.readsIn K aSchedule (.type "type") = true)
    (ga_Schedule : PySem.W.specialIn K (.ref aSchedule) "__getattribute__" = some (some (.builtin "type.__getattribute__")))
    (cv_Schedule_SYNC : PySem.W.findCls K (.ref aSchedule) (.type "type") "SYNC" = some (.val u_Schedule_SYNC))
    (cn_Schedule_SYNC : PySem.W.findIn K (.ref aSchedule) "SYNC" = some (some u_Schedule_SYNC))
    (cg_Schedule_SYNC : PySem.W.specialIn K u_Schedule_SYNC "__get__" = some none)
    (cr_Schedule_SYNC : RelV (V.int 0) u_Schedule_SYNC)
    (cv_Schedule_USUAL : PySem.W.findCls K (.ref aSchedule) (.type "type") "USUAL" = some (.val u_Schedule_USUAL))
    (cn_Schedule_USUAL : PySem.W.findIn K (.ref aSchedule) "USUAL" = some (some u_Schedule_USUAL))
    (cg_Schedule_USUAL : PySem.W.specialIn K u_Schedule_USUAL "__get__" = some none)
    (cr_Schedule_USUAL : RelV (V.int 1) u_Schedule_USUAL)
    (cv_Schedule_TRANSITION : PySem.W.findCls K (.ref aSchedule) (.type "type") "TRANSITION" = some (.val u_Schedule_TRANSITION))
    (cn_Schedule_TRANSITION : PySem.W.findIn K (.ref aSchedule) "TRANSITION" = some (some u_Schedule_TRANSITION))
    (cg_Schedule_TRANSITION : PySem.W.specialIn K u_Schedule_TRANSITION "__get__" = some none)
    (cr_Schedule_TRANSITION : RelV (V.int 2) u_Schedule_TRANSITION)
    (cv_Schedule_IDLE : PySem.W.findCls K (.ref aSchedule) (.type "type") "IDLE" = some (.val u_Schedule_IDLE))
    (cn_Schedule_IDLE : PySem.W.findIn K (.ref aSchedule) "IDLE" = some (some u_Schedule_IDLE))
    (cg_Schedule_IDLE : PySem.W.specialIn K u_Schedule_IDLE "__get__" = some none)
    (cr_Schedule_IDLE : RelV (V.int 3) u_Schedule_IDLE)
    (cv_Schedule_PATIENCE : PySem.W.findCls K (.ref aSchedule) (.type "type") "PATIENCE" = some (.val (.ref t_Schedule_PATIENCE)))
    (cn_Schedule_PATIENCE : PySem.W.findIn K (.ref aSchedule) "PATIENCE" = some (some (.ref t_Schedule_PATIENCE)))
    (cg_Schedule_PATIENCE : PySem.W.specialIn K (.ref t_Schedule_PATIENCE) "__get__" = some none)
    (tl_Schedule_PATIENCE : K.lookup t_Schedule_PATIENCE = some ⟨.type "tuple", none, .seq ti_Schedule_PATIENCE tn_Schedule_PATIENCE, ts_Schedule_PATIENCE⟩)
    (tz_Schedule_PATIENCE : ti_Schedule_PATIENCE.size ≤ sizeLine)
    (tv_Schedule_PATIENCE : Vals VL.t_Schedule_PATIENCE ti_Schedule_PATIENCE.toList)
    (cv_Schedule_NAMES : PySem.W.findCls K (.ref aSchedule) (.type "type") "NAMES" = some (.val (.ref t_Schedule_NAMES)))
    (cn_Schedule_NAMES : PySem.W.findIn K (.ref aSchedule) "NAMES" = some (some (.ref t_Schedule_NAMES)))
    (cg_Schedule_NAMES : PySem.W.specialIn K (.ref t_Schedule_NAMES) "__get__" = some none)
    (tl_Schedule_NAMES : K.lookup t_Schedule_NAMES = some ⟨.type "tuple", none, .seq ti_Schedule_NAMES tn_Schedule_NAMES, ts_Schedule_NAMES⟩)
    (tz_Schedule_NAMES : ti_Schedule_NAMES.size ≤ sizeLine)
    (tv_Schedule_NAMES : Vals VL.t_Schedule_NAMES ti_Schedule_NAMES.toList)
    (z_int : PySem.W.nsIn K mainGlobals "int" = some none)
    (z_len : PySem.W.nsIn K mainGlobals "len" = some none)
    (z_list : PySem.W.nsIn K mainGlobals "list" = some none)
    (z_max : PySem.W.nsIn K mainGlobals "max" = some none)
    (z_property : PySem.W.nsIn K mainGlobals "property" = some none)
    (z_range : PySem.W.nsIn K mainGlobals "range" = some none)
    (z_sorted : PySem.W.nsIn K mainGlobals "sorted" = some none)
    (a1 : PySem.W.findIn K (.ref aSchedule) "__init__" = some (some (.ref f1)))
    (i1 : PySem.W.isFn K (.ref f1) = true)
    (l1 : K.lookup f1 = some ⟨oc1, od1, .func (PySem.W.fnOf "__init__" "Schedule.__init__" (defArgs s_Schedule___init__) (defBody s_Schedule___init__) (defScope s_Schedule___init__) .none kV1 dc1 pm1 an1 cd1 ct1), sl1⟩)
    (c1 : PySem.W.codeIn K cd1 "Schedule.__init__" = true)
    (k1 : PySem.W.keepIn K (.ref f1) = true)
    (a2 : PySem.W.findIn K (.ref aSchedule) "pending" = some (some (.ref p2)))
    (pq2 : PySem.W.specialIn K (.ref p2) "__get__" = some (some (.builtin "property.__get__")))
    (pt2 : PySem.W.takesIn K (.ref p2) = some true)
    (pr2 : PySem.W.recIn K p2 "property" = some (.ref f2 :: rs2))
    (l2 : K.lookup f2 = some ⟨oc2, od2, .func (PySem.W.fnOf "pending" "Schedule.pending" (defArgs s_Schedule_pending) (defBody s_Schedule_pending) (defScope s_Schedule_pending) .none kV2 dc2 pm2 an2 cd2 ct2), sl2⟩)
    (c2 : PySem.W.codeIn K cd2 "Schedule.pending" = true)
    (k2 : PySem.W.keepIn K (.ref f2) = true)
    (a3 : PySem.W.findIn K (.ref aSchedule) "done" = some (some (.ref p3)))
    (pq3 : PySem.W.specialIn K (.ref p3) "__get__" = some (some (.builtin "property.__get__")))
    (pt3 : PySem.W.takesIn K (.ref p3) = some true)
    (pr3 : PySem.W.recIn K p3 "property" = some (.ref f3 :: rs3))
    (l3 : K.lookup f3 = some ⟨oc3, od3, .func (PySem.W.fnOf "done" "Schedule.done" (defArgs s_Schedule_done) (defBody s_Schedule_done) (defScope s_Schedule_done) .none kV3 dc3 pm3 an3 cd3 ct3), sl3⟩)
    (c3 : PySem.W.codeIn K cd3 "Schedule.done" = true)
    (k3 : PySem.W.keepIn K (.ref f3) = true)
    (a4 : PySem.W.findIn K (.ref aSchedule) "__contains__" = some (some (.ref f4)))
    (i4 : PySem.W.isFn K (.ref f4) = true)
    (l4 : K.lookup f4 = some ⟨oc4, od4, .func (PySem.W.fnOf "__contains__" "Schedule.__contains__" (defArgs s_Schedule___contains__) (defBody s_Schedule___contains__) (defScope s_Schedule___contains__) .none kV4 dc4 pm4 an4 cd4 ct4), sl4⟩)
    (c4 : PySem.W.codeIn K cd4 "Schedule.__contains__" = true)
    (k4 : PySem.W.keepIn K (.ref f4) = true)
    (a5 : PySem.W.findIn K (.ref aSchedule) "wake" = some (some (.ref f5)))
    (i5 : PySem.W.isFn K (.ref f5) = true)
    (l5 : K.lookup f5 = some ⟨oc5, od5, .func (PySem.W.fnOf "wake" "Schedule.wake" (defArgs s_Schedule_wake) (defBody s_Schedule_wake) (defScope s_Schedule_wake) .none kV5 dc5 pm5 an5 cd5 ct5), sl5⟩)
    (c5 : PySem.W.codeIn K cd5 "Schedule.wake" = true)
    (k5 : PySem.W.keepIn K (.ref f5) = true)
    (a6 : PySem.W.findIn K (.ref aSchedule) "is_overdue" = some (some (.ref f6)))
    (i6 : PySem.W.isFn K (.ref f6) = true)
    (l6 : K.lookup f6 = some ⟨oc6, od6, .func (PySem.W.fnOf "is_overdue" "Schedule.is_overdue" (defArgs s_Schedule_is_overdue) (defBody s_Schedule_is_overdue) (defScope s_Schedule_is_overdue) .none kV6 dc6 pm6 an6 cd6 ct6), sl6⟩)
    (c6 : PySem.W.codeIn K cd6 "Schedule.is_overdue" = true)
    (k6 : PySem.W.keepIn K (.ref f6) = true)
    (a7 : PySem.W.findIn K (.ref aSchedule) "next_pass" = some (some (.ref f7)))
    (i7 : PySem.W.isFn K (.ref f7) = true)
    (l7 : K.lookup f7 = some ⟨oc7, od7, .func (PySem.W.fnOf "next_pass" "Schedule.next_pass" (defArgs s_Schedule_next_pass) (defBody s_Schedule_next_pass) (defScope s_Schedule_next_pass) .none kV7 dc7 pm7 an7 cd7 ct7), sl7⟩)
    (c7 : PySem.W.codeIn K cd7 "Schedule.next_pass" = true)
    (k7 : PySem.W.keepIn K (.ref f7) = true)
    (a8 : PySem.W.findIn K (.ref aSchedule) "portion" = some (some (.ref f8)))
    (i8 : PySem.W.isFn K (.ref f8) = true)
    (l8 : K.lookup f8 = some ⟨oc8, od8, .func (PySem.W.fnOf "portion" "Schedule.portion" (defArgs s_Schedule_portion) (defBody s_Schedule_portion) (defScope s_Schedule_portion) .none kV8 dc8 pm8 an8 cd8 ct8), sl8⟩)
    (c8 : PySem.W.codeIn K cd8 "Schedule.portion" = true)
    (k8 : PySem.W.keepIn K (.ref f8) = true)
    (a9 : PySem.W.findIn K (.ref aSchedule) "end" = some (some (.ref f9)))
    (i9 : PySem.W.isFn K (.ref f9) = true)
    (l9 : K.lookup f9 = some ⟨oc9, od9, .func (PySem.W.fnOf "end" "Schedule.end" (defArgs s_Schedule_end) (defBody s_Schedule_end) (defScope s_Schedule_end) .none kV9 dc9 pm9 an9 cd9 ct9), sl9⟩)
    (c9 : PySem.W.codeIn K cd9 "Schedule.end" = true)
    (k9 : PySem.W.keepIn K (.ref f9) = true)
    (a10 : PySem.W.nsIn K mainGlobals "_law_cell" = some (some (.ref f10)))
    (l10 : K.lookup f10 = some ⟨oc10, od10, .func (PySem.W.fnOf "_law_cell" "_law_cell" (defArgs s__law_cell) (defBody s__law_cell) (defScope s__law_cell) .none kV10 dc10 pm10 an10 cd10 ct10), sl10⟩)
    (c10 : PySem.W.codeIn K cd10 "_law_cell" = true)
    (k10 : PySem.W.keepIn K (.ref f10) = true)
    (a11 : PySem.W.nsIn K mainGlobals "_law_start" = some (some (.ref f11)))
    (l11 : K.lookup f11 = some ⟨oc11, od11, .func (PySem.W.fnOf "_law_start" "_law_start" (defArgs s__law_start) (defBody s__law_start) (defScope s__law_start) .none kV11 dc11 pm11 an11 cd11 ct11), sl11⟩)
    (c11 : PySem.W.codeIn K cd11 "_law_start" = true)
    (k11 : PySem.W.keepIn K (.ref f11) = true)
    (a12 : PySem.W.nsIn K mainGlobals "_law_digit" = some (some (.ref f12)))
    (l12 : K.lookup f12 = some ⟨oc12, od12, .func (PySem.W.fnOf "_law_digit" "_law_digit" (defArgs s__law_digit) (defBody s__law_digit) (defScope s__law_digit) .none kV12 dc12 pm12 an12 cd12 ct12), sl12⟩)
    (c12 : PySem.W.codeIn K cd12 "_law_digit" = true)
    (k12 : PySem.W.keepIn K (.ref f12) = true)
    (a13 : PySem.W.nsIn K mainGlobals "law" = some (some (.ref f13)))
    (l13 : K.lookup f13 = some ⟨oc13, od13, .func (PySem.W.fnOf "law" "law" (defArgs s_law) (defBody s_law) (defScope s_law) .none kV13 dc13 pm13 an13 cd13 ct13), sl13⟩)
    (c13 : PySem.W.codeIn K cd13 "law" = true)
    (k13 : PySem.W.keepIn K (.ref f13) = true)
    : ∃ fd : FuncData, (∀ (s : Shared) (v : Value), BindsTo s fd ⟨[v], []⟩ [("script", v)]) ∧ ∀ base : Heap, K.In base → base.Ns mainGlobals mg → FnOk l.prog w K mg base CX0 8 fa fd ["script"] (spLaw K) := by
  have e := hfa.symm.trans (PySem.W.mg_of X G a13)
  cases e
  have F1 := fun_mk (st := s_Schedule___init__) l1 c1 k1
  have b1 := F1.binds (ps := ["self"]) fun _ _ _ _ _ _ us hl => match us, hl with | [_], _ => rfl
  have F2 := fun_mk (st := s_Schedule_pending) l2 c2 k2
  have b2 := F2.binds (ps := ["self"]) fun _ _ _ _ _ _ us hl => match us, hl with | [_], _ => rfl
  have F3 := fun_mk (st := s_Schedule_done) l3 c3 k3
  have b3 := F3.binds (ps := ["self"]) fun _ _ _ _ _ _ us hl => match us, hl with | [_], _ => rfl
  have F4 := fun_mk (st := s_Schedule___contains__) l4 c4 k4
  have b4 := F4.binds (ps := ["self", "lane"]) fun _ _ _ _ _ _ us hl => match us, hl with | [_, _], _ => rfl
  have F5 := fun_mk (st := s_Schedule_wake) l5 c5 k5
  have b5 := fun_kbn F5 (ps := ["self", "lane", "now"]) 2 ["now"] fun _ _ _ _ _ _ us ws hl hw => match us, ws, hl, hw with | [_, _], [_], _, _ => rfl
  have F6 := fun_mk (st := s_Schedule_is_overdue) l6 c6 k6
  have b6 := fun_kbn F6 (ps := ["self", "lane", "now"]) 2 ["now"] fun _ _ _ _ _ _ us ws hl hw => match us, ws, hl, hw with | [_, _], [_], _, _ => rfl
  have F7 := fun_mk (st := s_Schedule_next_pass) l7 c7 k7
  have b7 := fun_kbn F7 (ps := ["self", "now"]) 1 ["now"] fun _ _ _ _ _ _ us ws hl hw => match us, ws, hl, hw with | [_], [_], _, _ => rfl
  have F8 := fun_mk (st := s_Schedule_portion) l8 c8 k8
  have b8 := F8.binds (ps := ["self", "cost"]) fun _ _ _ _ _ _ us hl => match us, hl with | [_, _], _ => rfl
  have F9 := fun_mk (st := s_Schedule_end) l9 c9 k9
  have b9 := F9.binds (ps := ["self", "lanes"]) fun _ _ _ _ _ _ us hl => match us, hl with | [_, _], _ => rfl
  have F10 := fun_mk (st := s__law_cell) l10 c10 k10
  have b10 := F10.binds (ps := ["script", "k"]) fun _ _ _ _ _ _ us hl => match us, hl with | [_, _], _ => rfl
  have F11 := fun_mk (st := s__law_start) l11 c11 k11
  have b11 := F11.binds (ps := ["cell", "k"]) fun _ _ _ _ _ _ us hl => match us, hl with | [_, _], _ => rfl
  have F12 := fun_mk (st := s__law_digit) l12 c12 k12
  have b12 := F12.binds (ps := ["state", "many"]) fun _ _ _ _ _ _ us hl => match us, hl with | [_, _], _ => rfl
  have T : Txt K w mg ⟨(), aSchedule⟩ := {
    g_Schedule := ⟨_, PySem.W.mg_of X G q_Schedule, rfl⟩,
    cl_Schedule := ⟨pg_Schedule, hd_Schedule, po_Schedule, sa_Schedule⟩,
    n_Schedule_ticks := n_Schedule_ticks,
    n_Schedule_portions := n_Schedule_portions,
    rd_Schedule := ⟨rd_Schedule, ga_Schedule⟩,
    cc_Schedule_SYNC := ⟨_, ⟨cv_Schedule_SYNC, cr_Schedule_SYNC⟩, ⟨cn_Schedule_SYNC, cr_Schedule_SYNC, cg_Schedule_SYNC, by decide +kernel⟩⟩,
    cc_Schedule_USUAL := ⟨_, ⟨cv_Schedule_USUAL, cr_Schedule_USUAL⟩, ⟨cn_Schedule_USUAL, cr_Schedule_USUAL, cg_Schedule_USUAL, by decide +kernel⟩⟩,
    cc_Schedule_TRANSITION := ⟨_, ⟨cv_Schedule_TRANSITION, cr_Schedule_TRANSITION⟩, ⟨cn_Schedule_TRANSITION, cr_Schedule_TRANSITION, cg_Schedule_TRANSITION, by decide +kernel⟩⟩,
    cc_Schedule_IDLE := ⟨_, ⟨cv_Schedule_IDLE, cr_Schedule_IDLE⟩, ⟨cn_Schedule_IDLE, cr_Schedule_IDLE, cg_Schedule_IDLE, by decide +kernel⟩⟩,
    cc_Schedule_PATIENCE := ⟨_, _, ⟨cv_Schedule_PATIENCE, rfl⟩, ⟨cn_Schedule_PATIENCE, rfl, cg_Schedule_PATIENCE, by decide +kernel⟩, fun H => .inr ⟨_, _, _, tl_Schedule_PATIENCE, rfl, rfl, tz_Schedule_PATIENCE, tv_Schedule_PATIENCE⟩, ⟨_, _, _, tl_Schedule_PATIENCE, rfl, rfl, tz_Schedule_PATIENCE, tv_Schedule_PATIENCE, rfl⟩⟩,
    cc_Schedule_NAMES := ⟨_, _, ⟨cv_Schedule_NAMES, rfl⟩, ⟨cn_Schedule_NAMES, rfl, cg_Schedule_NAMES, by decide +kernel⟩, fun H => .inr ⟨_, _, _, tl_Schedule_NAMES, rfl, rfl, tz_Schedule_NAMES, tv_Schedule_NAMES⟩, ⟨_, _, _, tl_Schedule_NAMES, rfl, rfl, tz_Schedule_NAMES, tv_Schedule_NAMES, rfl⟩⟩,
    z_int := PySem.W.mg_none_of X G z_int,
    z_len := PySem.W.mg_none_of X G z_len,
    z_list := PySem.W.mg_none_of X G z_list,
    z_max := PySem.W.mg_none_of X G z_max,
    z_property := PySem.W.mg_none_of X G z_property,
    z_range := PySem.W.mg_none_of X G z_range,
    z_sorted := PySem.W.mg_none_of X G z_sorted,
    i_Schedule := ⟨_, _, F1, ⟨mk_Schedule, a1, i1, kc_Schedule⟩, PySem.W.mg_of X G q_Schedule, b1⟩,
    p_Schedule_pending := ⟨_, _, _, ⟨a2, pq2, pt2, _, pr2⟩, F2, b2⟩,
    p_Schedule_done := ⟨_, _, _, ⟨a3, pq3, pt3, _, pr3⟩, F3, b3⟩,
    m_Schedule___contains__ := ⟨_, _, F4, ⟨a4, i4, k4⟩, b4⟩,
    m_Schedule_wake := ⟨_, _, F5, ⟨a5, i5, k5⟩, b5⟩,
    m_Schedule_is_overdue := ⟨_, _, F6, ⟨a6, i6, k6⟩, b6⟩,
    m_Schedule_next_pass := ⟨_, _, F7, ⟨a7, i7, k7⟩, b7⟩,
    m_Schedule_portion := ⟨_, _, F8, ⟨a8, i8, k8⟩, b8⟩,
    m_Schedule_end := ⟨_, _, F9, ⟨a9, i9, k9⟩, b9⟩,
    d__law_cell := ⟨_, _, F10, PySem.W.mg_of X G a10, b10⟩,
    d__law_start := ⟨_, _, F11, PySem.W.mg_of X G a11, b11⟩,
    d__law_digit := ⟨_, _, F12, PySem.W.mg_of X G a12, b12⟩ }
  exact ⟨_, fun s v => .of_eq rfl, fun base _ _ => ok_law (fun_mk (st := s_law) l13 c13 k13) T⟩
theorem walk {l : PySem.W.OpenLaw} {q : Program} {loose : List Str} {XP : (Str → Option Value) → Heap → Prop} {YP : World → Heap → Prop} {d : DefRec} {K : Params → PySem.W.Frag} (hn : l.most = some 63) (hdf : d.params.defaults = [])
    (hY : ∀ (w : World) (h : Heap), YP w h → (K w.params).In h)
    (F : ∀ (w : World) (mg : Str → Option Value) (fa : Addr) (h : Heap), (K w.params).In h → h.Ns mainGlobals mg → mg d.name = some (.ref fa) →
      ∃ fd : FuncData, (∀ (s : Shared) (u : Value), BindsTo s fd ⟨[u], []⟩ [("script", u)]) ∧ ∀ base : Heap, (K w.params).In base → base.Ns mainGlobals mg → FnOk l.prog w (K w.params) mg base CX0 8 fa fd ["script"] (spLaw (K w.params))) :
    PySem.W.WalkO q loose XP YP l.row.toRowW d [] (fun f vs => PySem.call f vs) :=
  L2.walk_of (n := 63) (k := 8) (x := "script") (CX := fun _ => CX0) (sp := fun w => spLaw (K w.params)) hn (by decide) hdf ⟨rfl, by decide, by decide⟩ hY F (fun _ _ a ns hl _ hS => ⟨a, ns, rfl, hS, hl, fun _ => rfl⟩) fun _ _ _ _ _ z => z
end VL

open PySem PySem.W PyProof.Rows in
set_option maxRecDepth 100000 in
set_option maxHeartbeats 0 in
theorem PySem.Challenge.cw_viewloom_k37_present_passes_holds : PySem.Challenge.rw_viewloom_k37_present_passes.Holds := by
  w_on; o_law; k_head; (case hw => w_witness2)
  k_fill
  refine VL.walk (l := PySem.Challenge.rw_viewloom_k37_present_passes) rfl rfl (fun w h Y => PySem.W.kIn_of Y) ?F
  case F =>
    intro w mg fa h KX G hmg
    refine' VL.all_mk KX G hmg ?q_Schedule ?pg_Schedule ?hd_Schedule ?po_Schedule ?sa_Schedule ?mk_Schedule ?kc_Schedule ?n_Schedule_ticks ?n_Schedule_portions ?rd_Schedule ?ga_Schedule ?cv_Schedule_SYNC ?cn_Schedule_SYNC ?cg_Schedule_SYNC ?cr_Schedule_SYNC ?cv_Schedule_USUAL ?cn_Schedule_USUAL ?cg_Schedule_USUAL ?cr_Schedule_USUAL ?cv_Schedule_TRANSITION ?cn_Schedule_TRANSITION ?cg_Schedule_TRANSITION ?cr_Schedule_TRANSITION ?cv_Schedule_IDLE ?cn_Schedule_IDLE ?cg_Schedule_IDLE ?cr_Schedule_IDLE ?cv_Schedule_PATIENCE ?cn_Schedule_PATIENCE ?cg_Schedule_PATIENCE ?tl_Schedule_PATIENCE ?tz_Schedule_PATIENCE ?tv_Schedule_PATIENCE ?cv_Schedule_NAMES ?cn_Schedule_NAMES ?cg_Schedule_NAMES ?tl_Schedule_NAMES ?tz_Schedule_NAMES ?tv_Schedule_NAMES ?z_int ?z_len ?z_list ?z_max ?z_property ?z_range ?z_sorted ?a1 ?i1 ?l1 ?c1 ?k1 ?a2 ?pq2 ?pt2 ?pr2 ?l2 ?c2 ?k2 ?a3 ?pq3 ?pt3 ?pr3 ?l3 ?c3 ?k3 ?a4 ?i4 ?l4 ?c4 ?k4 ?a5 ?i5 ?l5 ?c5 ?k5 ?a6 ?i6 ?l6 ?c6 ?k6 ?a7 ?i7 ?l7 ?c7 ?k7 ?a8 ?i8 ?l8 ?c8 ?k8 ?a9 ?i9 ?l9 ?c9 ?k9 ?a10 ?l10 ?c10 ?k10 ?a11 ?l11 ?c11 ?k11 ?a12 ?l12 ?c12 ?k12 ?a13 ?l13 ?c13 ?k13
    (case q_Schedule => k_is)
    (case pg_Schedule => k_is)
    (case hd_Schedule => k_is)
    (case po_Schedule => k_is)
    (case sa_Schedule => k_is)
    (case mk_Schedule => k_is)
    (case kc_Schedule => k_is)
    (case n_Schedule_ticks => k_is)
    (case n_Schedule_portions => k_is)
    (case rd_Schedule => k_is)
    (case ga_Schedule => k_is)
    (case cv_Schedule_SYNC => k_is)
    (case cn_Schedule_SYNC => k_is)
    (case cg_Schedule_SYNC => k_is)
    (case cr_Schedule_SYNC => exact ⟨_, rfl⟩)
    (case cv_Schedule_USUAL => k_is)
    (case cn_Schedule_USUAL => k_is)
    (case cg_Schedule_USUAL => k_is)
    (case cr_Schedule_USUAL => exact ⟨_, rfl⟩)
    (case cv_Schedule_TRANSITION => k_is)
    (case cn_Schedule_TRANSITION => k_is)
    (case cg_Schedule_TRANSITION => k_is)
    (case cr_Schedule_TRANSITION => exact ⟨_, rfl⟩)
    (case cv_Schedule_IDLE => k_is)
    (case cn_Schedule_IDLE => k_is)
    (case cg_Schedule_IDLE => k_is)
    (case cr_Schedule_IDLE => exact ⟨_, rfl⟩)
    (case cv_Schedule_PATIENCE => k_is)
    (case cn_Schedule_PATIENCE => k_is)
    (case cg_Schedule_PATIENCE => k_is)
    (case tl_Schedule_PATIENCE => k_is)
    (case tz_Schedule_PATIENCE => show 4 ≤ sizeLine; decide)
    (case tv_Schedule_PATIENCE => exact (.cons ⟨_, rfl⟩ (.cons ⟨_, rfl⟩ (.cons ⟨_, rfl⟩ (.cons ⟨_, rfl⟩ .nil)))))
    (case cv_Schedule_NAMES => k_is)
    (case cn_Schedule_NAMES => k_is)
    (case cg_Schedule_NAMES => k_is)
    (case tl_Schedule_NAMES => k_is)
    (case tz_Schedule_NAMES => show 4 ≤ sizeLine; decide)
    (case tv_Schedule_NAMES => exact (.cons ⟨_, rfl⟩ (.cons ⟨_, rfl⟩ (.cons ⟨_, rfl⟩ (.cons ⟨_, rfl⟩ .nil)))))
    (case z_int => k_is)
    (case z_len => k_is)
    (case z_list => k_is)
    (case z_max => k_is)
    (case z_property => k_is)
    (case z_range => k_is)
    (case z_sorted => k_is)
    (case a1 => k_is)
    (case i1 => k_is)
    (case l1 => k_is)
    (case c1 => k_is)
    (case k1 => k_is)
    (case a2 => k_is)
    (case pq2 => k_is)
    (case pt2 => k_is)
    (case pr2 => k_is)
    (case l2 => k_is)
    (case c2 => k_is)
    (case k2 => k_is)
    (case a3 => k_is)
    (case pq3 => k_is)
    (case pt3 => k_is)
    (case pr3 => k_is)
    (case l3 => k_is)
    (case c3 => k_is)
    (case k3 => k_is)
    (case a4 => k_is)
    (case i4 => k_is)
    (case l4 => k_is)
    (case c4 => k_is)
    (case k4 => k_is)
    (case a5 => k_is)
    (case i5 => k_is)
    (case l5 => k_is)
    (case c5 => k_is)
    (case k5 => k_is)
    (case a6 => k_is)
    (case i6 => k_is)
    (case l6 => k_is)
    (case c6 => k_is)
    (case k6 => k_is)
    (case a7 => k_is)
    (case i7 => k_is)
    (case l7 => k_is)
    (case c7 => k_is)
    (case k7 => k_is)
    (case a8 => k_is)
    (case i8 => k_is)
    (case l8 => k_is)
    (case c8 => k_is)
    (case k8 => k_is)
    (case a9 => k_is)
    (case i9 => k_is)
    (case l9 => k_is)
    (case c9 => k_is)
    (case k9 => k_is)
    (case a10 => k_is)
    (case l10 => k_is)
    (case c10 => k_is)
    (case k10 => k_is)
    (case a11 => k_is)
    (case l11 => k_is)
    (case c11 => k_is)
    (case k11 => k_is)
    (case a12 => k_is)
    (case l12 => k_is)
    (case c12 => k_is)
    (case k12 => k_is)
    (case a13 => k_is)
    (case l13 => k_is)
    (case c13 => k_is)
    (case k13 => k_is)
#print axioms PySem.Challenge.cw_viewloom_k37_present_passes_holds
