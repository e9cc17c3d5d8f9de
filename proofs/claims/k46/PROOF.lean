import PyProof.Rows.All
import Wide.All
import OpenK.AllK
import Wide.FinOn
import HandS.ForMost
import HandS.More
import HandS.Codes
import HandS.ForExc
import HandS.Nested
import HandS.ExcInit
import KE.KSuper
import KE.KExcSuper
import HandS.ExcIs
import HandS.ExcField
import HandS.FStr
import KE.KExcIs
import HandS.Defaults
import HandS.Property
import HandS.ClsMeth
import HandS.RaiseMore
import HandS.IsInst
import HandS.DeepEq
import HandS.Deep
import HandS.StrMore
import HandS.SortRule
import KE.KEqDict
import HandS.OwnEq
import HandS.TupLe
import HandS.Wide
import KE.KOwnIter
import KE.KDictIter
import HandS.ListItems
import HandS.DictComp
import HandS.SetKeys
import HandS.SortInts
import HandS.Walk
import HandS.Steps
import PySem.Challenge.RW_viewloom_k46_whole_timers_fire_in_time
set_option Elab.async false
set_option linter.all false
set_option maxRecDepth 100000
set_option maxHeartbeats 4000000
namespace VL
open PySem PySem.Spec PyProof.Rows L2

/-! ### defs, methods, classes, as callers see them -/
structure Cal (P : Program) (w : World) (K : PySem.W.Frag) (mg : Str → Option Value) (base : Heap) (k : Nat) (x : Str) (sp : Sp) : Prop where
  ex : ∃ (f : Addr) (fd : FuncData) (ps : List Str), FnOk P w K mg base CX0 k f fd ps sp ∧ mg x = some (.ref f) ∧ PySem.W.keepIn K (.ref f) = true ∧ Binds K fd ps []
structure Met (P : Program) (w : World) (K : PySem.W.Frag) (mg : Str → Option Value) (base : Heap) (k : Nat) (C : Addr) (m : Str) (sp : Sp) : Prop where
  ex : ∃ (f : Addr) (fd : FuncData) (ps : List Str), Cls K C ∧ Meth K C m f ∧ FnOk P w K mg base CX0 k f fd ps sp ∧ Binds K fd ps []
structure Mak (P : Program) (w : World) (K : PySem.W.Frag) (mg : Str → Option Value) (base : Heap) (k : Nat) (x : Str) (C : Addr) (sp : Sp) : Prop where
  ex : ∃ (f : Addr) (fd : FuncData) (ps : List Str), Mk K C f ∧ FnOk P w K mg base CX0 k f fd ps sp ∧ mg x = some (.ref C) ∧ Binds K fd ps []
section
variable {X : Cx} {k j : Nat} {C : Addr} {x m : Str} {sp : Sp} {p pos apos : Pos} {e o : Expr} {es : List Expr} {ta : TE} {t : TA}
theorem pe_c (c : Cal X.prog X.w X.K X.mg X.base k x sp) (hr : Room j X.A) (hk : k ≤ j) (hg : Gl X x) (ha : PA X (e :: es) t)
    (hdb : (x == ("__debug__" : Str)) = false := by decide) (he : starEach (e :: es) X.env = (false, eval e X.env) :: starEach es X.env := by rfl) (hpl : (backTo pos (starEach es X.env)).any (·.1) = false := by rfl) :
    PE X (.Call (.Name x p) (e :: es) [] pos) (tCall sp [] E0 t) := by
  obtain ⟨f, fd, ps, F, hm, kp, b⟩ := c.ex
  exact pe_call F (hr.mono hk) hg hm kp b .nil pass0 ha hdb he hpl
theorem pe_mk (c : Mak X.prog X.w X.K X.mg X.base k x C sp) (hr : Room j X.A) (hk : k + 1 ≤ j) (hg : Gl X x) (ha : PA X (e :: es) t)
    (hdb : (x == ("__debug__" : Str)) = false := by decide) (he : starEach (e :: es) X.env = (false, eval e X.env) :: starEach es X.env := by rfl) (hpl : (backTo pos (starEach es X.env)).any (·.1) = false := by rfl) :
    PE X (.Call (.Name x p) (e :: es) [] pos) (tMake C sp [] E0 t) := by
  obtain ⟨f, fd, ps, M, F, hm, b⟩ := c.ex
  exact pe_make M F (hr.mono hk) hg hm b .nil pass0 ha hdb he hpl
theorem pe_mk0 (c : Mak X.prog X.w X.K X.mg X.base k x C sp) (hr : Room j X.A) (hk : k + 1 ≤ j) (hg : Gl X x) (hdb : (x == ("__debug__" : Str)) = false := by decide) :
    PE X (.Call (.Name x p) [] [] pos) (tMake C sp [] E0 tNil) := by
  obtain ⟨f, fd, ps, M, F, hm, b⟩ := c.ex
  exact pe_make0 M F (hr.mono hk) hg hm b .nil pass0 hdb
theorem pe_mt {pl : Sem Bool} (c : Met X.prog X.w X.K X.mg X.base k C m sp) (hr : Room j X.A) (hk : k ≤ j) (he : PE X o ta) (ha : PA X (e :: es) t)
    (hst : starEach (e :: es) X.env = (false, eval e X.env) :: starEach es X.env := by rfl) (hpl : (backTo pos (starEach es X.env)).any (·.1) = false := by rfl)
    (ht : eval (.Call (.Attribute o m apos) (e :: es) [] pos) X.env = (do
      let ov ← eval o X.env
      standAt apos.atName
      let (f, first) ← holding [ov] (getMethod ov m pl)
      callWith pos f first (backTo pos (starEach (e :: es) X.env)) (backToKw pos (keywordEach [] X.env))) := by rfl) :
    PE X (.Call (.Attribute o m apos) (e :: es) [] pos) (tMeth C m sp [] E0 ta t) := by
  obtain ⟨f, fd, ps, hc, hm, F, b⟩ := c.ex
  exact pe_meth (pl := pl) he hc hm F (hr.mono hk) b .nil pass0 ha hst hpl ht
theorem pe_mt0 {pl : Sem Bool} (c : Met X.prog X.w X.K X.mg X.base k C m sp) (hr : Room j X.A) (hk : k ≤ j) (he : PE X o ta)
    (ht : eval (.Call (.Attribute o m apos) [] [] pos) X.env = (do
      let ov ← eval o X.env
      standAt apos.atName
      let (f, first) ← holding [ov] (getMethod ov m pl)
      callWith pos f first (backTo pos (starEach [] X.env)) (backToKw pos (keywordEach [] X.env))) := by rfl) :
    PE X (.Call (.Attribute o m apos) [] [] pos) (tMeth C m sp [] E0 ta tNil) := by
  obtain ⟨f, fd, ps, hc, hm, F, b⟩ := c.ex
  exact pe_meth0 (pl := pl) he hc hm F (hr.mono hk) b .nil pass0 ht
end

/-! ### what the text has -/
def DefE (K : PySem.W.Frag) (mg : Str → Option Value) (x : Str) (st : Stmt) (ps : List Str) : Prop := ∃ (f : Addr) (fd : FuncData), Fun K x x st f fd ∧ mg x = some (.ref f) ∧ Binds K fd ps []
def MethE (K : PySem.W.Frag) (C : Addr) (x qual : Str) (st : Stmt) (ps : List Str) : Prop := ∃ (f : Addr) (fd : FuncData), Fun K x qual st f fd ∧ Meth K C x f ∧ Binds K fd ps []
def InitE (K : PySem.W.Frag) (mg : Str → Option Value) (cn : Str) (C : Addr) (qual : Str) (st : Stmt) (ps : List Str) : Prop := ∃ (f : Addr) (fd : FuncData), Fun K "__init__" qual st f fd ∧ Mk K C f ∧ mg cn = some (.ref C) ∧ Binds K fd ps []
/-- a global name of the module has the value v -/
abbrev GV (mg : Str → Option Value) (x : Str) (v : V) : Prop := ∃ u, mg x = some u ∧ RelV v u
section
variable {P : Program} {w : World} {K : PySem.W.Frag} {mg : Str → Option Value} {base : Heap}
theorem cal_of {x : Str} {st : Stmt} {ps N : List Str} {k : Nat} {sp : Sp} (D : DefE K mg x st ps) (S : FnScope N ps (defScope st)) (len : ∀ vs H Q E, sp vs H Q E → vs.length = ps.length)
    (hbody : ∀ (f : Addr) (cdv : Value) (A : Around) (outer : List Env) (s : Shared) (H : Hp) (vs : List V) (Q : VK) (E : XK), Room k (A.deeper (envOfC x (defScope st) s.heap.objs.size f cdv)) → sp vs H Q E →
      ∃ t, PSs (cxOf CX0 P w K mg base N x (defScope st) f cdv A outer s H E).nox (defBody st) t ∧ t { nx := fun _ H' => Q .non H', rt := Q } (start N vs) H) : Cal P w K mg base (k + 1) x sp := by
  obtain ⟨f, fd, F, hm, b⟩ := D
  exact ⟨f, fd, ps, F.ok S len (hbody f), hm, F.kp, b⟩
theorem met_of {C : Addr} {x qual : Str} {st : Stmt} {ps N : List Str} {k : Nat} {sp : Sp} (D : MethE K C x qual st ps) (c : Cls K C) (S : FnScope N ps (defScope st)) (len : ∀ vs H Q E, sp vs H Q E → vs.length = ps.length)
    (hbody : ∀ (f : Addr) (cdv : Value) (A : Around) (outer : List Env) (s : Shared) (H : Hp) (vs : List V) (Q : VK) (E : XK), Room k (A.deeper (envOfC qual (defScope st) s.heap.objs.size f cdv)) → sp vs H Q E →
      ∃ t, PSs (cxOf CX0 P w K mg base N qual (defScope st) f cdv A outer s H E).nox (defBody st) t ∧ t { nx := fun _ H' => Q .non H', rt := Q } (start N vs) H) : Met P w K mg base (k + 1) C x sp := by
  obtain ⟨f, fd, F, hm, b⟩ := D
  exact ⟨f, fd, ps, c, hm, F.ok S len (hbody f), b⟩
theorem mak_of {C : Addr} {cn qual : Str} {st : Stmt} {ps N : List Str} {k : Nat} {sp : Sp} (D : InitE K mg cn C qual st ps) (S : FnScope N ps (defScope st)) (len : ∀ vs H Q E, sp vs H Q E → vs.length = ps.length)
    (hbody : ∀ (f : Addr) (cdv : Value) (A : Around) (outer : List Env) (s : Shared) (H : Hp) (vs : List V) (Q : VK) (E : XK), Room k (A.deeper (envOfC qual (defScope st) s.heap.objs.size f cdv)) → sp vs H Q E →
      ∃ t, PSs (cxOf CX0 P w K mg base N qual (defScope st) f cdv A outer s H E).nox (defBody st) t ∧ t { nx := fun _ H' => Q .non H', rt := Q } (start N vs) H) : Mak P w K mg base (k + 1) cn C sp := by
  obtain ⟨f, fd, F, M, hm, b⟩ := D
  exact ⟨f, fd, ps, M, F.ok S len (hbody f), hm, b⟩
end
theorem ps_str_loc : True := trivial
end VL

set_option Elab.async false
set_option linter.all false
set_option maxRecDepth 100000
set_option maxHeartbeats 4000000
namespace VL
open PySem PySem.Spec PyProof.Rows L2 NdefX

/-! ### an own exception's __init__ that begins with super().__init__(..), over ValueError -/
abbrev supBody (p0 p1 p2 p3 p4 : Pos) (es : List Expr) (rest : List Stmt) : List Stmt := .Expr (.Call (.Attribute (.Call (.Name "super" p0) [] [] p1) "__init__" p2) es [] p3) p4 :: rest
section
variable {CX : CXT} {P : Program} {w : World} {K : PySem.W.Frag} {mg : Str → Option Value} {base : Heap} {k : Nat} {f D cc cda : Addr} {name qual : Str} {params : Arguments} {es : List Expr} {ar : Arg} {rest : List Stmt} {p0 p1 p2 p3 p4 : Pos} {scope : Scope}
  {dV kV doc pm ct oc cl ccl : Value} {od cld cdd an : Option Addr} {osl csl ccs : Array (Option Value)} {vsC : Array Value} {file : Str} {tf : Tok} {cdD : ClassData} {N ps : List Str} {sp : Sp}
/-- what the written part says of it -/
structure SupK (P : Program) (K : PySem.W.Frag) (mg : Str → Option Value) (f D cc cda : Addr) (fd : FuncData) (qual : Str) : Prop where
  lk : ∃ oc od osl, K.lookup f = some ⟨oc, od, .func fd, osl⟩
  cd : PySem.W.codeIn K (.ref cda) qual = true
  cell : ∃ cl cld csl, K.lookup cc = some ⟨cl, cld, .cell (some (.ref D)), csl⟩
  code : ∃ ccl cdd vsC ccs file tf, K.lookup cda = some ⟨ccl, cdd, .fields vsC, ccs⟩ ∧ vsC[2]? = some (.str file tf) ∧ ((P.main.file : Str) == file) = true
  cls : ∃ cdD, PySem.W.clsIn K D = some cdD
  sub : PySem.W.mroIn K D (.ref D) = some true
  zsuper : mg "super" = none
  ops : PySem.W.nsIn K cStatics "thirdparty.any" = some none
  along : PySem.W.ks_superIn K D D "__init__" = some (some (.builtin "ValueError.__init__"))
  subV : PySem.W.subIn K (.ref D) (.type "ValueError") = some true
  top : (P.main.scope.names.lookup ("super" : Str)).isSome = false
theorem fn_sup {fd : FuncData} (T : SupK P K mg f D cc cda fd qual) (O : OexC K D) (efd : fd = PySem.W.fnX name qual params (supBody p0 p1 p2 p3 p4 es rest) scope [("__class__", cc)] dV kV doc pm an (.ref cda) ct)
    (S : NScope N ps ["__class__"] scope) (har : (params.posonlyargs ++ params.args).head? = some ar) (hps : ps.head? = some ar.arg) (hks : scope.names.lookup ("super" : Str) = some .globalImplicit)
    (hsw : ∀ env : Env, swapsWith (.Call (.Attribute (.Call (.Name "super" p0) [] [] p1) "__init__" p2) es [] p3) none p4.line env = pure false)
    (hst : ∀ env : Env, (backTo p3 (starEach es env)).any (·.1) = false)
    (hee : ∀ env : Env, ∃ x r, backTo p3 (starEach es env) = (false, x) :: r)
    {pl : Sem Bool} (hev : ∀ env : Env, eval (.Call (.Attribute (.Call (.Name "super" p0) [] [] p1) "__init__" p2) es [] p3) env = (do
      let ov ← attributeBase (.Call (.Name "super" p0) [] [] p1) "__init__" env (eval (.Call (.Name "super" p0) [] [] p1) env)
      standAt p2.atName
      let (g, first) ← holding [ov] (getMethod ov "__init__" pl)
      callWith p3 g first (backTo p3 (starEach es env)) []))
    (len : ∀ vs H Q E, sp vs H Q E → vs.length = ps.length)
    (hbody : ∀ (A : Around) (outer : List Env) (s : Shared) (H : Hp) (vs : List V) (Q : VK) (E : XK), Room k (A.deeper (envF ⟨name, qual, params, supBody p0 p1 p2 p3 p4 es rest, scope, [("__class__", cc)], cda⟩ f s.heap.objs.size)) → sp vs H Q E →
      ∃ ta tr, PA (ncx CX P w K mg base N ⟨name, qual, params, supBody p0 p1 p2 p3 p4 es rest, scope, [("__class__", cc)], cda⟩ f A outer s H E) es ta ∧
        PSs (ncx CX P w K mg base N ⟨name, qual, params, supBody p0 p1 p2 p3 p4 es rest, scope, [("__class__", cc)], cda⟩ f A outer s H E) rest tr ∧
        ∃ (a : Addr) (vs' : List V), vs = .ref a :: vs' ∧ H a = some (exo a D none) ∧
          ta (startF N vs [some (.ref D)]) H fun ws H1 => ws.length ≤ 1000 ∧ H1 a = some (exo a D none) ∧ tr { nx := fun _ H' => Q .non H', rt := Q } (startF N vs [some (.ref D)]) H1) :
    FnOk P w K mg base CX (k + 1) f fd ps sp := by
  subst efd
  obtain ⟨oc, od, osl, lk⟩ := T.lk
  obtain ⟨cl, cld, csl, hcell⟩ := T.cell
  obtain ⟨ccl, cdd, vsC, ccs, file, tf, hcode, hvs, hfile⟩ := T.code
  obtain ⟨cdD, hD⟩ := T.cls
  refine ⟨len, fun A outer s H args us vs Q E hr e0 hb r hsp => ?_⟩
  have hl := len _ _ _ _ hsp
  have KX : K.In s.heap := e0.mod.kin.keeps fun b o q => (e0.bs b o q).1
  have lim : s.heap.NoLimit := e0.mod.nolimit.keeps fun b o e => (e0.bs b o e).1
  have C : CellsAt [("__class__", cc)] ["__class__"] [some (.ref D)] s.heap H := by
    have one : ∀ y c, [(("__class__" : Str), cc)].lookup y = some c → y = "__class__" ∧ c = cc := fun y c e => by
      by_cases h : y = ("__class__" : Str)
      · subst h
        have e2 : [(("__class__" : Str), cc)].lookup ("__class__" : Str) = some cc := by simp [List.lookup]
        rw [e2] at e
        exact ⟨rfl, (Option.some.inj e).symm⟩
      · have q : (y == ("__class__" : Str)) = false := by simpa using h
        simp [List.lookup, q] at e
    have hc : ∃ v, s.heap.IsCell cc v := ⟨_, _, KX _ _ hcell, rfl⟩
    have hcH : H cc = none := (e0.bs cc _ (e0.mod.kin _ _ hcell)).2
    refine ⟨rfl, fun y c e => ?_, fun x y c e1 e2 => ?_, fun i y e => ?_⟩
    · obtain ⟨_, rfl⟩ := one y c e
      exact ⟨hcH, hc⟩
    · rw [(one _ _ e1).1, (one _ _ e2).1]
    · cases i with
      | zero =>
        injection e with e
        subst e
        refine ⟨cc, by simp [List.lookup], fun v ev => ?_⟩
        injection ev with ev
        injection ev with ev
        subst ev
        exact ⟨_, rfl, _, KX _ _ hcell, rfl⟩
      | succ i => cases i <;> cases e
  refine PySem.ks_codeAny_call_defAt (body := supBody p0 p1 p2 p3 p4 es rest) hr.depth (KX _ _ lk) rfl lim (PySem.W.codeRec_of KX T.cd) rfl hb S.nocell (fun ⟨n, _⟩ hy => S.par n (List.of_mem_zip hy).1) (fun h₁ hns kp => ?_) S.co S.gen S.kind
  obtain ⟨ta, tr, hA, hR, a, vs', ev, ha0, hq⟩ := hbody A outer s H vs Q E (hr.deeper _) hsp
  generalize hF : (⟨name, qual, params, supBody p0 p1 p2 p3 p4 es rest, scope, [("__class__", cc)], cda⟩ : NF) = F at hA hR
  have I : Inv (ncx CX P w K mg base N F f A outer s H E) [] (startF N vs [some (.ref D)]) H { s with heap := h₁, toks := s.toks + (ps.zip us).length } := by
    subst hF
    exact inv_startN S hr.hd e0 hl r C hns kp
  have eenv : callEnv (PySem.W.fnX name qual params (supBody p0 p1 p2 p3 p4 es rest) scope [("__class__", cc)] dV kV doc pm an (.ref cda) ct) s.heap.objs.size f = envF F f s.heap.objs.size := by
    subst hF
    rfl
  rw [eenv]
  have fin : ∀ {σ' : L2.St} {H' : Hp} {v : V} {u : Value} {s' : Shared}, Inv (ncx CX P w K mg base N F f A outer s H E) [] σ' H' s' → L2.RelV v u → Q v H' → CE outer P w H s Q u s' :=
    fun {σ' H' v u s'} J rv q => ⟨v, H', J.os, J.bare, J.base, J.hok, rv, q⟩
  refine PySem.ks_wpAt_mono (Q := SP (ncx CX P w K mg base N F f A outer s H E) [] { nx := fun _ H' => Q .non H', rt := Q }) (E := (ncx CX P w K mg base N F f A outer s H E).xe) ?go (fun fl s' hs => ?en) (fun _ _ x => x)
  case en =>
    cases fl with
    | ret u =>
      obtain ⟨v, σ', H', J, rv, q⟩ := hs
      exact fin J rv q
    | next =>
      obtain ⟨σ', H', J, q⟩ := hs
      exact fin (v := V.non) (u := Value.none) J rfl q
    | brk =>
      obtain ⟨_, _, _, q⟩ := hs
      exact False.elim q
    | cont =>
      obtain ⟨_, _, _, q⟩ := hs
      exact False.elim q
  have ekind : ∀ x, (envF F f s.heap.objs.size).kindOf x = scope.names.lookup x := by
    subst hF
    intro x
    rfl
  refine PySem.ks_wpAt_execs_cons (PySem.ks_wpAt_Expr_any (PySem.ks_wpAt_MethodCall (pl := pl) ?_ (hev _)) I.quiet (hsw _))
  refine PySem.ks_wpAt_super_base (env := envF F f s.heap.objs.size) ((ekind _).trans hks) ((ekind _).trans (S.frk _ List.mem_cons_self)) rfl rfl (kp _ _ (KX _ _ lk)) rfl har (by subst hF; rfl) (kp _ _ (KX _ _ hcode)) rfl hvs hfile T.top ?_
  have escope : (envF F f s.heap.objs.size).scope = scope := by subst hF; rfl
  have ecells : (envF F f s.heap.objs.size).cells = [(("__class__" : Str), cc)] := by subst hF; rfl
  obtain ⟨mb, b1, b2⟩ := e0.mod.blt
  have kb : ∀ b o, base.get? b = some o → h₁.get? b = some o := fun b o q => kp b o (e0.bs b o q).1
  have X₁ : K.In h₁ := KX.keeps kp
  have hgl := e0.mod.glob.keeps kb
  have hbl := b1.keeps kb
  refine PySem.W.ks_loadName_global (by rw [escope]; exact S.kind) ((ekind _).trans hks) (Calls.loadGlobal_builtin hgl T.zsuper hbl ((b2 _ (by decide +kernel)).trans Boot.«super») ⟨rfl, ?_⟩)
  refine wpAny_loadName_free (by rw [escope]; exact S.kind) ((ekind _).trans (S.frk _ List.mem_cons_self)) (c := cc) (v := .ref D) (by rw [ecells]; simp [List.lookup]) ⟨_, X₁ _ _ hcell, rfl⟩ ?_
  have hself : (ps.zip us).reverse.lookup ar.arg = some (.ref a) := by
    subst ev
    cases ps with
    | nil => cases hps
    | cons p ps' =>
      injection hps with hps
      subst hps
      cases r with
      | @cons _ u0 _ ur ra rw' =>
        obtain rfl : u0 = Value.ref a := ra
        have nd : (ar.arg :: ps').Nodup := by
          have q := S.nd.sublist (List.take_sublist ((ar.arg :: ps').length + [("__class__" : Str)].length) N)
          rw [S.pre] at q
          exact (List.nodup_append.mp q).1
        exact zip_look (i := 0) nd rfl rfl
  have hpar : scope.names.lookup ar.arg = some .local := by
    refine S.par _ ?_
    cases ps with
    | nil => cases hps
    | cons p ps' =>
      injection hps with hps
      subst hps
      exact List.mem_cons_self
  refine wpAny_loadName_local (by rw [escope]; exact S.kind) ((ekind _).trans hpar) hns hself ?_
  obtain ⟨oD, hD1, hD2⟩ : ∃ oD, h₁.get? D = some oD ∧ oD.data = .cls cdD := by
    have z := hD
    unfold PySem.W.clsIn at z
    split at z
    · rename_i ho
      cases z
      exact ⟨_, X₁ _ _ ho, rfl⟩
    · cases z
  refine PySem.ks_wpAny_isType_cls hD1 hD2 ⟨rfl, ?_⟩
  obtain ⟨t1, hoa⟩ := exo_at I.hok ha0
  refine PySem.ks_wpAny_call_super hD1 hD2 hoa rfl (fun c e => by cases e) (PySem.W.looks_mroIn X₁ T.sub) (fun h₂ e2 k2 => ?_)
  have I2 := I.kept (t' := s.toks + (ps.zip us).length) k2
  have X₂ : K.In h₂ := X₁.keeps k2
  have IA : PySem.W.InstAt h₂ a { cls := .ref D, dict := none, data := .fields #[.ref t1, .none, .none, .none, .bool false, .none] } D none := ⟨k2 _ _ hoa, rfl, rfl, trivial⟩
  have hal := T.along
  unfold PySem.W.ks_superIn at hal
  rw [hD] at hal
  have hmro : PySem.W.Looks (model P w) h₂ (mroOf (.ref D)) cdD.mro := fun A Q E s k q => wpAny_bind ((PySem.W.looks_clsIn X₂ hD) A _ E s k (wpAny_pure q))
  refine PySem.W.kxs_getMethod PySem.W.kxs_ValueError e2 (PySem.W.looks_opaque X₂ T.ops) hmro rfl X₂ hal (IA.type.andThen (PySem.W.looks_subIn X₂ T.subV)) (PySem.W.ks_ne X₂ IA hD) rfl ?_
  have kmw : ∀ b o, h₂.get? b = some o → (h₂.push (PySem.W.kxs_mw "ValueError.__init__" a)).get? b = some o := fun b o q => Heap.get?_push_of_some _ q
  have I3 : Inv (ncx CX P w K mg base N F f A outer s H E) [(h₂.objs.size, PySem.W.kxs_mw "ValueError.__init__" a)] (startF N vs [some (.ref D)]) H { s with heap := h₂.push (PySem.W.kxs_mw "ValueError.__init__" a), toks := s.toks + (ps.zip us).length + 1 } := by
    refine (I2.kept (t' := s.toks + (ps.zip us).length + 1) kmw).pins_of fun p hp => ?_
    rw [List.mem_singleton.mp hp]
    exact ⟨Heap.get?_push_at rfl rfl, I2.hok.fresh (Nat.le_refl _), Nat.ne_of_gt I2.lt, I2.nofs (Nat.le_refl _), fun v e => by cases e⟩
  refine PySem.W.kxs_callWith (i := "ValueError.__init__") (x := a) (hst _) ?_
  obtain ⟨x0, r0, hx⟩ := hee (envF F f s.heap.objs.size)
  rw [hx]
  refine Calls.evalArgs_plain ?_
  rw [← hx]
  refine thn (hA.run p3 _ _ _ H _ I3 hq) (fun us1 s4 ⟨ws, H1, I4, r1, hz, ha1, hrest⟩ => ⟨(I4.pin (h₂.objs.size, PySem.W.kxs_mw "ValueError.__init__" a) (List.mem_append_right _ List.mem_cons_self)).1, ?_⟩)
  have hu := (I4.pin (h₂.objs.size, PySem.W.kxs_mw "ValueError.__init__" a) (List.mem_append_right _ List.mem_cons_self)).1
  have I5 : Inv (ncx CX P w K mg base N F f A outer s H E) [] (startF N vs [some (.ref D)]) H1 s4 := I4.pins_of fun p hp => by cases hp
  obtain ⟨nm, q, Nn, bs, bm, sn, sub, ab, col, dd, k0, k1, k2', k3, k5, hC, hbm⟩ := O.cls
  obtain ⟨t2, ho⟩ := exo_at I5.hok ha1
  have hus : us1.length ≤ sizeLine := by
    rw [← Paired.length r1]
    exact Nat.le_trans hz (by decide)
  have kin4 := I5.kIn
  obtain ⟨hp, g, d, tk, os⟩ := s4
  refine wpAny_call (codeAny_of_tree ?_)
  show wpAny _ (A.deeper (envF F f s.heap.objs.size)).in1 (callAny (.ref h₂.objs.size) ⟨us1, []⟩) _ _ _
  simp only [callAny]
  refine wpAny_bind (wpAny_load hu ?_)
  simp only [PySem.W.kxs_mw, show (Value.type "method-wrapper" == Value.type "method" || Value.type "method-wrapper" == Value.type "builtin_function_or_method" || Value.type "method-wrapper" == Value.type "method-wrapper") = true by decide, if_true]
  refine PySem.W.KFB.if_so (by decide) ?_
  refine wpAny_bind (PySem.W.check_bound_init PySem.F.excBase_ValueError.toExcCallFacts (kin4 _ _ hC) ho rfl ?_)
  refine wpAny_bind (wpAny_pure (wpAny_pure ?_))
  refine ⟨plainId_quiet PySem.F.excBase_ValueError.init.plain _, codeAny_builtin PySem.F.excBase_ValueError.initEntry ?_⟩
  refine PySem.W.exc_init_tree (cls := .ref D) (t0 := t2) (dv := none) (c2 := .none) (c3 := .none) (b4 := .bool false) ho hus fun h' kk e' _ => ?_
  have J := I5.write (t' := tk) (x := a) (e := a) (o := exo a D none) (by rw [ha1]; exact True.intro) (.inl rfl) kk ⟨_, e'⟩ (exo_ok e')
  have eu : upd H1 a (exo a D none) = H1 := by
    funext b
    by_cases hb : b = a
    · rw [hb, upd_same, ha1]
    · rw [upd_ne hb]
  rw [eu] at J
  exact wpAt_of_wpAny (hR.run [] _ _ H1 _ J hrest)
end
end VL

set_option Elab.async false
set_option linter.all false
set_option maxRecDepth 100000
set_option maxHeartbeats 4000000
namespace VL
open PySem PySem.Spec PyProof.Rows L2 NdefX

/-! ### isinstance of a caught error that has a dict -/
theorem call_isED {X : Cx} {a D : Addr} {oe : Obj} {cls : Value} {d : Option Addr} {pn : List (Addr × Obj)} (C : ExcC X.K D) (hz : Zc cls d oe) (hf : ∃ vs, oe.data = .fields vs) :
    CallR (X.suite a ((a, oe) :: pn)) (.builtin "isinstance") (fun xs H Q => cls = .ref D ∧ ∃ (dd : Addr) (fs : List (Str × V)) (c : V) (cv : Value) (b : Bool), d = some dd ∧ H dd = some (.xd fs) ∧ xs = [.ref a, c] ∧ (∀ u, RelV c u → u = cv) ∧ PySem.W.kitOne X.K (.ref D) cv = some b ∧ Q (.bl b) H) := by
  intro pins s σ H xs us Q I r h
  obtain ⟨ec, dd, fs, c, cv, b, ed, ea, ex, hcv, e, q⟩ := h
  subst ec ed ex
  cases r with
  | cons rx rr =>
    cases rr with
    | cons rt rr =>
      cases rr
      cases rx
      obtain rfl := hcv _ rt
      have hp := (I.pin (a, oe) (List.mem_append_left _ List.mem_cons_self)).1
      obtain ⟨vs, hv⟩ := hf
      have hx : ObjOk X.prog X.w H s.heap dd (.xd fs) := I.hok dd _ ea
      obtain ⟨mA, hns, _⟩ := hx
      obtain ⟨od, ho, _⟩ := lookIn_ns hns
      have J : PySem.W.InstAt s.heap a oe D (some od) := ⟨hp, hz.1, by unfold PySem.W.notCls; rw [hv] <;> rfl, by rw [hz.2]; exact ho⟩
      have hcl : (PySem.W.clsIn X.K D).isSome = true := by
        obtain ⟨cd, hc, _⟩ := PySem.W.any_some C.hd
        rw [hc]
        rfl
      exact PySem.W.kia_one (PySem.W.kitx_exc (ox := oe) (od := some od) hcl C.hg C.hk C.hs C.ha C.hn C.ht C.hm) I.kIn J e (fun z => nomatch z) fun tk => ⟨.bl b, H, I.kept (t' := tk) fun _ _ z => z, rfl, q⟩
end VL

set_option Elab.async false
set_option linter.all false
set_option maxRecDepth 100000
set_option maxHeartbeats 4000000
namespace VL
open PySem PySem.Spec PyProof.Rows L2

/-! ### defs and methods that may raise -/
structure CalX (P : Program) (w : World) (K : PySem.W.Frag) (mg : Str → Option Value) (base : Heap) (k : Nat) (x : Str) (sp : Sp) : Prop where
  ex : ∃ (f : Addr) (fd : FuncData) (ps : List Str), FnOk P w K mg base (L2.CX P w) k f fd ps sp ∧ mg x = some (.ref f) ∧ PySem.W.keepIn K (.ref f) = true ∧ Binds K fd ps []
structure MetX (P : Program) (w : World) (K : PySem.W.Frag) (mg : Str → Option Value) (base : Heap) (k : Nat) (C : Addr) (m : Str) (sp : Sp) : Prop where
  ex : ∃ (f : Addr) (fd : FuncData) (ps : List Str), Cls K C ∧ Meth K C m f ∧ FnOk P w K mg base (L2.CX P w) k f fd ps sp ∧ Binds K fd ps []
structure MakX (P : Program) (w : World) (K : PySem.W.Frag) (mg : Str → Option Value) (base : Heap) (k : Nat) (x : Str) (C : Addr) (sp : Sp) : Prop where
  ex : ∃ (f : Addr) (fd : FuncData) (ps : List Str), Mk K C f ∧ FnOk P w K mg base (L2.CX P w) k f fd ps sp ∧ mg x = some (.ref C) ∧ Binds K fd ps []
section
variable {X : Cx} {k j : Nat} {C : Addr} {x m : Str} {sp : Sp} {E : XK} {p pos apos : Pos} {e o : Expr} {es : List Expr} {ta : TE} {t : TA}
theorem pe_cX (hx : Passes (L2.CX X.prog X.w) X E) (c : CalX X.prog X.w X.K X.mg X.base k x sp) (hr : Room j X.A) (hk : k ≤ j) (hg : Gl X x) (ha : PA X (e :: es) t)
    (hdb : (x == ("__debug__" : Str)) = false := by decide) (he : starEach (e :: es) X.env = (false, eval e X.env) :: starEach es X.env := by rfl) (hpl : (backTo pos (starEach es X.env)).any (·.1) = false := by rfl) :
    PE X (.Call (.Name x p) (e :: es) [] pos) (tCall sp [] E t) := by
  obtain ⟨f, fd, ps, F, hm, kp, b⟩ := c.ex
  exact pe_call F (hr.mono hk) hg hm kp b .nil hx ha hdb he hpl
theorem pe_mkX (hx : Passes (L2.CX X.prog X.w) X E) (c : MakX X.prog X.w X.K X.mg X.base k x C sp) (hr : Room j X.A) (hk : k + 1 ≤ j) (hg : Gl X x) (ha : PA X (e :: es) t)
    (hdb : (x == ("__debug__" : Str)) = false := by decide) (he : starEach (e :: es) X.env = (false, eval e X.env) :: starEach es X.env := by rfl) (hpl : (backTo pos (starEach es X.env)).any (·.1) = false := by rfl) :
    PE X (.Call (.Name x p) (e :: es) [] pos) (tMake C sp [] E t) := by
  obtain ⟨f, fd, ps, M, F, hm, b⟩ := c.ex
  exact pe_make M F (hr.mono hk) hg hm b .nil hx ha hdb he hpl
theorem pe_mtX {pl : Sem Bool} (hx : Passes (L2.CX X.prog X.w) X E) (c : MetX X.prog X.w X.K X.mg X.base k C m sp) (hr : Room j X.A) (hk : k ≤ j) (he : PE X o ta) (ha : PA X (e :: es) t)
    (hst : starEach (e :: es) X.env = (false, eval e X.env) :: starEach es X.env := by rfl) (hpl : (backTo pos (starEach es X.env)).any (·.1) = false := by rfl)
    (ht : eval (.Call (.Attribute o m apos) (e :: es) [] pos) X.env = (do
      let ov ← eval o X.env
      standAt apos.atName
      let (f, first) ← holding [ov] (getMethod ov m pl)
      callWith pos f first (backTo pos (starEach (e :: es) X.env)) (backToKw pos (keywordEach [] X.env))) := by rfl) :
    PE X (.Call (.Attribute o m apos) (e :: es) [] pos) (tMeth C m sp [] E ta t) := by
  obtain ⟨f, fd, ps, hc, hm, F, b⟩ := c.ex
  exact pe_meth (pl := pl) he hc hm F (hr.mono hk) b .nil hx ha hst hpl ht
theorem pe_mtX0 {pl : Sem Bool} (hx : Passes (L2.CX X.prog X.w) X E) (c : MetX X.prog X.w X.K X.mg X.base k C m sp) (hr : Room j X.A) (hk : k ≤ j) (he : PE X o ta)
    (ht : eval (.Call (.Attribute o m apos) [] [] pos) X.env = (do
      let ov ← eval o X.env
      standAt apos.atName
      let (f, first) ← holding [ov] (getMethod ov m pl)
      callWith pos f first (backTo pos (starEach [] X.env)) (backToKw pos (keywordEach [] X.env))) := by rfl) :
    PE X (.Call (.Attribute o m apos) [] [] pos) (tMeth C m sp [] E ta tNil) := by
  obtain ⟨f, fd, ps, hc, hm, F, b⟩ := c.ex
  exact pe_meth0 (pl := pl) he hc hm F (hr.mono hk) b .nil hx ht
end
section
variable {P : Program} {w : World} {K : PySem.W.Frag} {mg : Str → Option Value} {base : Heap}
theorem okX_of {x qual : Str} {st : Stmt} {ps N : List Str} {f : Addr} {fd : FuncData} {k : Nat} {sp : Sp} (F : Fun K x qual st f fd) (S : FnScope N ps (defScope st)) (len : ∀ vs H Q E, sp vs H Q E → vs.length = ps.length)
    (hbody : ∀ (f : Addr) (cdv : Value) (A : Around) (outer : List Env) (s : Shared) (H : Hp) (vs : List V) (Q : VK) (E : XK), Room k (A.deeper (envOfC qual (defScope st) s.heap.objs.size f cdv)) → sp vs H Q E →
      ∃ t, PSs (cxOf (L2.CX P w) P w K mg base N qual (defScope st) f cdv A outer s H E) (defBody st) t ∧ t { nx := fun _ H' => Q .non H', rt := Q } (start N vs) H) : FnOk P w K mg base (L2.CX P w) (k + 1) f fd ps sp :=
  F.okX S len (hbody f)
theorem calX_of {x : Str} {st : Stmt} {ps N : List Str} {k : Nat} {sp : Sp} (D : DefE K mg x st ps) (S : FnScope N ps (defScope st)) (len : ∀ vs H Q E, sp vs H Q E → vs.length = ps.length)
    (hbody : ∀ (f : Addr) (cdv : Value) (A : Around) (outer : List Env) (s : Shared) (H : Hp) (vs : List V) (Q : VK) (E : XK), Room k (A.deeper (envOfC x (defScope st) s.heap.objs.size f cdv)) → sp vs H Q E →
      ∃ t, PSs (cxOf (L2.CX P w) P w K mg base N x (defScope st) f cdv A outer s H E) (defBody st) t ∧ t { nx := fun _ H' => Q .non H', rt := Q } (start N vs) H) : CalX P w K mg base (k + 1) x sp := by
  obtain ⟨f, fd, F, hm, b⟩ := D
  exact ⟨f, fd, ps, okX_of F S len hbody, hm, F.kp, b⟩
theorem metX_of {C : Addr} {x qual : Str} {st : Stmt} {ps N : List Str} {k : Nat} {sp : Sp} (D : MethE K C x qual st ps) (c : Cls K C) (S : FnScope N ps (defScope st)) (len : ∀ vs H Q E, sp vs H Q E → vs.length = ps.length)
    (hbody : ∀ (f : Addr) (cdv : Value) (A : Around) (outer : List Env) (s : Shared) (H : Hp) (vs : List V) (Q : VK) (E : XK), Room k (A.deeper (envOfC qual (defScope st) s.heap.objs.size f cdv)) → sp vs H Q E →
      ∃ t, PSs (cxOf (L2.CX P w) P w K mg base N qual (defScope st) f cdv A outer s H E) (defBody st) t ∧ t { nx := fun _ H' => Q .non H', rt := Q } (start N vs) H) : MetX P w K mg base (k + 1) C x sp := by
  obtain ⟨f, fd, F, hm, b⟩ := D
  exact ⟨f, fd, ps, c, hm, okX_of F S len hbody, b⟩
theorem makX_of {C : Addr} {cn qual : Str} {st : Stmt} {ps N : List Str} {k : Nat} {sp : Sp} (D : InitE K mg cn C qual st ps) (S : FnScope N ps (defScope st)) (len : ∀ vs H Q E, sp vs H Q E → vs.length = ps.length)
    (hbody : ∀ (f : Addr) (cdv : Value) (A : Around) (outer : List Env) (s : Shared) (H : Hp) (vs : List V) (Q : VK) (E : XK), Room k (A.deeper (envOfC qual (defScope st) s.heap.objs.size f cdv)) → sp vs H Q E →
      ∃ t, PSs (cxOf (L2.CX P w) P w K mg base N qual (defScope st) f cdv A outer s H E) (defBody st) t ∧ t { nx := fun _ H' => Q .non H', rt := Q } (start N vs) H) : MakX P w K mg base (k + 1) cn C sp := by
  obtain ⟨f, fd, F, M, hm, b⟩ := D
  exact ⟨f, fd, ps, M, okX_of F S len hbody, hm, b⟩
end
/-- what leaves a def that may raise -/
abbrev thruX {P : Program} {w : World} {K : PySem.W.Frag} {mg : Str → Option Value} {base : Heap} {N : List Str} {qual : Str} {scope : Scope} {f : Addr} {cdv : Value} {A : Around} {outer : List Env} {s : Shared} {H : Hp} {E : XK} :
    Passes (L2.CX P w) (cxOf (L2.CX P w) P w K mg base N qual scope f cdv A outer s H E) E := passes_call (W := fun cls d _ H => E cls d H) (takes_of rfl rfl rfl rfl) fun _ _ _ _ h => h
abbrev takeX {P : Program} {w : World} {K : PySem.W.Frag} {mg : Str → Option Value} {base : Heap} {N : List Str} {qual : Str} {scope : Scope} {f : Addr} {cdv : Value} {A : Around} {outer : List Env} {s : Shared} {H : Hp} {E : XK} :
    Takes (cxOf (L2.CX P w) P w K mg base N qual scope f cdv A outer s H E) (fun cls d _ H => E cls d H) := takes_of rfl rfl rfl rfl
end VL

set_option Elab.async false
set_option linter.all false
set_option maxRecDepth 100000
set_option maxHeartbeats 4000000
namespace VL
open PySem PySem.Spec PyProof.Rows L2

/-! ### what the text has: methods with keyword-only parameters, properties, written tuples, own exceptions without a text of their own -/
def WrT (K : PySem.W.Frag) (a : Addr) (xs : List V) : Prop := ∃ (o : Obj) (its : Array Value) (n : Nat), K.lookup a = some o ∧ o.cls = .type "tuple" ∧ o.data = .seq its n ∧ its.size ≤ sizeLine ∧ Vals xs its.toList ∧ o.dict = none
abbrev catG {α : Type} (us ws : List α) : List α := us ++ ws
def MethKE (K : PySem.W.Frag) (C : Addr) (x qual : Str) (st : Stmt) (ps : List Str) (n : Nat) (ks : List Str) : Prop :=
  ∃ (f : Addr) (fd : FuncData), Fun K x qual st f fd ∧ Meth K C x f ∧ KBn K fd ps n ks catG catG
def PropE (K : PySem.W.Frag) (C : Addr) (x qual : Str) (st : Stmt) : Prop := ∃ (p g : Addr) (fd : FuncData), PropOf K C x p g ∧ Fun K x qual st g fd ∧ Binds K fd ["self"] []
structure ExT (K : PySem.W.Frag) (mg : Str → Option Value) (x : Str) (D : Addr) : Prop where
  g : mg x = some (.ref D)
  xx : PySem.W.excIn K D [.type "ValueError", .type "Exception", .type "BaseException", .type "object"] "ValueError.__new__" = true
  kp : PySem.W.keepIn K (.ref D) = true
  bP : PySem.W.subIn K (.ref D) (.type "BaseException") = some true
  tP : PySem.W.typeIn K (.ref D) = some (.type "type")
  em : PySem.W.exmOne K (.ref D) (.ref D) = some true
  ec : ExcC K D
theorem fun_kbn {K : PySem.W.Frag} {x qual : Str} {st : Stmt} {f : Addr} {fd : FuncData} {ps : List Str} (F : Fun K x qual st f fd) (n : Nat) (ks : List Str)
    (h : ∀ (kV doc pm : Value) (an : Option Addr) (cdv ct : Value) (us ws : List Value), us.length = n → ws.length = ks.length → bindArgs (PySem.W.fnOf x qual (defArgs st) (defBody st) (defScope st) .none kV doc pm an cdv ct) ⟨us, ks.zip ws⟩ = pure (ps.zip (us ++ ws))) :
    KBn K fd ps n ks catG catG := by
  obtain ⟨oc, od, kV, doc, pm, an, cdv, ct, osl, rfl, lk, hcd⟩ := F.ex
  exact ⟨fun s us ws X l1 l2 => .of_eq (h kV doc pm an cdv ct us ws l1 l2), fun r1 r2 => r1.append r2⟩
/-! ### as callers see them -/
structure MetK (P : Program) (w : World) (K : PySem.W.Frag) (mg : Str → Option Value) (base : Heap) (k : Nat) (C : Addr) (m : Str) (sp : Sp) (n : Nat) (ks : List Str) (gV : List V → List V → List V) : Prop where
  ex : ∃ (f : Addr) (fd : FuncData) (ps : List Str) (g : List Value → List Value → List Value), Cls K C ∧ Meth K C m f ∧ FnOk P w K mg base CX0 k f fd ps sp ∧ KBn K fd ps n ks g gV
structure Pro (P : Program) (w : World) (K : PySem.W.Frag) (mg : Str → Option Value) (base : Heap) (k : Nat) (C : Addr) (x : Str) (sp : Sp) : Prop where
  ex : ∃ (p g : Addr) (fd : FuncData), Cls K C ∧ PropOf K C x p g ∧ FnOk P w K mg base CX0 k g fd ["self"] sp ∧ Binds K fd ["self"] []
/-- o.m(.., k = v, ..): n is one more than the values written -/
def tMethK (C : Addr) (m : Str) (sp : Sp) (n kn : Nat) (gV : List V → List V → List V) (ta : TE) (t tk : TA) : TE := fun σ H Q => ta σ H fun x H1 => ∃ a dx fs, x = .ref a ∧ H1 a = some (.ins C dx fs) ∧ fs.lookup m = none ∧ t σ H1 fun vs H2 => tk σ H2 fun zs H3 => vs.length + 1 = n ∧ zs.length = kn ∧ sp (gV (.ref a :: vs) zs) H3 Q E0
section
variable {X : Cx} {k j n : Nat} {C : Addr} {m x : Str} {ks : List Str} {sp : Sp} {pos apos : Pos} {e o : Expr} {es : List Expr} {kws : List Keyword} {ta : TE} {t tk : TA} {gV : List V → List V → List V}
theorem pe_mtK {pl : Sem Bool} (c : MetK X.prog X.w X.K X.mg X.base k C m sp n ks gV) (hr : Room j X.A) (hk : k ≤ j) (he : PE X o ta) (ha : PA X (e :: es) t) (hkw : PK X kws tk)
    (hall : (backToKw pos (keywordEach kws X.env)).all (·.1.isSome) = true := by rfl) (hks : (backToKw pos (keywordEach kws X.env)).filterMap (·.1) = ks := by rfl)
    (hst : starEach (e :: es) X.env = (false, eval e X.env) :: starEach es X.env := by rfl)
    (hpl : ((backTo pos (starEach (e :: es) X.env)).any (·.1) || (backToKw pos (keywordEach kws X.env)).any (·.1.isNone)) = false := by rfl)
    (ht : eval (.Call (.Attribute o m apos) (e :: es) kws pos) X.env = (do
      let ov ← eval o X.env
      standAt apos.atName
      let (f, first) ← holding [ov] (getMethod ov m pl)
      callWith pos f first (backTo pos (starEach (e :: es) X.env)) (backToKw pos (keywordEach kws X.env))) := by rfl) :
    PE X (.Call (.Attribute o m apos) (e :: es) kws pos) (tMethK C m sp n ks.length gV ta t tk) := by
  obtain ⟨f, fd, ps, g, hc, hm, F, b⟩ := c.ex
  refine ⟨fun pins s σ H Q I h => ?_⟩
  refine PySem.W.methodCall_KW (pl := pl) (thn (he.run pins s σ H _ I h) fun u s1 ⟨x, H1, I1, rx, a, dx, fs, ex, ea, l, q⟩ => ?_) ht
  subst ex
  obtain rfl : u = Value.ref a := rx
  refine getmeth_ok I1 ea hc hm l ?_
  refine PySem.W.callWith_KW (first := [.ref a]) (h₀ := X.base) I.ok.mod.kin hm.kp hall (thn (ha.run pos pins s1 σ H1 _ I1 q) fun us s2 ⟨vs, H2, I2, r, q2⟩ => ?_) hpl hst
  refine thn (hkw.run pos pins s2 σ H2 _ I2 q2) fun ws s3 ⟨zs, H3, I3, rz, l1, l2, q3⟩ => ⟨I3.kIn, ?_⟩
  rw [hks]
  exact run_fnN (us := .ref a :: us) (vs := .ref a :: vs) F (hr.mono hk) b pass0 I3 (.cons rfl r) rz l1 l2 q3
theorem pe_mtK0 {pl : Sem Bool} (c : MetK X.prog X.w X.K X.mg X.base k C m sp n ks gV) (hr : Room j X.A) (hk : k ≤ j) (he : PE X o ta) (hkw : PK X kws tk)
    (hall : (backToKw pos (keywordEach kws X.env)).all (·.1.isSome) = true := by rfl) (hks : (backToKw pos (keywordEach kws X.env)).filterMap (·.1) = ks := by rfl)
    (hpl : ((backTo pos (starEach [] X.env)).any (·.1) || (backToKw pos (keywordEach kws X.env)).any (·.1.isNone)) = false := by rfl)
    (ht : eval (.Call (.Attribute o m apos) [] kws pos) X.env = (do
      let ov ← eval o X.env
      standAt apos.atName
      let (f, first) ← holding [ov] (getMethod ov m pl)
      callWith pos f first (backTo pos (starEach [] X.env)) (backToKw pos (keywordEach kws X.env))) := by rfl) :
    PE X (.Call (.Attribute o m apos) [] kws pos) (tMethK C m sp n ks.length gV ta tNil tk) := by
  obtain ⟨f, fd, ps, g, hc, hm, F, b⟩ := c.ex
  refine ⟨fun pins s σ H Q I h => ?_⟩
  refine PySem.W.methodCall_KW (pl := pl) (thn (he.run pins s σ H _ I h) fun u s1 ⟨x, H1, I1, rx, a, dx, fs, ex, ea, l, q⟩ => ?_) ht
  subst ex
  obtain rfl : u = Value.ref a := rx
  refine getmeth_ok I1 ea hc hm l ?_
  refine PySem.W.callWith_KW0 (first := [.ref a]) (h₀ := X.base) I.ok.mod.kin hm.kp hall ?_ hpl
  refine thn (hkw.run pos pins s1 σ H1 _ I1 q) fun ws s3 ⟨zs, H3, I3, rz, l1, l2, q3⟩ => ⟨I3.kIn, ?_⟩
  rw [hks]
  exact run_fnN (us := [.ref a]) (vs := [.ref a]) F (hr.mono hk) b pass0 I3 (.cons rfl .nil) rz l1 l2 q3
theorem pe_pr (c : Pro X.prog X.w X.K X.mg X.base k C x sp) (hr : Room j X.A) (hk : k + 1 ≤ j) (he : PE X e ta) (hab : attributeBase e x X.env (eval e X.env) = eval e X.env := by rfl) : PE X (.Attribute e x pos) (tProp C sp [] E0 ta) := by
  obtain ⟨p, g, fd, hc, hp, F, b⟩ := c.ex
  exact pe_prop he hc hp F (hr.mono hk) b .nil pass0 hab
end
section
variable {P : Program} {w : World} {K : PySem.W.Frag} {mg : Str → Option Value} {base : Heap}
theorem metK_of {C : Addr} {x qual : Str} {st : Stmt} {ps ks N : List Str} {k n : Nat} {sp : Sp} (D : MethKE K C x qual st ps n ks) (c : Cls K C) (S : FnScope N ps (defScope st)) (len : ∀ vs H Q E, sp vs H Q E → vs.length = ps.length)
    (hbody : ∀ (f : Addr) (cdv : Value) (A : Around) (outer : List Env) (s : Shared) (H : Hp) (vs : List V) (Q : VK) (E : XK), Room k (A.deeper (envOfC qual (defScope st) s.heap.objs.size f cdv)) → sp vs H Q E →
      ∃ t, PSs (cxOf CX0 P w K mg base N qual (defScope st) f cdv A outer s H E).nox (defBody st) t ∧ t { nx := fun _ H' => Q .non H', rt := Q } (start N vs) H) : MetK P w K mg base (k + 1) C x sp n ks catG := by
  obtain ⟨f, fd, F, hm, b⟩ := D
  exact ⟨f, fd, ps, _, c, hm, F.ok S len (hbody f), b⟩
theorem pro_of {C : Addr} {x qual : Str} {st : Stmt} {N : List Str} {k : Nat} {sp : Sp} (D : PropE K C x qual st) (c : Cls K C) (S : FnScope N ["self"] (defScope st)) (len : ∀ vs H Q E, sp vs H Q E → vs.length = 1)
    (hbody : ∀ (f : Addr) (cdv : Value) (A : Around) (outer : List Env) (s : Shared) (H : Hp) (vs : List V) (Q : VK) (E : XK), Room k (A.deeper (envOfC qual (defScope st) s.heap.objs.size f cdv)) → sp vs H Q E →
      ∃ t, PSs (cxOf CX0 P w K mg base N qual (defScope st) f cdv A outer s H E).nox (defBody st) t ∧ t { nx := fun _ H' => Q .non H', rt := Q } (start N vs) H) : Pro P w K mg base (k + 1) C x sp := by
  obtain ⟨p, g, fd, hp, F, b⟩ := D
  exact ⟨p, g, fd, c, hp, F.ok S len (hbody g), b⟩
end
end VL

set_option Elab.async false
set_option linter.all false
set_option maxRecDepth 100000
set_option maxHeartbeats 4000000
namespace VL
open PySem PySem.Spec PyProof.Rows L2
/-! ### rules whose readings speak of K, with K told: within comprehensions and except suites -/
theorem u65 {A : Around} {k : Nat} (r : Room k A) : A.units + 65 < cLine := by have := r.un; omega
section
variable {X : Cx} {K : PySem.W.Frag} {e o : Expr} {f : Str} {pos : Pos} {ta : TE}
theorem pe_fldS (hK : X.K = K) (he : PE X e ta) (hb : attributeBase e f X.env (eval e X.env) = eval e X.env) : PE X (.Attribute e f pos) (tFld K ta f) := by subst hK; exact pe_fld he hb
theorem pe_conS (hK : X.K = K) (he : PE X e ta) (hb : attributeBase e f X.env (eval e X.env) = eval e X.env) : PE X (.Attribute e f pos) (tCon K ta f) := by subst hK; exact pe_con he hb
theorem pe_cvalS (hK : X.K = K) (he : PE X e ta) (hb : attributeBase e f X.env (eval e X.env) = eval e X.env := by rfl) : PE X (.Attribute e f pos) (ClX.tCVal K ta f) := by subst hK; exact ClX.pe_cval he hb
theorem ix_listS (hK : X.K = K) : IxR X (rIxL K) := by subst hK; exact ix_list
theorem ix_tupS (hK : X.K = K) : IxR X (rIxT K) := by subst hK; exact ix_tup
theorem sl_listS (hK : X.K = K) : SlR X (rSlL K) := by subst hK; exact sl_list
theorem sl_tupS (hK : X.K = K) : SlR X (rSlT K) := by subst hK; exact sl_tup
theorem op_in_seqS (hK : X.K = K) : OpR X (compareOp .In) (rIn K false) := by subst hK; exact op_in_seq
theorem op_notIn_seqS (hK : X.K = K) : OpR X (compareOp .NotIn) (rIn K true) := by subst hK; exact op_notIn_seq
theorem call_len_seqS (hK : X.K = K) : CallR X (.builtin "len") (fun xs H Q => ∃ p ys, xs = [.ref p] ∧ (SqL K H p ys ∨ SqT K H p ys) ∧ Q (.int ys.length) H) := by subst hK; exact call_len_seq
theorem call_list_ofS (hK : X.K = K) : CallR X (.type "list") (fun xs H Q => ∃ p ys, xs = [.ref p] ∧ (SqL K H p ys ∨ SqT K H p ys) ∧ ∀ l, H l = none → Q (.ref l) (upd H l (.lst ys))) := by subst hK; exact call_list_of
theorem call_isiS (hK : X.K = K) : CallR X (.builtin "isinstance") (rIsi K) := by subst hK; exact call_isi
theorem op_eqDS (hK : X.K = K) (hu : X.A.units + 64 < cLine) : OpR X (compareOp .Eq) (rEqD K) := by subst hK; exact op_eqD hu
theorem op_neDS (hK : X.K = K) (hu : X.A.units + 64 < cLine) : OpR X (compareOp .NotEq) (rNeD K) := by subst hK; exact op_neD hu
theorem cr_maxS (hK : X.K = K) (hc : X.calm = true) : CallR X (.builtin "max") (rMax K) := by subst hK; exact cr_max hc
theorem cr_minS (hK : X.K = K) (hc : X.calm = true) : CallR X (.builtin "min") (rMin K) := by subst hK; exact cr_min hc
theorem op_inDS (hK : X.K = K) (hu : X.A.units + 65 < cLine) : OpR X (compareOp .In) (rInD K) := by subst hK; exact op_inD hu
theorem pt_truthS (hK : X.K = K) (ha : PE X e ta) (he : ∀ whole, isTrue e X.env whole = (do let v ← whole; standAt e.pos; holding [v] (truthy v))) :
    PT X e (fun σ H Q => ta σ H fun x H' => ∃ k, TruV K x H' k ∧ Q k H') := by subst hK; exact pt_truth ha he
theorem pi_listS {tg : Expr} (hK : X.K = K) (hl : PE X e ta) : PI X tg e (iList K ta) := by subst hK; exact pi_list hl
theorem pi_tupS {tg : Expr} (hK : X.K = K) (hl : PE X e ta) : PI X tg e (iTup K ta) := by subst hK; exact pi_tup hl
theorem pg_tupS {es : List Expr} {k : Nat} {t : TGs} {n : Nat} (hK : X.K = K) (hc : X.calm = true) (h : PGs X es t)
    (hn : (assignEach es X.env).length = n := by rfl) (hst : (assignEach es X.env).findIdx? (·.1) = none := by rfl) : PG X (.Tuple es k pos) (gTup K n t) := by subst hK; exact pg_tup hc h hn hst
end
end VL

set_option Elab.async false
set_option linter.all false
set_option maxRecDepth 100000
set_option maxHeartbeats 4000000
namespace VL
open PySem PySem.Spec PyProof.Rows L2

/-! ### texts as lists of signs -/
abbrev TX (l : List Nat) : Str := ⟨l.toArray⟩
theorem TX_tl (l : List Nat) : (TX l).cps.toList = l := by simp
theorem TX_len (l : List Nat) : (TX l).length = l.length := by simp [Str.length]
theorem TX_cat (a b : List Nat) : TX a ++ TX b = TX (a ++ b) := SX.S_cat a b
theorem TX_inj {a b : List Nat} (h : TX a = TX b) : a = b := SX.S_inj h
theorem vstr_TX {a b : List Nat} : decide (V.str (TX a) = V.str (TX b)) = decide (a = b) := by
  by_cases e : a = b
  · subst e; simp
  · have : ¬ V.str (TX a) = V.str (TX b) := fun q => e (TX_inj (V.str.inj q))
    rw [decide_eq_false this, decide_eq_false e]
theorem one_eq {c d : Nat} : decide (V.str (TX [c]) = V.str (TX [d])) = decide (c = d) := by
  rw [vstr_TX]
  by_cases e : c = d
  · subst e; simp
  · simp [e]
/-- the sign at a place -/
theorem at_mid {pre r : List Nat} {c : Nat} {i : Int} (hi : i = (pre.length : Int)) : atI (TX (pre ++ c :: r)).cps.toList i = some c := by
  subst hi
  rw [TX_tl]
  unfold atI ixN
  rw [if_pos (by omega), if_pos (by simp; omega)]
  show (pre ++ c :: r)[(pre.length : Int).toNat]? = _
  rw [Int.toNat_natCast]
  simp
theorem getD_TX (l : List Nat) (v : Nat) : (TX l).cps.getD v 0 = l.getD v 0 := by
  simp only [Array.getD, List.getD_eq_getElem?_getD]
  by_cases h : v < l.length
  · rw [dif_pos (by simpa using h)]
    simp [h]
  · rw [dif_neg (by simpa using h), List.getElem?_eq_none (by omega)]
    rfl
theorem lt_one {c d : Nat} : ([c] < [d]) ↔ c < d := by
  constructor
  · intro h
    cases h with
    | rel h => exact h
    | cons h => cases h
  · intro h
    exact .rel h
/-- s.startswith(y, i) -/
theorem starts_at {pre R y : List Nat} {i : Int} (hi : i = (pre.length : Int)) : Txt.startswith3 (TX (pre ++ R)) (TX y) i = (R.take y.length == y) := by
  subst hi
  have e : fromIndex (TX (pre ++ R)).length (pre.length : Int) = pre.length := by
    unfold fromIndex
    rw [if_neg (by omega)]
    omega
  unfold Txt.startswith3
  rw [e, StrLaws.subAt_eq]
  have h1 : (TX (pre ++ R)).cps.toList.drop pre.length = R := by simp
  rw [h1, TX_len, TX_len]
  show (decide (pre.length + y.length ≤ (pre ++ R).length) && (R.take y.length == (TX y).cps.toList)) = _
  rw [TX_tl, List.length_append]
  by_cases h : y.length ≤ R.length
  · rw [decide_eq_true (by omega)]
    rfl
  · rw [decide_eq_false (by omega)]
    have : (R.take y.length == y) = false := by
      refine beq_eq_false_iff_ne.mpr fun q => h ?_
      have := congrArg List.length q
      rw [List.length_take] at this
      omega
    rw [this]
    rfl
/-- s.find("\n", i) -/
theorem find_nl {pre c r : List Nat} {d : Nat} {i : Int} (hi : i = (pre.length : Int)) (hc : d ∉ c) : Txt.find3 (TX (pre ++ (c ++ d :: r))) (TX [d]) i = ((pre.length + c.length : Nat) : Int) := by
  subst hi
  have e : fromIndex (TX (pre ++ (c ++ d :: r))).length (pre.length : Int) = pre.length := by
    unfold fromIndex
    rw [if_neg (by omega)]
    omega
  have hg : ∀ v, v < (pre ++ (c ++ d :: r)).length → (TX (pre ++ (c ++ d :: r))).cps.getD v 0 = (pre ++ (c ++ d :: r)).getD v 0 := fun v _ => getD_TX _ v
  have hat : (pre ++ (c ++ d :: r)).getD (pre.length + c.length) 0 = d := by simp [List.getD_eq_getElem?_getD]
  have hlt : pre.length + c.length < (pre ++ (c ++ d :: r)).length := by rw [List.length_append, List.length_append, List.length_cons]; omega
  rcases StrLaws.find3_spec (TX (pre ++ (c ++ d :: r))) d (pre.length : Int) with ⟨_, h2⟩ | ⟨k, h1, h2, h3, h4, h5⟩
  · rw [e, TX_len] at h2
    exact absurd (by rw [hg _ hlt]; exact hat) (h2 (pre.length + c.length) (by omega) hlt)
  · rw [e] at h2 h5
    rw [TX_len] at h3
    rw [h1]
    have hk : k = pre.length + c.length := by
      rcases Nat.lt_trichotomy k (pre.length + c.length) with q | q | q
      · exfalso
        rw [hg k h3] at h4
        have e3 : (pre ++ (c ++ d :: r)).getD k 0 = c.getD (k - pre.length) 0 := by
          rw [List.getD_eq_getElem?_getD, List.getD_eq_getElem?_getD, List.getElem?_append_right h2, List.getElem?_append_left (by omega)]
        rw [e3] at h4
        apply hc
        have hlt2 : k - pre.length < c.length := by omega
        rw [List.getD_eq_getElem?_getD, List.getElem?_eq_getElem hlt2] at h4
        have h4 : c[k - pre.length] = d := h4
        rw [← h4]
        exact List.getElem_mem hlt2
      · exact q
      · exfalso
        exact h5 (pre.length + c.length) (by omega) q (by rw [hg _ hlt]; exact hat)
    rw [hk]
/-- s[i:j] -/
theorem cut_mid {pre m r : List Nat} {i j : Int} (hi : i = (pre.length : Int)) (hj : j = ((pre.length + m.length : Nat) : Int)) : cutS (TX (pre ++ (m ++ r))) (some i) (some j) = TX m := by
  subst hi hj
  unfold cutS
  rw [TX_len, HT.sIx_nat, HT.sIx_nat, TX_tl]
  have e1 : min pre.length (pre ++ (m ++ r)).length = pre.length := by simp
  have e2 : min (pre.length + m.length) (pre ++ (m ++ r)).length = pre.length + m.length := by simp
  rw [e1, e2]
  refine congrArg TX ?_
  rw [List.drop_left, Nat.add_sub_cancel_left, List.take_left]

/-! ### rows -/
def rws : List Nat → List Nat → List (List Nat)
  | acc, [] => [acc]
  | acc, c :: r => if c = 10 then acc :: rws [] r else rws (acc ++ [c]) r
theorem spl_rws : ∀ (l acc : List Nat), TL.spl [10] 0 acc l = rws acc l
  | [], acc => by rw [TL.spl_nil]; rfl
  | c :: r, acc => by
    unfold rws
    by_cases h : c = 10
    · subst h
      rw [if_pos rfl, TL.spl_hit (by rfl)]
      exact congrArg (acc :: ·) (spl_rws r [])
    · rw [if_neg h, TL.spl_miss (by
        show TL.pre [10] (c :: r) = false
        unfold TL.pre
        simp [h])]
      exact spl_rws r _
theorem rws_ne : ∀ (l acc : List Nat), rws acc l ≠ []
  | [], acc => by unfold rws; simp
  | c :: r, acc => by
    unfold rws
    split
    · simp
    · exact rws_ne r _
def lnOf (l : List Nat) : Nat := (rws [] l).length
def clOf (l : List Nat) : Nat := ((rws [] l).getLast (rws_ne _ _)).length
theorem rws_plain : ∀ (l acc m : List Nat), 10 ∉ m → ∃ fr la, rws acc l = fr ++ [la] ∧ rws acc (l ++ m) = fr ++ [la ++ m]
  | [], acc, m, h => by
    refine ⟨[], acc, rfl, ?_⟩
    show rws acc m = [acc ++ m]
    induction m generalizing acc with
    | nil => rw [List.append_nil]; rfl
    | cons c m ih =>
      have hc : c ≠ 10 := fun e => h (by rw [e]; exact List.mem_cons_self)
      unfold rws
      rw [if_neg hc, ih _ fun e => h (List.mem_cons_of_mem _ e), List.append_assoc]
      rfl
  | c :: r, acc, m, h => by
    rw [List.cons_append]
    unfold rws
    by_cases hc : c = 10
    · rw [if_pos hc, if_pos hc]
      obtain ⟨fr, la, e1, e2⟩ := rws_plain r [] m h
      exact ⟨acc :: fr, la, by rw [e1]; rfl, by rw [e2]; rfl⟩
    · rw [if_neg hc, if_neg hc]
      exact rws_plain r _ m h
theorem rws_nl : ∀ (l acc : List Nat), rws acc (l ++ [10]) = rws acc l ++ [[]]
  | [], acc => by
    show rws acc [10] = [acc] ++ [[]]
    unfold rws
    rw [if_pos rfl]
    rfl
  | c :: r, acc => by
    rw [List.cons_append]
    unfold rws
    split
    · rw [rws_nl r []]; rfl
    · exact rws_nl r _
theorem getLast_of {α : Type} {l fr : List α} {la : α} (h : l ≠ []) (e : l = fr ++ [la]) : l.getLast h = la := by
  subst e
  simp
theorem ln_plain (l m : List Nat) (h : 10 ∉ m) : lnOf (l ++ m) = lnOf l := by
  obtain ⟨fr, la, e1, e2⟩ := rws_plain l [] m h
  unfold lnOf
  rw [e1, e2]
  simp
theorem cl_plain (l m : List Nat) (h : 10 ∉ m) : clOf (l ++ m) = clOf l + m.length := by
  obtain ⟨fr, la, e1, e2⟩ := rws_plain l [] m h
  unfold clOf
  rw [getLast_of _ e1, getLast_of _ e2, List.length_append]
theorem ln_nl (l : List Nat) : lnOf (l ++ [10]) = lnOf l + 1 := by
  unfold lnOf
  rw [rws_nl]
  simp
theorem cl_nl (l : List Nat) : clOf (l ++ [10]) = 0 := by
  unfold clOf
  rw [getLast_of _ (rws_nl l [])]
  rfl
theorem cl_le : ∀ l : List Nat, clOf l ≤ l.length := by
  intro l
  have : ∀ (l acc : List Nat), ((rws acc l).getLast (rws_ne _ _)).length ≤ acc.length + l.length := by
    intro l
    induction l with
    | nil => intro acc; simp [rws]
    | cons c r ih =>
      intro acc
      by_cases hc : c = 10
      · have e : rws acc (c :: r) = acc :: rws [] r := by
          show (if c = 10 then _ else _) = _
          rw [if_pos hc]
        have e2 : (rws acc (c :: r)).getLast (rws_ne _ _) = (rws [] r).getLast (rws_ne _ _) := by
          simp only [e]
          exact List.getLast_cons (rws_ne _ _)
        rw [e2]
        have := ih []
        simp at this ⊢
        omega
      · have e : rws acc (c :: r) = rws (acc ++ [c]) r := by
          show (if c = 10 then _ else _) = _
          rw [if_neg hc]
        have e2 : (rws acc (c :: r)).getLast (rws_ne _ _) = (rws (acc ++ [c]) r).getLast (rws_ne _ _) := by simp only [e]
        rw [e2]
        have := ih (acc ++ [c])
        simp at this ⊢
        omega
  have := this l []
  simpa [clOf] using this
/-- row = source.split("\n"): how many, and the last one's length -/
theorem split_rows (l : List Nat) : Txt.split (TX l) (TX [10]) = (rws [] l).map TX := by
  have := SX.split_S (a := l) (b := [10]) (by simp) (by decide)
  rw [spl_rws] at this
  exact this
theorem rows_last (l : List Nat) : ∃ la : List Nat, atI ((rws [] l).map fun r => V.str (TX r)) (-1) = some (.str (TX la)) ∧ la.length = clOf l := by
  refine ⟨(rws [] l).getLast (rws_ne _ _), ?_, rfl⟩
  have hp : 0 < (rws [] l).length := List.length_pos_iff.mpr (rws_ne _ _)
  unfold atI ixN
  rw [if_neg (by decide), if_pos (by rw [List.length_map]; omega)]
  show ((rws [] l).map fun r => V.str (TX r))[_]? = _
  have e : (-1 + (((rws [] l).map fun r => V.str (TX r)).length : Int)).toNat = (rws [] l).length - 1 := by rw [List.length_map]; omega
  rw [e, List.getElem?_map, List.getElem?_eq_getElem (by omega), List.getLast_eq_getElem]
  rfl

/-! ### signs -/
def isLet (c : Nat) : Bool := (decide (97 ≤ c) && decide (c ≤ 122)) || (decide (65 ≤ c) && decide (c ≤ 90))
def isDig (c : Nat) : Bool := decide (48 ≤ c) && decide (c ≤ 57)
def isWs (c : Nat) : Bool := isLet c || isDig c || decide (c = 95)
end VL

set_option Elab.async false
set_option linter.all false
set_option maxRecDepth 100000
set_option maxHeartbeats 4000000
/-! sorted of tuples (int, int, bool) -/
namespace S3
open PySem PyProof.Rows Srt SrtO
abbrev Trip := Int × Int × Bool
def ltT (p q : Trip) : Bool := if p.1 = q.1 then (if p.2.1 = q.2.1 then decide (b2i p.2.2 < b2i q.2.2) else decide (p.2.1 < q.2.1)) else decide (p.1 < q.1)
theorem ltT_iff {p q : Trip} : ltT p q = true ↔ p.1 < q.1 ∨ (p.1 = q.1 ∧ (p.2.1 < q.2.1 ∨ (p.2.1 = q.2.1 ∧ b2i p.2.2 < b2i q.2.2))) := by
  unfold ltT
  by_cases e : p.1 = q.1
  · rw [if_pos e]
    by_cases e2 : p.2.1 = q.2.1
    · rw [if_pos e2, decide_eq_true_eq]
      omega
    · rw [if_neg e2, decide_eq_true_eq]
      omega
  · rw [if_neg e, decide_eq_true_eq]
    omega
theorem ltT_no {p q : Trip} : ltT p q = false ↔ ¬ (p.1 < q.1 ∨ (p.1 = q.1 ∧ (p.2.1 < q.2.1 ∨ (p.2.1 = q.2.1 ∧ b2i p.2.2 < b2i q.2.2)))) := by
  rw [← ltT_iff]
  cases ltT p q <;> simp
theorem swo_T {α : Type} (k : α → Trip) : Swo fun v u => ltT (k v) (k u) := by
  refine ⟨fun x y h => ?_, fun x y z h1 h2 => ?_⟩
  · have a := ltT_iff.mp h
    refine ltT_no.mpr ?_
    omega
  · have a := ltT_no.mp h1
    have b := ltT_no.mp h2
    refine ltT_no.mpr ?_
    omega
def IsTrip (h : Heap) (v : Value) (k : Trip) : Prop := ∃ a o t u n, v = .ref a ∧ h.get? a = some o ∧ o.cls = .type "tuple" ∧ o.data = .seq #[.int k.1 t, .int k.2.1 u, .bool k.2.2] n
theorem IsTrip.keeps {h h' : Heap} {v : Value} {k : Trip} (p : IsTrip h v k) (kp : ∀ b o, h.get? b = some o → o.cls = .type "tuple" → h'.get? b = some o) : IsTrip h' v k := by
  obtain ⟨a, o, t, u, n, e, ho, hc, hd⟩ := p
  exact ⟨a, o, t, u, n, e, kp _ _ ho hc, hc, hd⟩
section
variable {prog : Program} {w : World} {A : Around} {E : Value → Shared → Prop} {s : Shared}
theorem trip_cmp {vs : List Value} {k : Value → Trip} (hp : ∀ v ∈ vs, IsTrip s.heap v (k v)) : Cmp prog w A s (tuples' true) (fun p => p.1 ∈ vs) (lt2 fun v u => ltT (k v) (k u)) := by
  intro p q hm hm'
  have h1 := hp _ hm
  have h2 := hp _ hm'
  show wpAny (model prog w) A (keyLt' (tuples' true) p.1 q.1) (fun r s' => s' = s ∧ r = ltT (k p.1) (k q.1)) (fun _ _ => False) s
  unfold ltT
  generalize k p.1 = K1 at h1 ⊢
  generalize k q.1 = K2 at h2 ⊢
  obtain ⟨x, y, z⟩ := K1
  obtain ⟨x', y', z'⟩ := K2
  obtain ⟨a, o, t, u, n, e, ho, hc, hd⟩ := h1
  obtain ⟨a', o', t', u', n', e', ho', hc', hd'⟩ := h2
  rw [e, e']
  refine PySem.W.kat_lt ho hd ho' hd' ?_
  show PySem.W.KatLex prog w A true (decide (3 < 3)) _ [(.int x t, .int x' t'), (.int y u, .int y' u'), (.bool z, .bool z')] 0 s
  dsimp only
  refine PySem.W.kat_cons (SeqAt.EqAt.int_int x t x' t' prog w _ _ ?_)
  refine PySem.W.kat_go (fun e1 => ?_) (fun e1 => ?_)
  · have ex : x = x' := by simpa using e1
    rw [if_pos ex]
    refine PySem.W.kat_yes (PySem.W.kat_cons (SeqAt.EqAt.int_int y u y' u' prog w _ _ ?_))
    refine PySem.W.kat_go (fun e2 => ?_) (fun e2 => ?_)
    · have ey : y = y' := by simpa using e2
      rw [if_pos ey]
      refine PySem.W.kat_yes (PySem.W.kat_cons (SeqAt.EqAt.bool_bool z z' prog w _ _ ?_))
      refine PySem.W.kat_go (fun e3 => ?_) (fun e3 => ?_)
      · have ez : z = z' := by simpa using e3
        refine PySem.W.kat_yes (PySem.W.kat_nil ?_)
        exact ⟨rfl, by rw [ez]; exact (decide_eq_false (Int.lt_irrefl _)).symm⟩
      · refine PySem.W.kat_no (PySem.W.kat_one _ _ (lt_bool ?_))
        exact (show s = s ∧ decide (b2i z < b2i z') = decide (b2i z < b2i z') from ⟨rfl, rfl⟩)
    · have ey : ¬ y = y' := by simpa using e2
      rw [if_neg ey]
      refine PySem.W.kat_no (PySem.W.kat_one _ _ (PyProof.Rows.lt_int ?_))
      exact (show s = s ∧ decide (y < y') = decide (y < y') from ⟨rfl, rfl⟩)
  · have ex : ¬ x = x' := by simpa using e1
    rw [if_neg ex]
    exact PySem.W.kat_no (oneLt_int ⟨rfl, rfl⟩)
theorem firsts3 {h : Heap} : ∀ {vs : List Value}, (∀ v ∈ vs, ∃ k, IsTrip h v k) → ∃ fs : List Value, PySem.W.KatTups h vs fs ∧ fs.length = vs.length ∧ ∀ f ∈ fs, ∃ x t, f = Value.int x t
  | [], _ => ⟨[], PySem.W.KatTups.nil, rfl, fun _ hm => by simp at hm⟩
  | v :: vs, hp => by
    obtain ⟨fs, h1, h2, h3⟩ := firsts3 (vs := vs) fun v' hm => hp v' (List.mem_cons_of_mem _ hm)
    obtain ⟨k, a, o, t, u, n, e, ho, hc, hd⟩ := hp v (List.mem_cons_self ..)
    subst e
    refine ⟨.int k.1 t :: fs, PySem.W.KatTups.cons ho hc hd rfl h1, by rw [List.length_cons, List.length_cons, h2], fun f hm => ?_⟩
    rcases List.mem_cons.mp hm with rfl | hm
    · exact ⟨k.1, t, rfl⟩
    · exact h3 f hm
theorem trips_sortable {a : Addr} {vs : List Value} {k : Value → Trip} (h0 : 0 < vs.length) (hp : ∀ v ∈ vs, IsTrip s.heap v (k v)) (ha : ∀ o, s.heap.get? a = some o → o.cls ≠ .type "tuple") : SortableO prog w A s a vs fun v u => ltT (k v) (k u) := by
  intro h' keep
  have hp' : ∀ v ∈ vs, IsTrip h' v (k v) := fun v hm => (hp v hm).keeps fun b o e c => keep b o (fun z => by subst z; exact ha o e c) e
  obtain ⟨fs, h1, h2, h3⟩ := firsts3 fun v hm => ⟨_, hp' v hm⟩
  refine ⟨tuples' true, fun Q E hq => ?_, trip_cmp hp'⟩
  refine PySem.W.kat_kind (T := .type "int") h1 (by omega) (fun f hm => ?_) (by rfl) ?_
  · obtain ⟨x, t, rfl⟩ := h3 f hm
    exact PySem.W.Looks.now
  · have e : (Value.type "int" != Value.type "tuple") = true := by first | decide +kernel | rfl | decide
    rw [e]
    exact hq
theorem sorted_trips {l : Addr} {vs : List Value} {k : Value → Trip} {Q : Value → Shared → Prop} (hl : s.heap.IsList l vs.toArray) (hz : vs.length ≤ sizeLine) (hp : ∀ v ∈ vs, IsTrip s.heap v (k v))
    (h : ∀ (h' : Heap) (d : Addr) (out : List Value), Srtd (fun v u => ltT (k v) (k u)) out → Stb (fun v u => ltT (k v) (k u)) out vs → (∀ b o, s.heap.get? b = some o → h'.get? b = some o) → s.heap.objs.size ≤ d → (∃ n, h'.get? d = some (seqObj "list" out.toArray n)) → Q (.ref d) { s with heap := h' }) :
    wpAny (model prog w) A (call (.builtin "sorted") [.ref l]) Q E s := by
  refine sorted_ord (swo_T k) hl hz (fun h2 h₁ a ha kk => ?_) fun out hs hb => ?_
  · refine trips_sortable (s := { s with heap := h₁ }) (by omega) (fun v hm => (hp v hm).keeps fun b o e _ => (kk b o e).2) fun o e => ?_
    have e' : some o = some (seqObj "list" vs.toArray 0) := e.symm.trans ha
    cases e'
    intro c
    exact absurd (Value.type.inj c) (by decide)
  · exact h _ _ out hs hb (fun b o e => sortedAll_old e) (Nat.le_succ _) (sortedAll_at s.heap vs out.toArray)
end
end S3
namespace VL
open PySem PySem.Spec PyProof.Rows L2 S3
abbrev ltV (k : V → Trip) (x y : V) : Bool := ltT (k x) (k y)
/-- sorted(xs), xs a list of tuples (int, int, bool) -/
def rSortedB (K : PySem.W.Frag) : List V → Hp → VK → Prop := fun vs H Q => ∃ (a : Addr) (xs : List V) (k : V → Trip), vs = [V.ref a] ∧ SqL K H a xs ∧ (∀ x ∈ xs, ∃ t, x = V.ref t ∧ H t = some (.tup [.int (k x).1, .int (k x).2.1, .bl (k x).2.2])) ∧
  ∀ ys p, SrtO.Srtd (ltV k) ys → ys.Perm xs → H p = none → Q (.ref p) (upd H p (.lst ys))
section
variable {X : Cx}
theorem cr_sortedB : CallR X (.builtin "sorted") (rSortedB X.K) := by
  intro pins s σ H vs us Q I r h
  obtain ⟨a, xs, k, rfl, hs, hx, q⟩ := h
  obtain ⟨its, rv, hl, hz⟩ := I.list hs
  obtain ⟨u, rfl, ru⟩ := vals1 r
  obtain rfl : u = Value.ref a := ru
  obtain ⟨e1, e2⟩ := refs_back rv fun x m => by
    obtain ⟨t, e, _⟩ := hx x m
    exact ⟨t, e⟩
  refine sorted_trips (k := fun u => k (backV u)) hl.isList (by rw [← rv.length]; exact hz) (fun v hv => ?_) fun h' d out h1 h2 kp hd hn => ?_
  · obtain ⟨t, rfl⟩ := e2 v hv
    have hm : V.ref t ∈ xs := by rw [e1]; exact List.mem_map.mpr ⟨_, hv, rfl⟩
    obtain ⟨t', e, ht⟩ := hx _ hm
    cases e
    obtain ⟨_, its2, r2, o, ho, hc, n, hd⟩ := I.hok _ _ ht
    obtain ⟨u1, u2, u3, rfl, ri, rj, rb⟩ : ∃ u1 u2 u3, its2 = [u1, u2, u3] ∧ RelV (.int (k (.ref t)).1) u1 ∧ RelV (.int (k (.ref t)).2.1) u2 ∧ RelV (.bl (k (.ref t)).2.2) u3 := by
      cases r2 with
      | cons r1 r2 => cases r2 with
        | cons r3 r4 => cases r4 with
          | cons r5 r6 => cases r6 with
            | nil => exact ⟨_, _, _, rfl, r1, r3, r5⟩
    obtain ⟨t1, rfl⟩ := ri
    obtain ⟨t2, rfl⟩ := rj
    obtain rfl : u3 = Value.bool _ := rb
    exact ⟨t, o, t1, t2, n, rfl, ho, hc, hd⟩
  · have h3 : ∀ u ∈ out, ∃ a, u = Value.ref a := fun u hu => e2 u (h2.perm.mem_iff.mp hu)
    obtain ⟨n, hn⟩ := hn
    have hb : (out.map backV).Perm xs := by
      rw [e1]
      exact h2.perm.map backV
    refine ⟨.ref d, upd H d (.lst (out.map backV)), I.laid (t' := s.toks) kp hd ⟨?_, out, n, vals_back h3, hn⟩, rfl, q _ d (SrtO.srtd_map h1) hb (I.hok.fresh hd)⟩
    rw [hb.length_eq]
    exact hz
end
end VL

set_option Elab.async false
set_option linter.all false
set_option maxRecDepth 100000
set_option maxHeartbeats 4000000
namespace VL
open PySem PySem.Spec PyProof.Rows L2

section
variable {X : Cx} {CX : CXT} {k : Nat} {f : Addr} {fd : FuncData} {ps : List Str} {sp : Sp} {E : XK} {A1 : Around}
/-- a callee runs somewhere below the body -/
theorem run_at {pins : List (Addr × Obj)} {σ : L2.St} {H : Hp} {s : Shared} {Q : VK} {us : List Value} {vs : List V} (F : FnOk X.prog X.w X.K X.mg X.base CX k f fd ps sp) (sb : Sub X k A1) (hb : Binds X.K fd ps []) (hx : Passes CX X E)
    (I : Inv X pins σ H s) (r : Vals vs us) (h : sp vs H Q E) : wpAny (model X.prog X.w) A1 (call (.ref f) us) (EP X pins σ Q) X.xe s := by
  have e0 : Env0 X.prog X.w X.K X.mg X.base A1 X.stack s H := by
    have e := I.env0
    exact ⟨by rw [sb.fr]; exact e.frames, e.mod, e.bs, e.bsz, e.funs, e.frf, e.hok, e.bare⟩
  have hl := F.len _ _ _ _ h
  have hl2 : (us ++ ([] : List Value)).length = ps.length := by rw [List.append_nil, ← r.length]; exact hl
  refine wpAny_call (codeAny_mono (F.run A1 X.stack s H ⟨us, []⟩ us vs Q E sb.room e0 (by
    have q := hb s us I.kIn hl2
    rw [List.append_nil] at q
    exact q) r h) fun r s' hq => ?_)
  cases r with
  | error e => exact hx pins σ H s e s' I hq
  | ok fl =>
    cases fl with
    | ret w => exact I.after hq
    | next => exact False.elim hq
    | brk => exact False.elim hq
    | cont => exact False.elim hq

/-- x in o, o an instance with a __contains__ of the text -/
def rInOwn (C : Addr) (sp : Sp) (E : XK) : R2 := fun x y H Q => ∃ a dx fs, y = .ref a ∧ H a = some (.ins C dx fs) ∧ sp [.ref a, x] H (fun v H' => ∃ c, v = .bl c ∧ Q (.bl c) H') E
theorem op_in_own {C : Addr} (hs : PySem.W.findIn X.K (.ref C) "__contains__" = some (some (.ref f))) (hf : PySem.W.isFn X.K (.ref f) = true) (F : FnOk X.prog X.w X.K X.mg X.base CX k f fd ps sp) (hr : Room k X.A) (hb : Binds X.K fd ps []) (hx : Passes CX X E) :
    OpR X (compareOp .In) (rInOwn C sp E) := by
  intro pins s σ H x y v u Q I rx ry h
  obtain ⟨a, dx, fs, rfl, ha, q⟩ := h
  cases ry
  obtain ⟨mA, J, _⟩ := ins_get I.hok ha
  obtain ⟨od, J, _⟩ := J.look
  obtain ⟨m, hF⟩ := I.fr
  refine PySem.W.in_K hF I.ok.mod.kin J hs hf ?_
  refine wpAny_mono (run_at F ⟨hr, rfl⟩ hb hx I (.cons (show RelV (.ref a) (.ref a) from rfl) (.cons rx .nil)) q) (fun r s' hq => ?_) fun _ _ z => z
  obtain ⟨w', H', I', rw', c, rfl, q'⟩ := hq
  cases rw'
  exact wpAny_truthy_bool ⟨.bl c, H', I', rfl, q'⟩

def rNotInOwn (C : Addr) (sp : Sp) (E : XK) : R2 := fun x y H Q => ∃ a dx fs, y = .ref a ∧ H a = some (.ins C dx fs) ∧ sp [.ref a, x] H (fun v H' => ∃ c, v = .bl c ∧ Q (.bl (!c)) H') E
theorem op_notIn_own {C : Addr} (hs : PySem.W.findIn X.K (.ref C) "__contains__" = some (some (.ref f))) (hf : PySem.W.isFn X.K (.ref f) = true) (F : FnOk X.prog X.w X.K X.mg X.base CX k f fd ps sp) (hr : Room k X.A) (hb : Binds X.K fd ps []) (hx : Passes CX X E) :
    OpR X (compareOp .NotIn) (rNotInOwn C sp E) := by
  intro pins s σ H x y v u Q I rx ry h
  obtain ⟨a, dx, fs, rfl, ha, q⟩ := h
  cases ry
  obtain ⟨mA, J, _⟩ := ins_get I.hok ha
  obtain ⟨od, J, _⟩ := J.look
  obtain ⟨m, hF⟩ := I.fr
  refine PySem.W.notIn_K hF I.ok.mod.kin J hs hf ?_
  refine wpAny_mono (run_at F ⟨hr, rfl⟩ hb hx I (.cons (show RelV (.ref a) (.ref a) from rfl) (.cons rx .nil)) q) (fun r s' hq => ?_) fun _ _ z => z
  obtain ⟨w', H', I', rw', c, rfl, q'⟩ := hq
  cases rw'
  exact wpAny_truthy_bool ⟨.bl (!c), H', I', rfl, q'⟩

/-- len(o), o an instance with a __len__ of the text -/
def rLenOwn (C : Addr) (sp : Sp) (E : XK) : List V → Hp → VK → Prop := fun xs H Q => ∃ a dx fs, xs = [.ref a] ∧ H a = some (.ins C dx fs) ∧ sp [.ref a] H (fun v H' => ∃ n : Int, v = .int n ∧ 0 ≤ n ∧ n < 2 ^ 63 ∧ Q (.int n) H') E
theorem call_len_own {C : Addr} (hs : PySem.W.findIn X.K (.ref C) "__len__" = some (some (.ref f))) (hf : PySem.W.isFn X.K (.ref f) = true) (F : FnOk X.prog X.w X.K X.mg X.base CX k f fd ps sp) (hr : Room (k + 1) X.A) (hb : Binds X.K fd ps []) (hx : Passes CX X E) :
    CallR X (.builtin "len") (rLenOwn C sp E) := by
  intro pins s σ H xs us Q I rv h
  obtain ⟨a, dx, fs, rfl, ha, q⟩ := h
  obtain ⟨u, rfl, ru⟩ := rv.one
  cases ru
  obtain ⟨mA, J, _⟩ := ins_get I.hok ha
  obtain ⟨od, J, _⟩ := J.look
  have sb : Sub X k X.A.in1 := Sub.in1 (⟨hr, rfl⟩ : Sub X (k + 1) X.A)
  refine Calls.call_function_entry kind_len plain_len entry_len (args_len1 _) ?_
  unfold Builtin.«len»
  refine wpAny_bind (m := oneArg "len" _) (wpAny_pure ?_)
  refine wpAny_bind (m := callSpecial? (.ref a) (Str.ofString "__len__")) (PySem.W.special_fn I.kIn J hs (beq_iff_eq.mp hf) (wpAny_mono (run_at F sb hb hx I (.cons (show RelV (.ref a) (.ref a) from rfl) .nil) q) (fun r s' hr' => ?_) fun _ _ y => y))
  obtain ⟨v, H', I', r, n, rfl, h0, h1, hq⟩ := hr'
  obtain ⟨t, rfl⟩ := r
  refine wpAny_bind (wpAny_holding (wpAny_pure ?_))
  refine wpAny_bind (wpAny_letGo ?_)
  show wpAny _ _ (if n < 0 then _ else _) _ _ _
  rw [if_neg (by omega)]
  show wpAny _ _ (if n ≥ 2 ^ 63 then _ else _) _ _ _
  rw [if_neg (by omega)]
  exact wpAny_bind (wpAny_mkInt (wpAny_pure ⟨_, rfl, ⟨.int n, H', I'.tok _, ⟨_, rfl⟩, hq⟩⟩))
end
end VL

set_option Elab.async false
set_option linter.all false
set_option maxRecDepth 100000
set_option maxHeartbeats 4000000
namespace VL
open PySem PySem.Spec PyProof.Rows L2

/-! ### schedules: the mathematics -/
abbrev Sd := List (Nat × Int)
def look (L : Sd) (l : Nat) : Option Int := (L.find? fun e => decide (e.1 = l)).map (·.2)
structure OkD (L : Sd) : Prop where
  lt : ∀ e ∈ L, e.1 < 4
  nd : (L.map (·.1)).Nodup
def pat (l : Nat) : Int := if l = 0 then 0 else if l = 1 then 5000 else if l = 2 then 10000 else 60000
def overD (L : Sd) (now : Int) (l : Nat) : Bool := match look L l with | some t => decide (t + pat l ≤ now) | none => false
def lanesD (L : Sd) : List Nat := [0, 1, 2, 3].filter fun l => (look L l).isSome
def oversD (L : Sd) (now : Int) : List Nat := (lanesD L).filter (overD L now)
def passD (L : Sd) (now : Int) : List Nat := match (oversD L now).getLast? with | none => (lanesD L).take 1 | some m => (lanesD L).filter fun l => decide (l ≤ m)
def wholeD (L : Sd) (now : Int) : Bool := !(oversD L now).isEmpty
def wakeD (L : Sd) (l : Nat) (now : Int) : Sd := if (look L l).isSome then L else L ++ [(l, now)]
def wakeN (L : Sd) (l : Nat) (n : Int) : Int := if L.all (fun e => decide (l ≤ e.1)) then 0 else n
def endD (L : Sd) (P : List Nat) : Sd := L.filter fun e => !decide (e.1 ∈ P)
def pendD (L : Sd) : Sd := (lanesD L).map fun l => (l, (look L l).getD 0)
def kvsD (L : Sd) : List (Key × V) := L.map fun e => ((Sum.inl (e.1 : Int) : Key), V.int e.2)
theorem look_nil (l : Nat) : look [] l = none := rfl
theorem look_cons (e : Nat × Int) (L : Sd) (l : Nat) : look (e :: L) l = if e.1 = l then some e.2 else look L l := by
  unfold look
  rw [List.find?_cons]
  by_cases h : e.1 = l
  · simp [h]
  · simp [h]
theorem look_app (L : Sd) (e : Nat × Int) (l : Nat) : look (L ++ [e]) l = (look L l).or (if e.1 = l then some e.2 else none) := by
  induction L with
  | nil => rw [List.nil_append, look_cons, look_nil]; rfl
  | cons a L ih =>
    rw [List.cons_append, look_cons, look_cons, ih]
    by_cases h : a.1 = l
    · simp [h]
    · simp [h]
theorem look_mem {L : Sd} {l : Nat} {t : Int} (h : look L l = some t) : (l, t) ∈ L := by
  induction L with
  | nil => cases h
  | cons a L ih =>
    rw [look_cons] at h
    by_cases e : a.1 = l
    · rw [if_pos e] at h
      injection h with h
      have : a = (l, t) := by cases a; cases e; cases h; rfl
      rw [← this]
      exact List.mem_cons_self
    · rw [if_neg e] at h
      exact List.mem_cons_of_mem _ (ih h)
theorem look_of_mem {L : Sd} (nd : (L.map (·.1)).Nodup) {e : Nat × Int} (h : e ∈ L) : look L e.1 = some e.2 := by
  induction L with
  | nil => cases h
  | cons a L ih =>
    rw [look_cons]
    rw [List.map_cons, List.nodup_cons] at nd
    rcases List.mem_cons.mp h with rfl | h
    · rw [if_pos rfl]
    · rw [if_neg, ih nd.2 h]
      intro q
      exact nd.1 (List.mem_map.mpr ⟨e, h, q.symm⟩)
theorem look_none {L : Sd} {l : Nat} (h : look L l = none) : ∀ e ∈ L, e.1 ≠ l := by
  induction L with
  | nil => intro e he; cases he
  | cons a L ih =>
    rw [look_cons] at h
    by_cases e : a.1 = l
    · rw [if_pos e] at h; cases h
    · rw [if_neg e] at h
      intro x hx
      rcases List.mem_cons.mp hx with rfl | hx
      · exact e
      · exact ih h x hx
theorem look_some_lt {L : Sd} (O : OkD L) {l : Nat} (h : (look L l).isSome = true) : l < 4 := by
  cases e : look L l with
  | none => rw [e] at h; cases h
  | some t => exact O.lt _ (look_mem e)
theorem OkD.nil : OkD [] := ⟨fun e h => (by cases h), List.nodup_nil⟩
theorem OkD.wake {L : Sd} (O : OkD L) {l : Nat} (hl : l < 4) (now : Int) : OkD (wakeD L l now) := by
  unfold wakeD
  split
  · exact O
  · rename_i h
    have hn : look L l = none := by
      cases e : look L l with
      | none => rfl
      | some t => rw [e] at h; exact absurd rfl h
    refine ⟨fun e he => ?_, ?_⟩
    · rcases List.mem_append.mp he with he | he
      · exact O.lt _ he
      · rw [List.mem_singleton.mp he]; exact hl
    · rw [List.map_append, List.nodup_append]
      refine ⟨O.nd, by simp, fun a ha b hb => ?_⟩
      obtain ⟨e, he, rfl⟩ := List.mem_map.mp ha
      have : b = l := by simpa using hb
      rw [this]
      exact look_none hn e he
theorem look_wake {L : Sd} {l k : Nat} {now : Int} : look (wakeD L l now) k = if k = l then some ((look L l).getD now) else look L k := by
  unfold wakeD
  split
  · rename_i h
    split
    · rename_i e
      subst e
      cases q : look L k with
      | none => rw [q] at h; cases h
      | some t => rfl
    · rfl
  · rename_i h
    have hn : look L l = none := by
      cases e : look L l with
      | none => rfl
      | some t => rw [e] at h; exact absurd rfl h
    rw [look_app]
    by_cases e : k = l
    · subst e
      rw [if_pos rfl, hn, if_pos rfl]
      rfl
    · rw [if_neg e, if_neg fun q => e q.symm]
      cases look L k <;> rfl
theorem OkD.endd {L : Sd} (O : OkD L) (P : List Nat) : OkD (endD L P) :=
  ⟨fun e he => O.lt _ (List.mem_filter.mp he).1, O.nd.sublist (List.Sublist.map _ List.filter_sublist)⟩
theorem look_end {L : Sd} {P : List Nat} {k : Nat} : look (endD L P) k = if k ∈ P then none else look L k := by
  unfold endD
  induction L with
  | nil => rw [List.filter_nil, look_nil]; split <;> rfl
  | cons a L ih =>
    rw [List.filter_cons]
    by_cases h : a.1 ∈ P
    · rw [if_neg (by simp [h]), ih, look_cons]
      by_cases e : a.1 = k
      · rw [if_pos (by rw [← e]; exact h), if_pos (by rw [← e]; exact h)]
      · rw [if_neg e]
    · rw [if_pos (by simp [h]), look_cons, look_cons, ih]
      by_cases e : a.1 = k
      · rw [if_pos e, if_pos e, if_neg (by rw [← e]; exact h)]
      · rw [if_neg e, if_neg e]
theorem mem_lanes {L : Sd} (O : OkD L) {l : Nat} : l ∈ lanesD L ↔ (look L l).isSome = true := by
  unfold lanesD
  rw [List.mem_filter]
  refine ⟨fun h => h.2, fun h => ⟨?_, h⟩⟩
  have := look_some_lt O h
  simp
  omega
theorem lanes_sorted (L : Sd) : (lanesD L).Pairwise (· < ·) := List.Pairwise.sublist List.filter_sublist (by decide)
theorem eq_of_sorted : ∀ {a b : List Int}, a.Pairwise (· < ·) → b.Pairwise (· < ·) → (∀ x, x ∈ a ↔ x ∈ b) → a = b
  | [], [], _, _, _ => rfl
  | [], y :: b, _, _, h => absurd ((h y).mpr List.mem_cons_self) (by simp)
  | x :: a, [], _, _, h => absurd ((h x).mp List.mem_cons_self) (by simp)
  | x :: a, y :: b, ha, hb, h => by
    rw [List.pairwise_cons] at ha hb
    have e : x = y := by
      rcases Int.lt_trichotomy x y with q | q | q
      · rcases List.mem_cons.mp ((h x).mp List.mem_cons_self) with r | r
        · exact r
        · have := hb.1 _ r; omega
      · exact q
      · rcases List.mem_cons.mp ((h y).mpr List.mem_cons_self) with r | r
        · exact r.symm
        · have := ha.1 _ r; omega
    subst e
    rw [eq_of_sorted ha.2 hb.2 fun z => ⟨fun m => ?_, fun m => ?_⟩]
    · rcases List.mem_cons.mp ((h z).mp (List.mem_cons_of_mem _ m)) with r | r
      · have := ha.1 _ m; omega
      · exact r
    · rcases List.mem_cons.mp ((h z).mpr (List.mem_cons_of_mem _ m)) with r | r
      · have := hb.1 _ m; omega
      · exact r
theorem strict_of {a : List Int} (nd : a.Nodup) (h : a.Pairwise (· ≤ ·)) : a.Pairwise (· < ·) := by
  refine (nd.and h).imp fun {x y} q => ?_
  have := q.1
  have := q.2
  omega
theorem sorted_keys {L : Sd} (O : OkD L) {ns : List Int} (hp : ns.Perm (L.map fun e => (e.1 : Int))) (hs : ns.Pairwise (· ≤ ·)) : ns = (lanesD L).map fun (l : Nat) => (l : Int) := by
  have nd0 : (L.map fun e => (e.1 : Int)).Nodup := by
    have : (L.map fun e => (e.1 : Int)) = (L.map (·.1)).map (fun (n : Nat) => (n : Int)) := by rw [List.map_map]; rfl
    rw [this]
    exact List.Pairwise.map _ (fun a b h q => h (by omega)) O.nd
  refine eq_of_sorted (strict_of (hp.nodup_iff.mpr nd0) hs) ((lanes_sorted L).map _ fun a b h => by omega) fun x => ?_
  rw [hp.mem_iff, List.mem_map, List.mem_map]
  constructor
  · rintro ⟨e, he, rfl⟩
    exact ⟨e.1, (mem_lanes O).mpr (by rw [look_of_mem O.nd he]; rfl), rfl⟩
  · rintro ⟨l, hl, rfl⟩
    have h := (mem_lanes O).mp hl
    cases q : look L l with
    | none => rw [q] at h; cases h
    | some t => exact ⟨_, look_mem q, rfl⟩
theorem kvsD_len (L : Sd) : (kvsD L).length = L.length := by unfold kvsD; rw [List.length_map]
theorem OkD.len {L : Sd} (O : OkD L) : L.length ≤ 4 := by
  have h : ∀ (n : Nat) (xs : List Nat), (∀ x ∈ xs, x < n) → xs.Nodup → xs.length ≤ n := by
    intro n
    induction n with
    | zero =>
      intro xs h _
      cases xs with
      | nil => exact Nat.le_refl _
      | cons a xs => exact absurd (h a List.mem_cons_self) (Nat.not_lt_zero _)
    | succ n ih =>
      intro xs h nd
      have h1 : (xs.filter fun x => !decide (x = n)).length ≤ n := by
        refine ih _ (fun x hx => ?_) (nd.sublist List.filter_sublist)
        have := List.mem_filter.mp hx
        have h2 := h x this.1
        have h3 : x ≠ n := by simpa using this.2
        omega
      have h2 : xs.length ≤ (xs.filter fun x => !decide (x = n)).length + 1 := by
        clear h h1 ih
        induction xs with
        | nil => exact Nat.zero_le _
        | cons a xs ih2 =>
          rw [List.nodup_cons] at nd
          by_cases e : a = n
          · subst e
            have : xs.filter (fun x => !decide (x = a)) = xs := by
              rw [List.filter_eq_self]
              intro x hx
              have : x ≠ a := fun q => nd.1 (q ▸ hx)
              simpa using this
            rw [List.filter_cons, if_neg (by simp), this, List.length_cons]
            omega
          · rw [List.filter_cons, if_pos (by simp [e]), List.length_cons, List.length_cons]
            have := ih2 nd.2
            omega
      omega
  have := h 4 (L.map (·.1)) (fun x hx => by
    obtain ⟨e, he, rfl⟩ := List.mem_map.mp hx
    exact O.lt _ he) O.nd
  rw [List.length_map] at this
  exact this
theorem valV_kvsD (L : Sd) (l : Nat) : valV (kvsD L) (Sum.inl (l : Int) : Key) = (look L l).map V.int := by
  induction L with
  | nil => rfl
  | cons a L ih =>
    show valV (((Sum.inl (a.1 : Int) : Key), V.int a.2) :: kvsD L) _ = _
    rw [look_cons]
    by_cases e : a.1 = l
    · subst e
      rw [valV_pos rfl, if_pos rfl]
      rfl
    · rw [valV_neg (fun q => e (by have := Sum.inl.inj q; omega)), ih, if_neg e]
theorem kvsD_put {L : Sd} {l : Nat} {now : Int} (h : look L l = none) : putK (kvsD L) (Sum.inl (l : Int) : Key) (V.int now) = kvsD (L ++ [(l, now)]) := by
  rw [putK_new _ (by rw [valV_kvsD, h]; rfl)]
  unfold kvsD
  rw [List.map_append]
  rfl
theorem lanes_nil {L : Sd} (O : OkD L) : lanesD L = [] ↔ L = [] := by
  constructor
  · intro h
    cases L with
    | nil => rfl
    | cons a L =>
      have : a.1 ∈ lanesD (a :: L) := (mem_lanes O).mpr (by rw [look_cons, if_pos rfl]; rfl)
      rw [h] at this
      cases this
  · rintro rfl
    rfl
theorem lanes_len (L : Sd) : (lanesD L).length ≤ 4 := Nat.le_trans (List.length_filter_le _ _) (by decide)
theorem over_some {L : Sd} {now : Int} {l : Nat} (h : overD L now l = true) : (look L l).isSome = true := by
  unfold overD at h
  cases e : look L l with
  | none => rw [e] at h; cases h
  | some t => rfl
/-- a pass has all pending lanes above its last one -/
theorem pass_upper {L : Sd} (O : OkD L) {now : Int} {m : Nat} (hm : (passD L now).getLast? = some m) {l : Nat} (hl : l ∈ lanesD L) (hlt : l < m) : l ∈ passD L now := by
  unfold passD at hm ⊢
  cases q : (oversD L now).getLast? with
  | none =>
    rw [q] at hm
    dsimp only at hm ⊢
    cases e : lanesD L with
    | nil => rw [e] at hl; cases hl
    | cons a r =>
      rw [e] at hm hl
      have : a = m := by simpa using hm
      subst this
      have hs := lanes_sorted L
      rw [e, List.pairwise_cons] at hs
      rcases List.mem_cons.mp hl with rfl | h
      · omega
      · have := hs.1 _ h; omega
  | some k =>
    rw [q] at hm
    dsimp only at hm ⊢
    have h1 : m ∈ (lanesD L).filter fun l => decide (l ≤ k) := List.mem_of_getLast? hm
    have h2 : m ≤ k := of_decide_eq_true (List.mem_filter.mp h1).2
    exact List.mem_filter.mpr ⟨hl, decide_eq_true (by omega)⟩
theorem pass_sub {L : Sd} {now : Int} {l : Nat} (h : l ∈ passD L now) : l ∈ lanesD L := by
  unfold passD at h
  split at h
  · exact List.mem_of_mem_take h
  · exact (List.mem_filter.mp h).1
theorem pass_ne {L : Sd} {now : Int} (h : lanesD L ≠ []) : passD L now ≠ [] := by
  unfold passD
  cases q : (oversD L now).getLast? with
  | none =>
    cases e : lanesD L with
    | nil => exact absurd e h
    | cons a r => simp
  | some k =>
    have hk : k ∈ oversD L now := List.mem_of_getLast? q
    have : k ∈ (lanesD L).filter fun l => decide (l ≤ k) := List.mem_filter.mpr ⟨(List.mem_filter.mp hk).1, decide_eq_true (Nat.le_refl _)⟩
    intro e
    dsimp only at e
    rw [e] at this
    cases this
theorem end_len {L : Sd} {P : List Nat} {l : Nat} (h : (look L l).isSome = true) (hp : l ∈ P) : (endD L P).length < L.length := by
  unfold endD
  cases e : look L l with
  | none => rw [e] at h; cases h
  | some t =>
    have hm := look_mem e
    clear h e
    induction L with
    | nil => cases hm
    | cons a L ih =>
      rw [List.filter_cons]
      rcases List.mem_cons.mp hm with rfl | hm
      · rw [if_neg (by simp [hp])]
        exact Nat.lt_succ_of_le (List.length_filter_le _ _)
      · have := ih hm
        split
        · rw [List.length_cons, List.length_cons]; omega
        · rw [List.length_cons]; omega
end VL
namespace VL
open PySem PySem.Spec PyProof.Rows L2
theorem m2_ofs : True := trivial
/-! ### dict comprehensions over any walk; dicts read while locked -/
theorem dc_it {J : It} {n : Nat} {G : Hp → Prop} {Y : Nat → Hp → V → Hp → Prop} (w : Walk J n G Y) {g : TG} {tt : TT} {tk tv : TE} {vs : List Nat} {σ : L2.St} {H1 : Hp} {D : Addr} {Qd : Hp → Prop} (Pv : Nat → Hp → Prop) (h0 : Pv 0 (upd H1 D (.dK []))) (hG : ∀ i H, i ≤ n → Pv i H → G H)
    (hs : ∀ i x H H', i < n → Pv i H → Y i H x H' → g x (wipe σ vs) H' fun σ2 H2 => wipe σ2 vs = wipe σ vs ∧ tt σ2 H2 fun b H3 =>
      if b = true then tk σ2 H3 fun y H4 => tv σ2 H4 fun z H5 => ∃ kvs k, y = kV k ∧ H5 D = some (.dK kvs) ∧ kvs.length < sizeLine ∧ Pv (i + 1) (upd H5 D (.dK (putK kvs k z))) else Pv (i + 1) H3) (hd : ∀ H, Pv n H → Qd H) :
    ∃ W : Nat → Nat → Hp → Prop, (∃ m, W 0 m (upd H1 D (.dK []))) ∧ ∀ i m H, W i m H →
      (J.stop i H ∧ Qd H) ∨ (J.go i H ∧ ∃ Nx : Hp → Prop, (∀ H', Nx H' → ∃ m', m' < m ∧ W (i + 1) m' H') ∧ ∀ x H', J.yld i H x H' → g x (wipe σ vs) H' fun σ2 H2 => wipe σ2 vs = wipe σ vs ∧ tt σ2 H2 fun b H3 =>
        if b = true then tk σ2 H3 fun y H4 => tv σ2 H4 fun z H5 => ∃ kvs k, y = kV k ∧ H5 D = some (.dK kvs) ∧ kvs.length < sizeLine ∧ Nx (upd H5 D (.dK (putK kvs k z))) else Nx H3) := by
  refine ⟨fun i m H => m = n - i ∧ i ≤ n ∧ Pv i H, ⟨n, by simp, Nat.zero_le _, h0⟩, ?_⟩
  rintro i m H ⟨rfl, hi, p⟩
  have q := hG i H hi p
  by_cases hlt : i < n
  · refine .inr ⟨w.goes i H hlt q, Pv (i + 1), fun H' p' => ⟨n - (i + 1), by omega, rfl, hlt, p'⟩, fun x H' y => hs i x H H' hlt p (w.yields i H x H' hlt q y)⟩
  · have e : i = n := by omega
    subst e
    exact .inl ⟨w.stops H q, hd H p⟩
theorem DGet.kf {H : Hp} {a : Addr} {o : Obj} {kvs : List (Key × V)} {k : Key} (e : H a = some (.frz o (.dK kvs))) : DGet H a (kV k) (valV kvs k) := .inl ⟨kvs, k, .inr ⟨o, e⟩, rfl, rfl⟩
theorem unlock_eq {H : Hp} {D d : Addr} {x y u : HO} (h : D ≠ d) (hd : H d = some u) : upd (upd (upd H d x) D y) d u = upd H D y := by
  funext b
  by_cases e : b = d
  · subst e
    rw [upd_same, upd_ne h.symm, hd]
  · rw [upd_ne e]
    by_cases e2 : b = D
    · subst e2
      rw [upd_same, upd_same]
    · rw [upd_ne e2, upd_ne e2, upd_ne e]
theorem wakeN_eq (L : Sd) (l : Nat) (n : Int) : wakeN L l n = if ((L.filter fun e => decide (e.1 < l)).map fun e => V.int (e.1 : Int)).isEmpty = true then 0 else n := by
  unfold wakeN
  have : L.all (fun e => decide (l ≤ e.1)) = ((L.filter fun e => decide (e.1 < l)).map fun e => V.int (e.1 : Int)).isEmpty := by
    induction L with
    | nil => rfl
    | cons a L ih =>
      rw [List.all_cons, List.filter_cons, ih]
      by_cases h : a.1 < l
      · rw [decide_eq_false (by omega), if_pos (decide_eq_true h)]
        rfl
      · rw [decide_eq_true (by omega), if_neg (by simp; omega)]
        rfl
  rw [this]
theorem take_filter {α β : Type} {L : List α} {p : α → Bool} {f : α → β} {i : Nat} (hi : i < L.length) : ((L.take (i + 1)).filter p).map f = ((L.take i).filter p).map f ++ if p L[i] = true then [f L[i]] else [] := by
  rw [List.take_add_one, List.getElem?_eq_getElem hi, List.filter_append, List.map_append]
  congr 1
  show (List.filter p [L[i]]).map f = _
  rw [List.filter_cons]
  split <;> rfl
theorem inV_l (l : Nat) : ∀ P : List Nat, inV (.int (l : Int)) (P.map fun (k : Nat) => V.int (k : Int)) = decide (l ∈ P)
  | [] => rfl
  | a :: P => by
    show (eqV (.int (a : Int)) (.int (l : Int)) || inV (.int (l : Int)) (P.map fun (k : Nat) => V.int (k : Int))) = _
    rw [inV_l l P]
    show (((a : Int) == (l : Int)) || decide (l ∈ P)) = decide (l ∈ a :: P)
    by_cases e : a = l
    · subst e
      simp
    · have e2 : l ≠ a := fun q => e q.symm
      have e3 : ((a : Int) == (l : Int)) = false := beq_eq_false_iff_ne.mpr (by omega)
      simp [e2, e3]
theorem flat_l : ∀ P : List Nat, (P.map fun (k : Nat) => V.int (k : Int)).all flatV = true
  | [] => rfl
  | a :: P => by
    show (true && (P.map fun (k : Nat) => V.int (k : Int)).all flatV) = true
    rw [flat_l P]
    rfl
theorem endD_snoc {L : Sd} {P : List Nat} {i : Nat} (hi : i < L.length) : endD (L.take (i + 1)) P = if L[i].1 ∈ P then endD (L.take i) P else endD (L.take i) P ++ [L[i]] := by
  unfold endD
  rw [List.take_add_one, List.getElem?_eq_getElem hi, List.filter_append]
  show _ ++ List.filter _ [L[i]] = _
  by_cases h : L[i].1 ∈ P
  · rw [if_pos h, List.filter_cons, if_neg (by simp [h])]
    simp
  · rw [if_neg h, List.filter_cons, if_pos (by simp [h])]
    rfl
theorem look_take {L : Sd} (nd : (L.map (·.1)).Nodup) {P : List Nat} {i : Nat} (hi : i < L.length) : look (endD (L.take i) P) L[i].1 = none := by
  cases e : look (endD (L.take i) P) L[i].1 with
  | none => rfl
  | some t =>
    exfalso
    have hm := (List.mem_filter.mp (look_mem e)).1
    obtain ⟨j, hj, ej⟩ := List.getElem_of_mem hm
    have hj2 : j < i := by rw [List.length_take] at hj; omega
    have e1 : (L.map (·.1))[j]'(by rw [List.length_map]; omega) = (L.map (·.1))[i]'(by rw [List.length_map]; exact hi) := by
      rw [List.getElem_map, List.getElem_map]
      rw [List.getElem_take] at ej
      rw [ej]
    exact (List.pairwise_iff_getElem.mp nd) j i _ _ hj2 e1
theorem last_at {α : Type} {xs : List α} {x : α} : atI (xs ++ [x]) (-1) = some x := by
  unfold atI ixN
  rw [if_neg (by decide), if_pos (by rw [List.length_append]; simp; omega)]
  show (xs ++ [x])[_]? = _
  have e : (-1 + ((xs ++ [x]).length : Int)).toNat = xs.length := by rw [List.length_append]; simp; omega
  rw [e]
  simp
theorem at_last {l : List Nat} {m : Nat} (h : l.getLast? = some m) : atI (l.map fun (k : Nat) => V.int (k : Int)) (-1) = some (.int (m : Int)) := by
  obtain ⟨ys, e⟩ := List.getLast?_eq_some_iff.mp h
  rw [e, List.map_append]
  exact last_at
theorem cut_one (xs : List V) : cutV xs none (some 1) = xs.take 1 := by
  cases xs with
  | nil => rfl
  | cons a r =>
    unfold cutV
    have h1 : HT.sIx (a :: r).length 0 none = 0 := rfl
    have h2 : HT.sIx (a :: r).length (a :: r).length (some 1) = 1 := by
      unfold HT.sIx
      simp
    rw [h1, h2]
    rfl
theorem eq_of_sortedK {α : Type} {f : α → Int} : ∀ {a b : List α}, a.Pairwise (fun x y => f x < f y) → b.Pairwise (fun x y => f x < f y) → (∀ x, x ∈ a ↔ x ∈ b) → a = b
  | [], [], _, _, _ => rfl
  | [], y :: b, _, _, h => absurd ((h y).mpr List.mem_cons_self) (by simp)
  | x :: a, [], _, _, h => absurd ((h x).mp List.mem_cons_self) (by simp)
  | x :: a, y :: b, ha, hb, h => by
    rw [List.pairwise_cons] at ha hb
    have e : x = y := by
      rcases List.mem_cons.mp ((h x).mp List.mem_cons_self) with r | r
      · exact r
      · rcases List.mem_cons.mp ((h y).mpr List.mem_cons_self) with r2 | r2
        · exact r2.symm
        · have h1 := hb.1 _ r
          have h2 := ha.1 _ r2
          omega
    subst e
    rw [eq_of_sortedK ha.2 hb.2 fun z => ⟨fun m => ?_, fun m => ?_⟩]
    · rcases List.mem_cons.mp ((h z).mp (List.mem_cons_of_mem _ m)) with r | r
      · have := ha.1 _ m; rw [r] at this; omega
      · exact r
    · rcases List.mem_cons.mp ((h z).mpr (List.mem_cons_of_mem _ m)) with r | r
      · have := hb.1 _ m; rw [r] at this; omega
      · exact r
def cstE (e : Nat × Int) : Int × Int := ((e.1 : Int), e.2)
theorem pend_sorted {L : Sd} (O : OkD L) {A : List (Int × Int)} (hp : A.Perm (L.map cstE)) (hs : A.Pairwise fun x y => SrtO.lexB y x = false) : A = (pendD L).map cstE := by
  have nd0 : (L.map cstE).Pairwise (fun x y => x.1 ≠ y.1) := by
    have h := O.nd
    unfold List.Nodup at h
    rw [List.pairwise_map] at h
    rw [List.pairwise_map]
    exact h.imp fun {a b} q => by show (a.1 : Int) ≠ (b.1 : Int); omega
  have nd1 : A.Pairwise (fun x y => x.1 ≠ y.1) := hp.symm.pairwise nd0 fun {x y} h => Ne.symm h
  refine eq_of_sortedK (f := Prod.fst) ((hs.and nd1).imp fun {x y} q => ?_) ?_ fun x => ?_
  · have h1 := q.1
    have h2 := q.2
    unfold SrtO.lexB at h1
    rw [if_neg (fun e => h2 e.symm)] at h1
    have := of_decide_eq_false h1
    omega
  · unfold pendD
    rw [List.map_map]
    exact List.Pairwise.map _ (fun a b h => by show (a : Int) < (b : Int); omega) (lanes_sorted L)
  · rw [hp.mem_iff]
    unfold pendD
    rw [List.map_map, List.mem_map, List.mem_map]
    constructor
    · rintro ⟨e, he, rfl⟩
      have := look_of_mem O.nd he
      refine ⟨e.1, (mem_lanes O).mpr (by rw [this]; rfl), ?_⟩
      show cstE (e.1, (look L e.1).getD 0) = _
      rw [this]
      rfl
    · rintro ⟨l, hl, rfl⟩
      have h := (mem_lanes O).mp hl
      cases q : look L l with
      | none => rw [q] at h; cases h
      | some t =>
        refine ⟨_, look_mem q, ?_⟩
        show _ = cstE (l, (look L l).getD 0)
        rw [q]
        rfl
/-- the pair at an address -/
def kapH (H : Hp) (v : V) : Int × Int := match v with
  | .ref t => match H t with | some (.tup [.int i, .int j]) => (i, j) | _ => (0, 0)
  | _ => (0, 0)
theorem kapH_at {H : Hp} {t : Addr} {i j : Int} (h : H t = some (.tup [.int i, .int j])) : kapH H (.ref t) = (i, j) := by
  show (match H t with | some (.tup [.int i, .int j]) => (i, j) | _ => (0, 0)) = _
  rw [h]
theorem paired_kap {H : Hp} : ∀ {ys : List V} {B : List (Nat × Int)}, (∀ y ∈ ys, ∃ t, y = .ref t ∧ H t = some (.tup [.int (kapH H y).1, .int (kapH H y).2])) → ys.map (kapH H) = B.map cstE →
    ∃ ts : List Addr, ys = ts.map V.ref ∧ Paired (fun t (e : Nat × Int) => H t = some (.tup [.int (e.1 : Int), .int e.2])) ts B
  | [], [], _, _ => ⟨[], rfl, .nil⟩
  | [], b :: B, _, e => by cases e
  | y :: ys, [], _, e => by cases e
  | y :: ys, b :: B, h, e => by
    injection e with e1 e2
    obtain ⟨ts, e3, pr⟩ := paired_kap (fun z hz => h z (List.mem_cons_of_mem _ hz)) e2
    obtain ⟨t, e4, e5⟩ := h y List.mem_cons_self
    rw [e1] at e5
    exact ⟨t :: ts, by rw [e4, e3]; rfl, .cons e5 pr⟩
theorem kap_of_paired {H : Hp} : ∀ {ts : List Addr} {L : Sd}, Paired (fun t (q : Key × V) => H t = some (.tup [kV q.1, q.2])) ts (kvsD L) → (ts.map V.ref).map (kapH H) = L.map cstE ∧ ∀ y ∈ ts.map V.ref, ∃ t, y = .ref t ∧ H t = some (.tup [.int (kapH H y).1, .int (kapH H y).2])
  | [], [], _ => ⟨rfl, fun y hy => by cases hy⟩
  | [], e :: L, h => by cases h
  | t :: ts, [], h => by cases h
  | t :: ts, e :: L, h => by
    cases h with
    | cons r rr =>
      obtain ⟨e1, e2⟩ := kap_of_paired (L := L) rr
      have r' : H t = some (.tup [.int (e.1 : Int), .int e.2]) := r
      refine ⟨?_, fun y hy => ?_⟩
      · show kapH H (.ref t) :: (ts.map V.ref).map (kapH H) = cstE e :: L.map cstE
        rw [e1, kapH_at r']
        rfl
      · rcases List.mem_cons.mp hy with rfl | hy
        · exact ⟨t, rfl, by rw [kapH_at r']; exact r'⟩
        · exact e2 y hy
/-! ### a schedule on the heap -/
def fsD (d : Addr) (n : Int) : List (Str × V) := [("ticks", .ref d), ("portions", .int n)]
theorem fsD_ticks (d : Addr) (n : Int) : (fsD d n).lookup ("ticks" : Str) = some (.ref d) := by rfl
theorem fsD_portions (d : Addr) (n : Int) : (fsD d n).lookup ("portions" : Str) = some (.int n) := by rfl
theorem putD_ticks (d d' : Addr) (n : Int) : putF "ticks" (.ref d') (fsD d n) = fsD d' n := by rfl
theorem putD_portions (d : Addr) (n n' : Int) : putF "portions" (.int n') (fsD d n) = fsD d n' := by rfl
/-- a schedule stands at p, its dict at d -/
structure SchA (C : Addr) (H : Hp) (p d : Addr) (L : Sd) (n : Int) : Prop where
  ob : ∃ dx, H p = some (.ins C dx (fsD d n))
  dc : H d = some (.dK (kvsD L))
  ok : OkD L
/-- all but p and d is kept -/
def K2 (p d : Addr) (H H' : Hp) : Prop := ∀ b o, H b = some o → b ≠ p → b ≠ d → H' b = some o
theorem K2.refl {p d : Addr} {H : Hp} : K2 p d H H := fun _ _ e _ _ => e
theorem SchA.same {C p d : Addr} {H H' : Hp} {L : Sd} {n : Int} (S : SchA C H p d L n) (s : Same H H') : SchA C H' p d L n := by
  obtain ⟨⟨dx, h⟩, h2, ok⟩ := S
  exact ⟨⟨dx, s _ _ h⟩, s _ _ h2, ok⟩
theorem SchA.pd {C p d : Addr} {H : Hp} {L : Sd} {n : Int} (S : SchA C H p d L n) : p ≠ d := by
  obtain ⟨⟨dx, h⟩, h2, ok⟩ := S
  exact ne_of h h2 (by intro e; cases e)
/-- what is no instance and no dict is kept -/
theorem K2.lst {C p d a : Addr} {H H' : Hp} {L : Sd} {n : Int} (k : K2 p d H H') (S : SchA C H p d L n) {xs : List V} (h : H a = some (.lst xs)) : H' a = some (.lst xs) := by
  obtain ⟨⟨dx, h1⟩, h2, _⟩ := S
  exact k _ _ h (ne_of h h1 (by intro e; cases e)) (ne_of h h2 (by intro e; cases e))
theorem K2.tup {C p d a : Addr} {H H' : Hp} {L : Sd} {n : Int} (k : K2 p d H H') (S : SchA C H p d L n) {xs : List V} (h : H a = some (.tup xs)) : H' a = some (.tup xs) := by
  obtain ⟨⟨dx, h1⟩, h2, _⟩ := S
  exact k _ _ h (ne_of h h1 (by intro e; cases e)) (ne_of h h2 (by intro e; cases e))
def lV (l : Nat) : V := .int (l : Int)
/-! ### promises -/
def spSInit (C : Addr) : Sp := fun vs H Q _ => ∃ (p dx : Addr), vs = [.ref p] ∧ H p = some (.ins C dx []) ∧ ∀ d H', H d = none → SchA C H' p d [] 0 → (∀ b o, H b = some o → b ≠ p → H' b = some o) → Q .non H'
def spSHas (C : Addr) : Sp := fun vs H Q _ => ∃ (p d : Addr) (L : Sd) (n : Int) (l : Nat), vs = [.ref p, lV l] ∧ SchA C H p d L n ∧ Q (.bl (look L l).isSome) H
def spSWake (C : Addr) : Sp := fun vs H Q _ => ∃ (p d : Addr) (L : Sd) (n : Int) (l : Nat) (now : Int), vs = [.ref p, lV l, .int now] ∧ SchA C H p d L n ∧ l < 4 ∧ ∀ v H', SchA C H' p d (wakeD L l now) (wakeN L l n) → K2 p d H H' → Q v H'
def spSOver (C : Addr) : Sp := fun vs H Q _ => ∃ (p d : Addr) (L : Sd) (n : Int) (l : Nat) (now : Int), vs = [.ref p, lV l, .int now] ∧ SchA C H p d L n ∧ l < 4 ∧ Q (.bl (overD L now l)) H
def spSNext (C : Addr) : Sp := fun vs H Q _ => ∃ (p d : Addr) (L : Sd) (n : Int) (now : Int), vs = [.ref p, .int now] ∧ SchA C H p d L n ∧ (lanesD L = [] → ∀ H', Same H H' → Q .non H') ∧
  (lanesD L ≠ [] → ∀ t li H', Same H H' → H t = none → H li = none → H' t = some (.tup [.ref li, .bl (wholeD L now)]) → H' li = some (.lst ((passD L now).map lV)) → Q (.ref t) H')
def spSPortion (C : Addr) : Sp := fun vs H Q _ => ∃ (p d : Addr) (L : Sd) (n cost : Int), vs = [.ref p, .int cost] ∧ SchA C H p d L n ∧ ∀ H', SchA C H' p d L (if L = [] then n else n + 1) → K2 p d H H' → Q (.bl (decide (cost ≤ (if L = [] then n else n + 1)))) H'
def spSEnd (C : Addr) (K : PySem.W.Frag) : Sp := fun vs H Q _ => ∃ (p d la : Addr) (L : Sd) (n : Int) (P : List Nat), vs = [.ref p, .ref la] ∧ SchA C H p d L n ∧ SqL K H la (P.map lV) ∧ ∀ d' H', SchA C H' p d' (endD L P) 0 → K2 p d H H' → H d' = none → Q .non H'
def spSPending (C : Addr) : Sp := fun vs H Q _ => ∃ (p d : Addr) (L : Sd) (n : Int), vs = [.ref p] ∧ SchA C H p d L n ∧ ∀ r (ts : List Addr) H', Same H H' → H r = none → (∀ t ∈ ts, H t = none) → r ∉ ts → H' r = some (.lst (ts.map V.ref)) → Paired (fun t (e : Nat × Int) => H' t = some (.tup [lV e.1, .int e.2])) ts (pendD L) → Q (.ref r) H'
def spSDone (C : Addr) : Sp := fun vs H Q _ => ∃ (p d : Addr) (L : Sd) (n : Int), vs = [.ref p] ∧ SchA C H p d L n ∧ Q (.int n) H

/-! ### what k37 asks -/
theorem pendD_fst (L : Sd) : (pendD L).map (·.1) = lanesD L := by
  unfold pendD
  rw [List.map_map]
  exact List.map_id _
theorem lanes_cons {L : Sd} {m : Nat} {r : List Nat} (h : lanesD L = m :: r) : ∃ r', pendD L = (m, (look L m).getD 0) :: r' := ⟨r.map fun l => (l, (look L l).getD 0), by unfold pendD; rw [h]; rfl⟩
theorem lanes_min {L : Sd} (O : OkD L) {m : Nat} {r : List Nat} (h : lanesD L = m :: r) : ∀ e ∈ L, m ≤ e.1 := fun e he => by
  have hl : e.1 ∈ lanesD L := (mem_lanes O).mpr (by rw [look_of_mem O.nd he]; rfl)
  have hs := lanes_sorted L
  rw [h] at hl hs
  rw [List.pairwise_cons] at hs
  rcases List.mem_cons.mp hl with q | q
  · omega
  · have := hs.1 _ q; omega
theorem wakeN_min {L : Sd} (O : OkD L) {m : Nat} {r : List Nat} (h : lanesD L = m :: r) (l : Nat) (n : Int) : wakeN L l n = if l ≤ m then 0 else n := by
  unfold wakeN
  by_cases q : l ≤ m
  · rw [if_pos q, if_pos]
    rw [List.all_eq_true]
    intro e he
    exact decide_eq_true (Nat.le_trans q (lanes_min O h e he))
  · rw [if_neg q, if_neg]
    intro z
    rw [List.all_eq_true] at z
    have hm : m ∈ lanesD L := by rw [h]; exact List.mem_cons_self
    have h1 := (mem_lanes O).mp hm
    cases e : look L m with
    | none => rw [e] at h1; cases h1
    | some t =>
      have := of_decide_eq_true (z _ (look_mem e))
      exact q this
theorem lanes_wake {L : Sd} {l : Nat} {now : Int} : lanesD (wakeD L l now) = [0, 1, 2, 3].filter fun k => (look L k).isSome || decide (k = l) := by
  unfold lanesD
  refine List.filter_congr fun k _ => ?_
  rw [look_wake]
  by_cases e : k = l
  · rw [if_pos e, decide_eq_true e]; simp
  · rw [if_neg e, decide_eq_false e]; simp
theorem mem_pend {L : Sd} (O : OkD L) {l : Nat} {t : Int} : (l, t) ∈ pendD L ↔ look L l = some t := by
  unfold pendD
  rw [List.mem_map]
  constructor
  · rintro ⟨k, hk, e⟩
    injection e with e1 e2
    subst e1
    have := (mem_lanes O).mp hk
    cases q : look L k with
    | none => rw [q] at this; cases this
    | some t' => rw [q] at e2; rw [← e2]; rfl
  · intro e
    exact ⟨l, (mem_lanes O).mpr (by rw [e]; rfl), by rw [e]; rfl⟩
theorem pend_wake {L : Sd} (O : OkD L) {l : Nat} (hl : l < 4) {now : Int} : (pendD (wakeD L l now)).filter (fun e => decide (e ∈ pendD L)) = pendD L := by
  have O' := O.wake hl now
  have h1 : (pendD (wakeD L l now)).Pairwise (fun a b => (a.1 : Int) < (b.1 : Int)) := by
    unfold pendD
    exact List.Pairwise.map _ (fun a b h => by show (a : Int) < (b : Int); omega) (lanes_sorted _)
  have h2 : (pendD L).Pairwise (fun a b => (a.1 : Int) < (b.1 : Int)) := by
    unfold pendD
    exact List.Pairwise.map _ (fun a b h => by show (a : Int) < (b : Int); omega) (lanes_sorted _)
  refine eq_of_sortedK (f := fun e => (e.1 : Int)) (h1.sublist List.filter_sublist) h2 fun e => ?_
  rw [List.mem_filter]
  refine ⟨fun h => of_decide_eq_true h.2, fun h => ⟨?_, decide_eq_true h⟩⟩
  obtain ⟨k, t⟩ := e
  have h3 := (mem_pend O).mp h
  refine (mem_pend O').mpr ?_
  rw [look_wake]
  by_cases q : k = l
  · subst q
    rw [if_pos rfl, h3]
    rfl
  · rw [if_neg q, h3]
theorem pend_end {L : Sd} (O : OkD L) (P : List Nat) : pendD (endD L P) = (pendD L).filter fun e => !decide (e.1 ∈ P) := by
  have O' := O.endd P
  have h1 : (pendD (endD L P)).Pairwise (fun a b => (a.1 : Int) < (b.1 : Int)) := by
    unfold pendD
    exact List.Pairwise.map _ (fun a b h => by show (a : Int) < (b : Int); omega) (lanes_sorted _)
  have h2 : (pendD L).Pairwise (fun a b => (a.1 : Int) < (b.1 : Int)) := by
    unfold pendD
    exact List.Pairwise.map _ (fun a b h => by show (a : Int) < (b : Int); omega) (lanes_sorted _)
  refine eq_of_sortedK (f := fun e => (e.1 : Int)) h1 (h2.sublist List.filter_sublist) fun e => ?_
  obtain ⟨k, t⟩ := e
  rw [List.mem_filter, mem_pend O', mem_pend O, look_end]
  by_cases q : k ∈ P
  · simp [q]
  · simp [q]
theorem overs_some {L : Sd} (O : OkD L) {now : Int} {l : Nat} (h : overD L now l = true) : ∃ m, (oversD L now).getLast? = some m ∧ l ≤ m ∧ overD L now m = true ∧ m ∈ lanesD L := by
  have hl : l ∈ oversD L now := List.mem_filter.mpr ⟨(mem_lanes O).mpr (over_some h), h⟩
  cases e : (oversD L now).getLast? with
  | none => rw [List.getLast?_eq_none_iff.mp e] at hl; cases hl
  | some m =>
    have hm : m ∈ oversD L now := List.mem_of_getLast? e
    refine ⟨m, rfl, ?_, (List.mem_filter.mp hm).2, (List.mem_filter.mp hm).1⟩
    obtain ⟨ys, ey⟩ := List.getLast?_eq_some_iff.mp e
    have hs : (oversD L now).Pairwise (· < ·) := (lanes_sorted L).sublist List.filter_sublist
    rw [ey] at hl hs
    rcases List.mem_append.mp hl with q | q
    · have := (List.pairwise_append.mp hs).2.2 _ q m (by simp)
      omega
    · rw [List.mem_singleton.mp q]; exact Nat.le_refl _
theorem pass_whole {L : Sd} {now : Int} {m : Nat} (e : (oversD L now).getLast? = some m) : passD L now = (lanesD L).filter (fun l => decide (l ≤ m)) ∧ wholeD L now = true := by
  constructor
  · unfold passD; rw [e]
  · unfold wholeD
    cases q : oversD L now with
    | nil => rw [q] at e; cases e
    | cons a r => rfl
theorem last_filter : ∀ {l : List Nat} {m : Nat}, l.Pairwise (· < ·) → m ∈ l → (l.filter fun k => decide (k ≤ m)).getLast? = some m
  | [], _, _, h => by cases h
  | a :: l, m, hs, h => by
    rw [List.pairwise_cons] at hs
    rcases List.mem_cons.mp h with rfl | h
    · have : l.filter (fun k => decide (k ≤ m)) = [] := by
        rw [List.filter_eq_nil_iff]
        intro k hk q
        have := hs.1 _ hk
        have := of_decide_eq_true q
        omega
      rw [List.filter_cons, if_pos (by simp), this]
      rfl
    · have := hs.1 _ h
      rw [List.filter_cons, if_pos (decide_eq_true (by omega)), List.getLast?_cons, last_filter hs.2 h]
      rfl
theorem pass_last {L : Sd} {now : Int} {m : Nat} (e : (oversD L now).getLast? = some m) : (passD L now).getLast? = some m := by
  rw [(pass_whole e).1]
  exact last_filter (lanes_sorted L) (List.mem_filter.mp (List.mem_of_getLast? e)).1
theorem wake_zero {L : Sd} (h : look L 0 = none) {late : Int} {m : Nat} (e : (oversD L late).getLast? = some m) : passD (wakeD L 0 late) late = 0 :: passD L late ∧ wholeD (wakeD L 0 late) late = true := by
  have h1 : lanesD (wakeD L 0 late) = 0 :: lanesD L := by
    rw [lanes_wake]
    unfold lanesD
    rw [List.filter_cons, if_pos (by simp), List.filter_cons (x := 0), if_neg (by rw [h]; exact Bool.false_ne_true)]
    congr 1
    refine List.filter_congr fun k hk => ?_
    have : k ≠ 0 := by
      simp at hk
      omega
    rw [decide_eq_false this, Bool.or_false]
  have h2 : oversD (wakeD L 0 late) late = 0 :: oversD L late := by
    unfold oversD
    rw [h1, List.filter_cons, if_pos]
    · congr 1
      refine List.filter_congr fun k hk => ?_
      have hk0 : k ≠ 0 := by
        rintro rfl
        have := (List.mem_filter.mp hk).2
        rw [h] at this
        cases this
      unfold overD
      rw [look_wake, if_neg hk0]
    · unfold overD
      rw [look_wake, if_pos rfl, h]
      exact decide_eq_true (Int.le_of_eq (Int.add_zero late))
  have h3 : (oversD (wakeD L 0 late) late).getLast? = some m := by
    rw [h2, List.getLast?_cons, e]
    rfl
  refine ⟨?_, (pass_whole h3).2⟩
  rw [(pass_whole h3).1, (pass_whole e).1, h1, List.filter_cons, if_pos (by simp)]
end VL

set_option Elab.async false
set_option linter.all false
set_option maxRecDepth 100000
set_option maxHeartbeats 4000000
namespace VL
open PySem PySem.Spec PyProof.Rows L2 S3
/-! ### methods with a keyword-only default that lacks in the call -/
def MethDE (K : PySem.W.Frag) (C : Addr) (x qual : Str) (st : Stmt) (ps : List Str) (n : Nat) (ks : List Str) (ds : List V) : Prop :=
  ∃ (f : Addr) (fd : FuncData) (g : List Value → List Value → List Value), Fun K x qual st f fd ∧ Meth K C x f ∧ KBn K fd ps n ks g (fun vs zs => vs ++ zs ++ ds)
theorem kbn_dflt {K : PySem.W.Frag} {fd : FuncData} {D : Addr} {kn : Str} {u : Value} {v : V} {ps ks : List Str} {n : Nat} (hd : PySem.W.nsIn K D kn = some (some u)) (hr : RelV v u)
    (h : ∀ us ws : List Value, us.length = n → ws.length = ks.length → KwChain D [(kn, u)] (bindArgs fd ⟨us, ks.zip ws⟩) (ps.zip (us ++ ws ++ [u]))) : KBn K fd ps n ks (fun us ws => us ++ ws ++ [u]) (fun vs zs => vs ++ zs ++ [v]) :=
  ⟨fun s us ws X l1 l2 => BindsTo.of_looks fun M => KwChain.looks X (fun q hq => by rw [List.mem_singleton.mp hq]; exact hd) (h us ws l1 l2), fun r1 r2 => (r1.append r2).append (.cons hr .nil)⟩
section
variable {P : Program} {w : World} {K : PySem.W.Frag} {mg : Str → Option Value} {base : Heap}
theorem metD_of {C : Addr} {x qual : Str} {st : Stmt} {ps ks N : List Str} {ds : List V} {k n : Nat} {sp : Sp} (D : MethDE K C x qual st ps n ks ds) (c : Cls K C) (S : FnScope N ps (defScope st)) (len : ∀ vs H Q E, sp vs H Q E → vs.length = ps.length)
    (hbody : ∀ (f : Addr) (cdv : Value) (A : Around) (outer : List Env) (s : Shared) (H : Hp) (vs : List V) (Q : VK) (E : XK), Room k (A.deeper (envOfC qual (defScope st) s.heap.objs.size f cdv)) → sp vs H Q E →
      ∃ t, PSs (cxOf CX0 P w K mg base N qual (defScope st) f cdv A outer s H E).nox (defBody st) t ∧ t { nx := fun _ H' => Q .non H', rt := Q } (start N vs) H) : MetK P w K mg base (k + 1) C x sp n ks (fun vs zs => vs ++ zs ++ ds) := by
  obtain ⟨f, fd, g, F, hm, b⟩ := D
  exact ⟨f, fd, ps, g, c, hm, F.ok S len (hbody f), b⟩
end
theorem Rn.u0 {A : Around} {k : Nat} (r : Room k A) : A.units < cLine := by have := r.un; omega
section
variable {X : Cx} {K : PySem.W.Frag}
theorem op_ltTS (hK : X.K = K) (hu : X.A.units < cLine) : OpR X (compareOp .Lt) (rLtT K) := by subst hK; exact op_ltT hu
end
/-! ### timers: the mathematics -/
structure Tm where
  num : Int
  due : Int
  per : Int
  own : Int
  lane : Int
def ltm (t u : Tm) : Bool := HT.lexLt [t.due, t.num] [u.due, u.num]
theorem ltm_iff {t u : Tm} : ltm t u = true ↔ t.due < u.due ∨ (t.due = u.due ∧ t.num < u.num) := by
  unfold ltm
  show (if t.due = u.due then (if t.num = u.num then false else decide (t.num < u.num)) else decide (t.due < u.due)) = true ↔ _
  by_cases e : t.due = u.due
  · rw [if_pos e]
    by_cases e2 : t.num = u.num
    · rw [if_pos e2]
      constructor
      · intro h; cases h
      · omega
    · rw [if_neg e2, decide_eq_true_eq]
      omega
  · rw [if_neg e, decide_eq_true_eq]
    omega
abbrev Tl := List (Addr × Tm)
def cntT (L : Tl) (t : Tm) : Nat := (L.filter fun e => ltm e.2 t).length
def insT (L : Tl) (e : Addr × Tm) : Tl := L.take (cntT L e.2) ++ [e] ++ L.drop (cntT L e.2)
abbrev SrtT (L : Tl) : Prop := L.Pairwise fun e f => ltm e.2 f.2 = true
theorem mem_ins {L : Tl} {e f : Addr × Tm} : f ∈ insT L e ↔ f = e ∨ f ∈ L := by
  unfold insT
  conv => rhs; rw [← List.take_append_drop (cntT L e.2) L]
  simp only [List.mem_append, List.mem_singleton]
  constructor
  · rintro ((h | h) | h)
    · exact .inr (.inl h)
    · exact .inl h
    · exact .inr (.inr h)
  · rintro (h | h | h)
    · exact .inl (.inr h)
    · exact .inl (.inl h)
    · exact .inr h
theorem ins_len {L : Tl} {e : Addr × Tm} : (insT L e).length = L.length + 1 := by
  unfold insT
  rw [List.length_append, List.length_append, List.length_take, List.length_drop, List.length_singleton]
  have := List.length_filter_le (fun f : Addr × Tm => ltm f.2 e.2) L
  unfold cntT
  omega
theorem ins_cons_lt {a : Addr × Tm} {L : Tl} {e : Addr × Tm} (h : ltm a.2 e.2 = true) : insT (a :: L) e = a :: insT L e := by
  unfold insT
  have : cntT (a :: L) e.2 = cntT L e.2 + 1 := by unfold cntT; rw [List.filter_cons, if_pos h, List.length_cons]
  rw [this]
  rfl
theorem ins_all_ge {L : Tl} {e : Addr × Tm} (h : ∀ f ∈ L, ltm f.2 e.2 = false) : insT L e = e :: L := by
  unfold insT
  have : cntT L e.2 = 0 := by
    unfold cntT
    rw [List.length_eq_zero_iff, List.filter_eq_nil_iff]
    intro f hf
    rw [h f hf]
    exact Bool.false_ne_true
  rw [this]
  rfl
theorem ins_srt : ∀ {L : Tl} {e : Addr × Tm}, SrtT L → (∀ f ∈ L, f.2.num ≠ e.2.num) → SrtT (insT L e)
  | [], e, _, _ => by
    show SrtT [e]
    exact List.pairwise_singleton _ _
  | a :: L, e, hs, hn => by
    have hs' := List.pairwise_cons.mp hs
    cases q : ltm a.2 e.2 with
    | true =>
      rw [ins_cons_lt q]
      refine List.pairwise_cons.mpr ⟨fun f hf => ?_, ins_srt hs'.2 fun f hf => hn f (List.mem_cons_of_mem _ hf)⟩
      rcases mem_ins.mp hf with rfl | hf
      · exact q
      · exact hs'.1 f hf
    | false =>
      have lt : ltm e.2 a.2 = true := by
        have h1 := hn a List.mem_cons_self
        have h2 : ¬ (a.2.due < e.2.due ∨ (a.2.due = e.2.due ∧ a.2.num < e.2.num)) := fun z => by rw [ltm_iff.mpr z] at q; cases q
        refine ltm_iff.mpr ?_
        omega
      have all : ∀ f ∈ a :: L, ltm e.2 f.2 = true := fun f hf => by
        rcases List.mem_cons.mp hf with rfl | hf
        · exact lt
        · have h1 := ltm_iff.mp lt
          have h2 := ltm_iff.mp (hs'.1 f hf)
          refine ltm_iff.mpr ?_
          omega
      rw [ins_all_ge fun f hf => ?_]
      · exact List.pairwise_cons.mpr ⟨all, hs⟩
      · have h1 := ltm_iff.mp (all f hf)
        cases z : ltm f.2 e.2 with
        | false => rfl
        | true =>
          have h2 := ltm_iff.mp z
          omega
/-! ### events -/
def EvT (r : Trip) (d : Int) : Prop := if r.2.2 = true then ∃ j : Nat, 1 ≤ j ∧ d = r.1 + (j : Int) * r.2.1 else d = r.1 + r.2.1
def PdT (r : Trip) (t : Tm) : Prop := if r.2.2 = true then t.per = r.2.1 ∧ ∃ j : Nat, 1 ≤ j ∧ t.due = r.1 + (j : Int) * r.2.1 else t.per = 0 ∧ t.due = r.1 + r.2.1
structure OkR (R : List Trip) : Prop where
  len : R.length ≤ 20
  now : ∀ r ∈ R, 0 ≤ r.1 ∧ r.1 < 12
  tk : ∀ r ∈ R, 0 ≤ r.2.1
  tu : ∀ r ∈ R, r.2.1 ≤ 10
  ag : ∀ r ∈ R, r.2.2 = true → 1 ≤ r.2.1
  st : R.Pairwise fun x y => x.1 ≤ y.1
abbrev Fl := List (Int × Int)
def ltF (e f : Int × Int) : Prop := e.1 < f.1 ∨ (e.1 = f.1 ∧ e.2 < f.2)
/-- the timers of the first n rows, L running, F fired -/
structure MInv (R : List Trip) (n : Nat) (F : Fl) (L : Tl) : Prop where
  hn : n ≤ R.length
  ls : SrtT L
  nu : L.Pairwise fun e f => e.2.num ≠ f.2.num
  fs : F.Pairwise ltF
  fl : ∀ e ∈ F, ∀ f ∈ L, ltF e (f.2.due, f.2.num)
  lm : ∀ f ∈ L, ∃ k, k < n ∧ f.2.num = (k : Int) + 1 ∧ f.2.own = (k : Int) + 1 ∧ ∃ r, R[k]? = some r ∧ PdT r f.2
  fm : ∀ e ∈ F, ∃ k, k < n ∧ e.2 = (k : Int) + 1 ∧ ∃ r, R[k]? = some r ∧ EvT r e.1
  al : ∀ k, k < n → ∀ r, R[k]? = some r → ∀ d, EvT r d → (d, (k : Int) + 1) ∈ F ∨ ∃ f ∈ L, f.2.num = (k : Int) + 1 ∧ f.2.due ≤ d
theorem MInv.nil {R : List Trip} : MInv R 0 [] [] := ⟨Nat.zero_le _, .nil, .nil, .nil, fun e he => (by cases he), fun f hf => (by cases hf), fun e he => (by cases he), fun k hk => absurd hk (Nat.not_lt_zero _)⟩
def nextT (t : Tm) : Tm := { t with due := t.due + t.per }
theorem PdT.ev {r : Trip} {t : Tm} (h : PdT r t) : EvT r t.due := by
  unfold PdT at h
  unfold EvT
  split
  · rename_i q
    rw [if_pos q] at h
    exact h.2
  · rename_i q
    rw [if_neg q] at h
    exact h.2
theorem PdT.next {r : Trip} {t : Tm} (h : PdT r t) (ht : t.per > 0) (h0 : 0 ≤ r.2.1) : PdT r (nextT t) ∧ (∀ d, EvT r d → t.due ≤ d → d ≠ t.due → (nextT t).due ≤ d) := by
  unfold PdT at h ⊢
  unfold EvT
  by_cases q : r.2.2 = true
  · rw [if_pos q] at h ⊢
    obtain ⟨e, j, hj, ej⟩ := h
    have es : (nextT t).due = r.1 + ((j + 1 : Nat) : Int) * r.2.1 := by
      show t.due + t.per = _
      rw [ej, e]
      push_cast
      rw [Int.add_mul]
      omega
    refine ⟨⟨e, j + 1, by omega, es⟩, fun d hd h1 h2 => ?_⟩
    rw [if_pos q] at hd
    obtain ⟨i, hi, ei⟩ := hd
    rw [es, ei]
    have hij : j + 1 ≤ i := by
      rcases Nat.lt_or_ge j i with z | z
      · exact z
      · exfalso
        have : (i : Int) * r.2.1 ≤ (j : Int) * r.2.1 := Int.mul_le_mul_of_nonneg_right (by omega) h0
        omega
    have : ((j + 1 : Nat) : Int) * r.2.1 ≤ (i : Int) * r.2.1 := Int.mul_le_mul_of_nonneg_right (by omega) h0
    omega
  · rw [if_neg q] at h
    omega
theorem PdT.last {r : Trip} {t : Tm} (h : PdT r t) (ht : ¬ t.per > 0) (ag : r.2.2 = true → 1 ≤ r.2.1) : ∀ d, EvT r d → d = t.due := by
  intro d hd
  unfold PdT at h
  unfold EvT at hd
  by_cases q : r.2.2 = true
  · rw [if_pos q] at h
    have := ag q
    omega
  · rw [if_neg q] at h hd
    omega
theorem MInv.fire {R : List Trip} (O : OkR R) {n : Nat} {F : Fl} {x : Addr} {t : Tm} {L : Tl} (I : MInv R n F ((x, t) :: L)) :
    MInv R n (F ++ [(t.due, t.num)]) (if t.per > 0 then insT L (x, nextT t) else L) := by
  obtain ⟨hn, ls, nu, fs, fl, lm, fm, al⟩ := I
  have ls' := List.pairwise_cons.mp ls
  have nu' := List.pairwise_cons.mp nu
  obtain ⟨k0, hk0, e0, eo, r0, hr0, p0⟩ := lm _ List.mem_cons_self
  have r0m : r0 ∈ R := List.mem_of_getElem? hr0
  dsimp only at e0 eo p0
  have hdr : ∀ f ∈ L, ltF (t.due, t.num) (f.2.due, f.2.num) := fun f hf => ltm_iff.mp (ls'.1 f hf)
  have fs2 : (F ++ [(t.due, t.num)]).Pairwise ltF := List.pairwise_append.mpr ⟨fs, List.pairwise_singleton _ _, fun a ha b hb => by
    rw [List.mem_singleton.mp hb]
    exact fl a ha _ List.mem_cons_self⟩
  have fm2 : ∀ e ∈ F ++ [(t.due, t.num)], ∃ k, k < n ∧ e.2 = (k : Int) + 1 ∧ ∃ r, R[k]? = some r ∧ EvT r e.1 := fun e he => by
    rcases List.mem_append.mp he with he | he
    · exact fm e he
    · rw [List.mem_singleton.mp he]
      exact ⟨k0, hk0, e0, r0, hr0, p0.ev⟩
  have fl2 : ∀ e ∈ F ++ [(t.due, t.num)], ∀ f ∈ L, ltF e (f.2.due, f.2.num) := fun e he f hf => by
    rcases List.mem_append.mp he with he | he
    · exact fl e he f (List.mem_cons_of_mem _ hf)
    · rw [List.mem_singleton.mp he]
      exact hdr f hf
  have al2 : ∀ k, k < n → ∀ r, R[k]? = some r → ∀ d, EvT r d → ((d, (k : Int) + 1) ∈ F ++ [(t.due, t.num)] ∨ ∃ f ∈ L, f.2.num = (k : Int) + 1 ∧ f.2.due ≤ d) ∨ (k = k0 ∧ t.due ≤ d ∧ d ≠ t.due) := fun k hk r hr d hd => by
    rcases al k hk r hr d hd with h | ⟨f, hf, h1, h2⟩
    · exact .inl (.inl (List.mem_append_left _ h))
    · rcases List.mem_cons.mp hf with rfl | hf
      · dsimp only at h1 h2
        have ek : k = k0 := by omega
        by_cases q : d = t.due
        · refine .inl (.inl (List.mem_append_right _ (List.mem_singleton.mpr ?_)))
          rw [q, h1]
        · exact .inr ⟨ek, h2, q⟩
      · exact .inl (.inr ⟨f, hf, h1, h2⟩)
  split
  · rename_i ht
    obtain ⟨pn, en⟩ := p0.next ht (O.tk r0 r0m)
    refine ⟨hn, ins_srt ls'.2 fun f hf e => nu'.1 f hf e.symm, ?_, fs2, fun e he f hf => ?_, fun f hf => ?_, fm2, fun k hk r hr d hd => ?_⟩
    · have hp : (insT L (x, nextT t)).Perm ((x, nextT t) :: L) := by
        unfold insT
        have h1 : (L.take (cntT L (nextT t)) ++ [(x, nextT t)] ++ L.drop (cntT L (nextT t))).Perm ([(x, nextT t)] ++ L.take (cntT L (nextT t)) ++ L.drop (cntT L (nextT t))) := List.Perm.append_right _ List.perm_append_comm
        refine h1.trans ?_
        rw [List.append_assoc, List.take_append_drop]
        exact List.Perm.refl _
      refine hp.symm.pairwise (List.pairwise_cons.mpr ⟨fun f hf => nu'.1 f hf, nu'.2⟩) fun {a b} h => Ne.symm h
    · rcases mem_ins.mp hf with rfl | hf
      · have h1 : ltF (t.due, t.num) ((nextT t).due, (nextT t).num) := .inl (by show t.due < t.due + t.per; omega)
        rcases List.mem_append.mp he with he | he
        · have h2 := fl e he _ List.mem_cons_self
          unfold ltF at h1 h2 ⊢
          dsimp only at h1 h2 ⊢
          omega
        · rw [List.mem_singleton.mp he]
          exact h1
      · exact fl2 e he f hf
    · rcases mem_ins.mp hf with rfl | hf
      · exact ⟨k0, hk0, e0, eo, r0, hr0, pn⟩
      · exact lm f (List.mem_cons_of_mem _ hf)
    · rcases al2 k hk r hr d hd with (h | ⟨f, hf, h1, h2⟩) | ⟨rfl, h1, h2⟩
      · exact .inl h
      · exact .inr ⟨f, mem_ins.mpr (.inr hf), h1, h2⟩
      · rw [hr0] at hr
        cases hr
        exact .inr ⟨(x, nextT t), mem_ins.mpr (.inl rfl), e0, en d hd h1 h2⟩
  · rename_i ht
    have lst := p0.last ht (O.ag r0 r0m)
    refine ⟨hn, ls'.2, nu'.2, fs2, fl2, fun f hf => lm f (List.mem_cons_of_mem _ hf), fm2, fun k hk r hr d hd => ?_⟩
    rcases al2 k hk r hr d hd with h | ⟨rfl, h1, h2⟩
    · exact h
    · rw [hr0] at hr
      cases hr
      exact absurd (lst d hd) h2
/-- a timer is started -/
def newT (n : Nat) (r : Trip) : Tm := { num := (n : Int) + 1, due := r.1 + r.2.1, per := if r.2.2 = true then r.2.1 else 0, own := (n : Int) + 1, lane := 1 }
theorem PdT.new {n : Nat} {r : Trip} : PdT r (newT n r) := by
  unfold PdT newT
  by_cases q : r.2.2 = true
  · rw [if_pos q]
    dsimp only
    rw [if_pos q]
    exact ⟨rfl, 1, Nat.le_refl _, by omega⟩
  · rw [if_neg q]
    dsimp only
    rw [if_neg q]
    exact ⟨rfl, rfl⟩
theorem EvT.ge {r : Trip} (h0 : 0 ≤ r.2.1) {d : Int} (h : EvT r d) : r.1 + r.2.1 ≤ d := by
  unfold EvT at h
  by_cases q : r.2.2 = true
  · rw [if_pos q] at h
    obtain ⟨j, hj, e⟩ := h
    have : ((1 : Nat) : Int) * r.2.1 ≤ (j : Int) * r.2.1 := Int.mul_le_mul_of_nonneg_right (by omega) h0
    omega
  · rw [if_neg q] at h
    omega
theorem MInv.start {R : List Trip} (O : OkR R) {n : Nat} {F : Fl} {L : Tl} (I : MInv R n F L) {r : Trip} (hr : R[n]? = some r) (hl : ∀ e ∈ F, e.1 < r.1) (x : Addr) : MInv R (n + 1) F (insT L (x, newT n r)) := by
  obtain ⟨hn, ls, nu, fs, fl, lm, fm, al⟩ := I
  have rm : r ∈ R := List.mem_of_getElem? hr
  have hlen : n < R.length := by
    rcases Nat.lt_or_ge n R.length with h | h
    · exact h
    · rw [List.getElem?_eq_none h] at hr
      cases hr
  have nn : ∀ f ∈ L, f.2.num ≠ (newT n r).num := fun f hf => by
    obtain ⟨k, hk, e, _⟩ := lm f hf
    show f.2.num ≠ (n : Int) + 1
    omega
  refine ⟨hlen, ins_srt ls nn, ?_, fs, fun e he f hf => ?_, fun f hf => ?_, fun e he => ?_, fun k hk r' hr' d hd => ?_⟩
  · have hp : (insT L (x, newT n r)).Perm ((x, newT n r) :: L) := by
      unfold insT
      have h1 : (L.take (cntT L (newT n r)) ++ [(x, newT n r)] ++ L.drop (cntT L (newT n r))).Perm ([(x, newT n r)] ++ L.take (cntT L (newT n r)) ++ L.drop (cntT L (newT n r))) := List.Perm.append_right _ List.perm_append_comm
      refine h1.trans ?_
      rw [List.append_assoc, List.take_append_drop]
      exact List.Perm.refl _
    exact hp.symm.pairwise (List.pairwise_cons.mpr ⟨fun f hf => (nn f hf).symm, nu⟩) fun {a b} h => Ne.symm h
  · rcases mem_ins.mp hf with rfl | hf
    · have h1 := hl e he
      have h2 := O.tk r rm
      exact .inl (by show e.1 < r.1 + r.2.1; omega)
    · exact fl e he f hf
  · rcases mem_ins.mp hf with rfl | hf
    · exact ⟨n, Nat.lt_succ_self _, rfl, rfl, r, hr, PdT.new⟩
    · obtain ⟨k, hk, h⟩ := lm f hf
      exact ⟨k, by omega, h⟩
  · obtain ⟨k, hk, h⟩ := fm e he
    exact ⟨k, by omega, h⟩
  · by_cases q : k = n
    · subst q
      rw [hr] at hr'
      cases hr'
      exact .inr ⟨_, mem_ins.mpr (.inl rfl), rfl, hd.ge (O.tk r rm)⟩
    · rcases al k (by omega) r' hr' d hd with h | ⟨f, hf, h⟩
      · exact .inl h
      · exact .inr ⟨f, mem_ins.mpr (.inr hf), h⟩
/-- all that is due has fired -/
theorem MInv.done {R : List Trip} {n : Nat} {F : Fl} {L : Tl} (I : MInv R n F L) {last : Int} (hf : ∀ e ∈ F, e.1 ≤ last) (hL : ∀ f ∈ L, last < f.2.due) : ∀ d m, (d, m) ∈ F ↔ d ≤ last ∧ ∃ k, k < n ∧ m = (k : Int) + 1 ∧ ∃ r, R[k]? = some r ∧ EvT r d := by
  intro d m
  constructor
  · intro h
    obtain ⟨k, hk, e, h2⟩ := I.fm _ h
    exact ⟨hf _ h, k, hk, e, h2⟩
  · rintro ⟨h1, k, hk, rfl, r, hr, he⟩
    rcases I.al k hk r hr d he with h | ⟨f, hf2, h2, h3⟩
    · exact h
    · have := hL f hf2
      omega
theorem head_due {L : Tl} {e : Addr × Tm} (h : SrtT (e :: L)) {last : Int} (hd : last < e.2.due) : ∀ f ∈ e :: L, last < f.2.due := fun f hf => by
  rcases List.mem_cons.mp hf with rfl | hf
  · exact hd
  · have := ltm_iff.mp ((List.pairwise_cons.mp h).1 f hf)
    omega
theorem nodup_len {α : Type} [DecidableEq α] : ∀ (l D : List α), l.Nodup → (∀ x ∈ l, x ∈ D) → l.length ≤ D.length
  | [], _, _, _ => Nat.zero_le _
  | x :: l, D, hn, hs => by
    obtain ⟨h1, h2⟩ := List.nodup_cons.mp hn
    have hx : x ∈ D := hs x List.mem_cons_self
    have ih := nodup_len l (D.erase x) h2 fun y hy => by
      have hne : y ≠ x := fun e => h1 (e ▸ hy)
      exact (List.mem_erase_of_ne hne).2 (hs y (List.mem_cons_of_mem _ hy))
    have e := List.length_erase_of_mem hx
    have hp : 0 < D.length := List.length_pos_of_mem hx
    rw [List.length_cons]
    omega
def codeF (e : Int × Int) : Int := e.1 * 21 + e.2
theorem codeF_lt {e f : Int × Int} (h : ltF e f) (h1 : e.2 ≤ 20) (h2 : 0 < f.2) : codeF e < codeF f := by
  unfold ltF at h
  unfold codeF
  omega
/-- not too many fire -/
theorem MInv.few {R : List Trip} (O : OkR R) {n : Nat} {F : Fl} {L : Tl} (I : MInv R n F L) {last : Int} (hf : ∀ e ∈ F, e.1 ≤ last) (hl : last < 60) : F.length < 1500 := by
  have hb : ∀ e ∈ F, 0 ≤ e.1 ∧ e.1 < 60 ∧ 1 ≤ e.2 ∧ e.2 ≤ 20 := fun e he => by
    obtain ⟨k, hk, e2, r, hr, ev⟩ := I.fm e he
    have rm : r ∈ R := List.mem_of_getElem? hr
    have h1 := ev.ge (O.tk r rm)
    have h2 := (O.now r rm).1
    have h3 := O.tk r rm
    have h4 := hf e he
    have h5 := I.hn
    have h6 := O.len
    omega
  have hs : (F.map fun e => (codeF e).toNat).Nodup := by
    unfold List.Nodup
    rw [List.pairwise_map]
    refine List.Pairwise.imp_of_mem (fun {a b} ha hb' h => ?_) I.fs
    have h1 := hb a ha
    have h2 := hb b hb'
    have h3 := codeF_lt h (by omega) (by omega)
    have h4 : 0 ≤ codeF a := by unfold codeF; omega
    omega
  have := nodup_len _ (List.range 1281) hs fun x hx => by
    obtain ⟨e, he, rfl⟩ := List.mem_map.mp hx
    have h1 := hb e he
    rw [List.mem_range]
    unfold codeF
    omega
  rw [List.length_map, List.length_range] at this
  omega
end VL

set_option Elab.async false
set_option linter.all false
set_option maxRecDepth 100000
set_option maxHeartbeats 4000000
namespace VL
open PySem PySem.Spec PyProof.Rows L2 S3
theorem at0 {x : V} {xs : List V} : atI (x :: xs) 0 = some x := by
  unfold atI ixN
  rw [if_pos (Int.le_refl 0), if_pos (by rw [List.length_cons]; omega)]
  rfl
theorem atI_nat {xs : List V} {i : Nat} (h : i < xs.length) : atI xs (0 + (i : Int)) = xs[i]? := by
  rw [Int.zero_add]
  unfold atI ixN
  rw [if_pos (by omega), if_pos (by omega), Int.toNat_natCast]
  rfl
theorem paired_snocT {α β : Type} {G : α → β → Prop} {a : α} {b : β} (h : G a b) : ∀ {l₁ : List α} {l₂ : List β}, Paired G l₁ l₂ → Paired G (l₁ ++ [a]) (l₂ ++ [b])
  | _, _, .nil => .cons h .nil
  | _, _, .cons r t => .cons r (paired_snocT h t)
theorem pairedT_get {α β : Type} {G : α → β → Prop} : ∀ {l₁ : List α} {l₂ : List β}, Paired G l₁ l₂ → ∀ (i : Nat) (h1 : i < l₁.length), ∃ h2 : i < l₂.length, G l₁[i] l₂[i]
  | _, _, .cons r t, 0, _ => ⟨Nat.succ_pos _, r⟩
  | _, _, .cons r t, i + 1, h1 => by
    obtain ⟨h2, g⟩ := pairedT_get t i (Nat.lt_of_succ_lt_succ h1)
    exact ⟨Nat.succ_lt_succ h2, g⟩
theorem pairedT_len {α β : Type} {G : α → β → Prop} : ∀ {l₁ : List α} {l₂ : List β}, Paired G l₁ l₂ → l₁.length = l₂.length
  | _, _, .nil => rfl
  | _, _, .cons _ t => congrArg Nat.succ (pairedT_len t)
/-! ### timers on the heap -/
def fsS (l : Addr) (n : Int) : List (Str × V) := [("running", .ref l), ("last", .int n)]
def fsT (t : Tm) (p : Addr) : List (Str × V) := [("number", .int t.num), ("due", .int t.due), ("period", .int t.per), ("owner", .int t.own), ("performed", .ref p)]
theorem fsS_running (l : Addr) (n : Int) : (fsS l n).lookup ("running" : Str) = some (.ref l) := by rfl
theorem fsS_last (l : Addr) (n : Int) : (fsS l n).lookup ("last" : Str) = some (.int n) := by rfl
theorem putS_last (l : Addr) (n n' : Int) : putF "last" (.int n') (fsS l n) = fsS l n' := by rfl
theorem fsT_number (t : Tm) (p : Addr) : (fsT t p).lookup ("number" : Str) = some (.int t.num) := by rfl
theorem fsT_due (t : Tm) (p : Addr) : (fsT t p).lookup ("due" : Str) = some (.int t.due) := by rfl
theorem fsT_period (t : Tm) (p : Addr) : (fsT t p).lookup ("period" : Str) = some (.int t.per) := by rfl
theorem fsT_owner (t : Tm) (p : Addr) : (fsT t p).lookup ("owner" : Str) = some (.int t.own) := by rfl
theorem fsT_performed (t : Tm) (p : Addr) : (fsT t p).lookup ("performed" : Str) = some (.ref p) := by rfl
theorem putT_due (t : Tm) (p : Addr) (d : Int) : putF "due" (.int d) (fsT t p) = fsT { t with due := d } p := by rfl
/-- a timer stands at x; what it performs stands in G -/
def TmA (CT : Addr) (G H : Hp) (x : Addr) (t : Tm) : Prop := ∃ dx p e b, H x = some (.ins CT dx (fsT t p)) ∧ G p = some (.tup [.int t.lane, .ref e, .ref b, .int 0]) ∧ G e = some (.dK []) ∧ G b = some (.lst [])
/-- timers stand at a, their list at l; G stays -/
structure TsA (CT CS : Addr) (G H : Hp) (a l : Addr) (L : Tl) (n : Int) : Prop where
  ob : ∃ dx, H a = some (.ins CS dx (fsS l n))
  ls : H l = some (.lst (L.map fun e => V.ref e.1))
  tm : ∀ e ∈ L, TmA CT G H e.1 e.2
  nd : (L.map (·.1)).Nodup
  sm : Same G H
  ga : G a = none
  gl : G l = none
  gx : ∀ e ∈ L, G e.1 = none
/-- what is not of the timers is kept -/
def Fr3 (a l : Addr) (L : Tl) (H H' : Hp) : Prop := ∀ b o, H b = some o → b ≠ a → b ≠ l → (∀ e ∈ L, b ≠ e.1) → H' b = some o
/-- G grows by what is new -/
structure Gro (H G G' : Hp) : Prop where
  sm : Same G G'
  nw : ∀ b o, H b = some o → G' b = G b
theorem Gro.refl {H G : Hp} : Gro H G G := ⟨fun _ _ e => e, fun _ _ _ => rfl⟩
theorem TsA.al {CT CS : Addr} {G H : Hp} {a l : Addr} {L : Tl} {n : Int} (S : TsA CT CS G H a l L n) : a ≠ l := by
  obtain ⟨dx, h⟩ := S.ob
  exact ne_of h S.ls (by intro e; cases e)
theorem TsA.lx {CT CS : Addr} {G H : Hp} {a l : Addr} {L : Tl} {n : Int} (S : TsA CT CS G H a l L n) : ∀ e ∈ L, e.1 ≠ l := fun e he => by
  obtain ⟨dx, p, e1, b, h, _⟩ := S.tm e he
  exact ne_of h S.ls (by intro e; cases e)
theorem fs_ne {CT CS : Addr} {dx dy l p : Addr} {n : Int} {t : Tm} : HO.ins CT dx (fsT t p) ≠ HO.ins CS dy (fsS l n) := by
  intro e
  injection e with _ _ e
  exact absurd (congrArg List.length e) (by show ¬ (5 = 2); decide)
theorem TsA.ax {CT CS : Addr} {G H : Hp} {a l : Addr} {L : Tl} {n : Int} (S : TsA CT CS G H a l L n) : ∀ e ∈ L, e.1 ≠ a := fun e he => by
  obtain ⟨dx, p, e1, b, h, _⟩ := S.tm e he
  obtain ⟨dy, h2⟩ := S.ob
  exact ne_of h h2 fs_ne
theorem TsA.mono {CT CS : Addr} {G H H' : Hp} {a l : Addr} {L : Tl} {n : Int} (S : TsA CT CS G H a l L n) (s : Same H H') : TsA CT CS G H' a l L n := by
  obtain ⟨⟨dx, h⟩, h2, h3, h4, h5, h6, h7, h8⟩ := S
  exact ⟨⟨dx, s _ _ h⟩, s _ _ h2, fun e he => by
    obtain ⟨dx, p, e1, b, h, r⟩ := h3 e he
    exact ⟨dx, p, e1, b, s _ _ h, r⟩, h4, h5.trans s, h6, h7, h8⟩
/-- something else changes at q -/
theorem TsA.other {CT CS : Addr} {G H H' : Hp} {a l q : Addr} {L : Tl} {n : Int} (S : TsA CT CS G H a l L n) (k : ∀ b o, H b = some o → b ≠ q → H' b = some o) (gq : G q = none) (qa : a ≠ q) (ql : l ≠ q) (qx : ∀ e ∈ L, e.1 ≠ q) : TsA CT CS G H' a l L n := by
  obtain ⟨⟨dx, h⟩, h2, h3, h4, h5, h6, h7, h8⟩ := S
  exact ⟨⟨dx, k _ _ h qa⟩, k _ _ h2 ql, fun e he => by
    obtain ⟨dx, p, e1, b, h, r⟩ := h3 e he
    exact ⟨dx, p, e1, b, k _ _ h (qx e he), r⟩, h4, fun b o e => k _ _ (h5 _ _ e) (ne_of_none e gq), h6, h7, h8⟩
theorem ins_perm {L : Tl} {e : Addr × Tm} : (insT L e).Perm (e :: L) := by
  unfold insT
  have h1 : (L.take (cntT L e.2) ++ [e] ++ L.drop (cntT L e.2)).Perm ([e] ++ L.take (cntT L e.2) ++ L.drop (cntT L e.2)) := List.Perm.append_right _ List.perm_append_comm
  refine h1.trans ?_
  rw [List.append_assoc, List.take_append_drop]
  exact List.Perm.refl _
theorem TsA.put {CT CS : Addr} {G H : Hp} {a l x : Addr} {L : Tl} {n : Int} {t : Tm} (S : TsA CT CS G H a l L n) (h : TmA CT G H x t) (gx : G x = none) (xL : x ∉ L.map (·.1)) : TsA CT CS G (upd H l (.lst ((insT L (x, t)).map fun e => V.ref e.1))) a l (insT L (x, t)) n := by
  have al := S.al
  have lx := S.lx
  obtain ⟨⟨dx, h1⟩, h2, h3, h4, h5, h6, h7, h8⟩ := S
  obtain ⟨dz, pz, ez, bz, hz, gz⟩ := h
  have xl : x ≠ l := ne_of hz h2 (by intro e; cases e)
  refine ⟨⟨dx, by rw [upd_ne al]; exact h1⟩, upd_same, fun e he => ?_, ?_, fun b o e => by rw [upd_ne (ne_of_none e h7)]; exact h5 _ _ e, h6, h7, fun e he => ?_⟩
  · rcases mem_ins.mp he with rfl | he
    · exact ⟨dz, pz, ez, bz, by rw [upd_ne xl]; exact hz, gz⟩
    · obtain ⟨dy, p, e1, b, q, r⟩ := h3 e he
      exact ⟨dy, p, e1, b, by rw [upd_ne (lx e he)]; exact q, r⟩
  · exact ((ins_perm.map _).nodup_iff).mpr (List.nodup_cons.mpr ⟨xL, h4⟩)
  · rcases mem_ins.mp he with rfl | he
    · exact gx
    · exact h8 e he
/-- what a timer performs is laid anew -/
theorem TsA.lay {CT CS : Addr} {G H H2 : Hp} {a l d c p dy : Addr} {L : Tl} {n m : Int} {lane : Int} (S : TsA CT CS G H a l L n) (hd : H d = none) (hc : H c = none) (hp : H p = none) (dc : d ≠ c) (dp : d ≠ p) (cp : c ≠ p)
    (ha : H2 a = some (.ins CS dy (fsS l m))) (hk : ∀ b o, H b = some o → b ≠ a → H2 b = some o) (h1 : H2 d = some (.dK [])) (h2 : H2 c = some (.lst [])) (h3 : H2 p = some (.tup [.int lane, .ref d, .ref c, .int 0])) :
    ∃ G', Gro H G G' ∧ TsA CT CS G' H2 a l L m ∧ G' p = some (.tup [.int lane, .ref d, .ref c, .int 0]) ∧ G' d = some (.dK []) ∧ G' c = some (.lst []) ∧ ∀ b, G b = none → b ≠ d → b ≠ c → b ≠ p → G' b = none := by
  have al := S.al
  have lx := S.lx
  have ax := S.ax
  obtain ⟨⟨dx, h1'⟩, h2', h3', h4, h5, h6, h7, h8⟩ := S
  have gd : ∀ b o, H b = some o → upd (upd (upd G d (.dK [])) c (.lst [])) p (.tup [.int lane, .ref d, .ref c, .int 0]) b = G b := fun b o e => by rw [upd_ne (ne_of_none e hp), upd_ne (ne_of_none e hc), upd_ne (ne_of_none e hd)]
  have sG : Same G (upd (upd (upd G d (.dK [])) c (.lst [])) p (.tup [.int lane, .ref d, .ref c, .int 0])) := fun b o e => by rw [gd b o (h5 _ _ e)]; exact e
  refine ⟨upd (upd (upd G d (.dK [])) c (.lst [])) p (.tup [.int lane, .ref d, .ref c, .int 0]), ⟨sG, gd⟩, ⟨⟨dy, ha⟩, hk _ _ h2' al.symm, fun e he => ?_, h4, fun b o e => ?_, ?_, ?_, fun e he => ?_⟩, upd_same, by rw [upd_ne dp, upd_ne dc, upd_same], by rw [upd_ne cp, upd_same], fun b hb n1 n2 n3 => by rw [upd_ne n3, upd_ne n2, upd_ne n1]; exact hb⟩
  · obtain ⟨dz, q, e1, b, r1, r2, r3, r4⟩ := h3' e he
    exact ⟨dz, q, e1, b, hk _ _ r1 (ax e he), sG _ _ r2, sG _ _ r3, sG _ _ r4⟩
  · by_cases e1 : b = p
    · subst e1; rw [upd_same] at e; rw [← e]; exact h3
    · rw [upd_ne e1] at e
      by_cases e2 : b = c
      · subst e2; rw [upd_same] at e; rw [← e]; exact h2
      · rw [upd_ne e2] at e
        by_cases e3 : b = d
        · subst e3; rw [upd_same] at e; rw [← e]; exact h1
        · rw [upd_ne e3] at e
          exact hk _ _ (h5 _ _ e) (ne_of_none e h6)
  · rw [gd a _ h1']; exact h6
  · rw [gd l _ h2']; exact h7
  · obtain ⟨dz, q, e1, b, r1, _⟩ := h3' e he
    rw [gd e.1 _ r1]
    exact h8 e he
/-! ### promises -/
def spFalse : Sp := fun _ _ _ _ => False
def spCopyN : Sp := fun vs H Q _ => ∃ e, vs = [.ref e] ∧ H e = some (.dK []) ∧ ∀ d, H d = none → Q (.ref d) (upd H d (.dK []))
def spCopyS : Sp := fun vs H Q _ => ∃ b, vs = [.ref b] ∧ H b = some (.lst []) ∧ ∀ d, H d = none → Q (.ref d) (upd H d (.lst []))
def spTmInit (CT : Addr) : Sp := fun vs H Q _ => ∃ (x dx p : Addr) (nu du pe ow : Int), vs = [.ref x, .int nu, .int du, .int pe, .int ow, .ref p] ∧ H x = some (.ins CT dx []) ∧ ∀ lane H', H' x = some (.ins CT dx (fsT ⟨nu, du, pe, ow, lane⟩ p)) → (∀ b o, H b = some o → b ≠ x → H' b = some o) → Q .non H'
def spTsInit (CS : Addr) : Sp := fun vs H Q _ => ∃ (a dx : Addr), vs = [.ref a] ∧ H a = some (.ins CS dx []) ∧ ∀ l H', H l = none → H' a = some (.ins CS dx (fsS l 0)) → H' l = some (.lst []) → (∀ b o, H b = some o → b ≠ a → H' b = some o) → Q .non H'
def spTold (CT CS : Addr) : Sp := fun vs H Q _ => ∃ (G : Hp) (a l : Addr) (L : Tl) (n : Int), vs = [.ref a] ∧ TsA CT CS G H a l L n ∧ L.length ≤ 20 ∧ ∀ r (ps : List Addr) H', Same H H' → H r = none → H' r = some (.lst (ps.map V.ref)) → Paired (fun p (e : Addr × Tm) => H' p = some (.tup [.int e.2.num, .int e.2.due, .int e.2.per])) ps L → Q (.ref r) H'
def spNext (CT CS : Addr) : Sp := fun vs H Q _ => ∃ (G : Hp) (a l : Addr) (L : Tl) (n : Int), vs = [.ref a] ∧ TsA CT CS G H a l L n ∧ (L = [] → Q .non H) ∧ ∀ e L', L = e :: L' → Q (.int e.2.due) H
def spPut (CT CS : Addr) : Sp := fun vs H Q _ => ∃ (G : Hp) (a l x : Addr) (t : Tm) (L : Tl) (n : Int), vs = [.ref a, .ref x] ∧ TsA CT CS G H a l L n ∧ TmA CT G H x t ∧ G x = none ∧ x ∉ L.map (·.1) ∧ L.length < 21 ∧
  ∀ v H', TsA CT CS G H' a l (insT L (x, t)) n → (∀ b o, H b = some o → b ≠ l → H' b = some o) → Q v H'
def spStartT (CT CS : Addr) : Sp := fun vs H Q _ => ∃ (G : Hp) (a l e b : Addr) (L : Tl) (n : Int) (ow now tk : Int) (ag : Bool), vs = [.ref a, .int ow, .int now, .int tk, .bl ag, .int 1, .ref e, .ref b, .int 0] ∧ TsA CT CS G H a l L n ∧ H e = some (.dK []) ∧ H b = some (.lst []) ∧ e ≠ a ∧ L.length < 20 ∧
  ∀ x G' H', H x = none → Gro H G G' → TsA CT CS G' H' a l (insT L (x, ⟨n + 1, now + tk, if ag = true then tk else 0, ow, 1⟩)) (n + 1) → Fr3 a l L H H' → Q (.int (n + 1)) H'
def spFire (CT CS : Addr) : Sp := fun vs H Q _ => ∃ (G : Hp) (a l x : Addr) (t : Tm) (L : Tl) (n : Int), vs = [.ref a] ∧ TsA CT CS G H a l ((x, t) :: L) n ∧ L.length < 20 ∧
  ∀ p e b H', H p = none → H' p = some (.tup [.int t.own, .int t.lane, .ref e, .ref b, .int 0]) → TsA CT CS G H' a l (if t.per > 0 then insT L (x, nextT t) else L) n → Fr3 a l ((x, t) :: L) H H' → Q (.ref p) H'
theorem due_step {H H1 : Hp} {d t : Addr} {ps : List Addr} {D : Fl} {X M : Int} (s1 : Same H H1) (h1 : H1 d = some (.lst (ps.map V.ref))) (hd : H d = none) (ht : H1 t = none) (pd : Paired (fun p (e : Int × Int) => H1 p = some (.tup [.int e.1, .int e.2])) ps D) :
    Same H (upd (upd H1 t (.tup [.int X, .int M])) d (.lst (ps.map V.ref ++ [.ref t]))) ∧ upd (upd H1 t (.tup [.int X, .int M])) d (.lst (ps.map V.ref ++ [.ref t])) d = some (.lst ((ps ++ [t]).map V.ref)) ∧ Paired (fun p (e : Int × Int) => upd (upd H1 t (.tup [.int X, .int M])) d (.lst (ps.map V.ref ++ [.ref t])) p = some (.tup [.int e.1, .int e.2])) (ps ++ [t]) (D ++ [(X, M)]) := by
  have dt : d ≠ t := ne_of_none h1 ht
  refine ⟨fun b o e => ?_, by rw [upd_same, List.map_append]; rfl, paired_snocT (by rw [upd_ne dt.symm, upd_same]) (L2.Paired.mapP pd fun c e z => ?_)⟩
  · rw [upd_ne (ne_of_none e hd), upd_ne (ne_of_none (s1 _ _ e) ht)]
    exact s1 _ _ e
  · rw [upd_ne (ne_of z h1 (by intro e; cases e)), upd_ne (ne_of_none z ht)]
    exact z
/-! ### what the law has -/
def TriA (H : Hp) (p : Addr) (r : Trip) : Prop := H p = some (.tup [.int r.1, .int r.2.1, .bl r.2.2])
def DuoA (H : Hp) (p : Addr) (e : Int × Int) : Prop := H p = some (.tup [.int e.1, .int e.2])
def RowsA (H : Hp) (ra : Addr) (R : List Trip) : Prop := ∃ ts : List Addr, H ra = some (.lst (ts.map V.ref)) ∧ Paired (TriA H) ts R
def FirA (H : Hp) (fr : Addr) (F : Fl) : Prop := ∃ ps : List Addr, H fr = some (.lst (ps.map V.ref)) ∧ Paired (DuoA H) ps F
theorem RowsA.same {H H' : Hp} {ra : Addr} {R : List Trip} (h : RowsA H ra R) (s : Same H H') : RowsA H' ra R := by
  obtain ⟨ts, h1, pr⟩ := h
  exact ⟨ts, s _ _ h1, L2.Paired.mapP pr fun p r q => s _ _ q⟩
theorem duo_all {H : Hp} : ∀ {ts : List Addr} {D : Fl}, Paired (DuoA H) ts D → (ts.map V.ref).map (kapH H) = D ∧ ∀ y ∈ ts.map V.ref, ∃ t, y = .ref t ∧ H t = some (.tup [.int (kapH H y).1, .int (kapH H y).2])
  | _, _, .nil => ⟨rfl, fun y hy => by cases hy⟩
  | t :: ts, r :: R, .cons h hh => by
    obtain ⟨e1, e2⟩ := duo_all hh
    have h0 : H t = some (.tup [.int r.1, .int r.2]) := h
    refine ⟨?_, fun y hy => ?_⟩
    · show kapH H (.ref t) :: (ts.map V.ref).map (kapH H) = r :: R
      rw [e1, kapH_at h0]
    · rcases List.mem_cons.mp hy with rfl | hy
      · exact ⟨t, rfl, by rw [kapH_at h0]; exact h0⟩
      · exact e2 y hy
theorem duo_back {H : Hp} : ∀ {ys : List V}, (∀ y ∈ ys, ∃ t, y = .ref t ∧ H t = some (.tup [.int (kapH H y).1, .int (kapH H y).2])) → ∃ ts : List Addr, ys = ts.map V.ref ∧ Paired (DuoA H) ts (ys.map (kapH H))
  | [], _ => ⟨[], rfl, .nil⟩
  | y :: ys, h => by
    obtain ⟨ts, e, pr⟩ := duo_back fun z hz => h z (List.mem_cons_of_mem _ hz)
    obtain ⟨t, e1, e2⟩ := h y List.mem_cons_self
    exact ⟨t :: ts, by rw [e1, e]; rfl, .cons e2 pr⟩
theorem duo_sorted {H : Hp} {ts : List Addr} {D : Fl} {ys : List V} (pr : Paired (DuoA H) ts D) (nd : D.Nodup) (hp : ys.Perm (ts.map V.ref)) (hs : SrtO.Srtd (ltP (kapH H)) ys) :
    ∃ ts' D', ys = ts'.map V.ref ∧ Paired (DuoA H) ts' D' ∧ D'.Perm D ∧ D'.Pairwise ltF := by
  obtain ⟨e1, e2⟩ := duo_all pr
  obtain ⟨ts', e, pr'⟩ := duo_back fun y hy => e2 y (hp.mem_iff.mp hy)
  have pm : (ys.map (kapH H)).Perm D := by rw [← e1]; exact hp.map _
  refine ⟨ts', _, e, pr', pm, ?_⟩
  have n2 : (ys.map (kapH H)).Nodup := pm.nodup_iff.mpr nd
  have s2 : (ys.map (kapH H)).Pairwise fun x y => SrtO.lexB y x = false := List.Pairwise.map _ (fun _ _ h => h) hs
  refine (s2.and n2).imp fun {x y} h => ?_
  have h1 := SrtO.lexB_no.mp h.1
  have h2 : x ≠ y := h.2
  have h3 : ¬ (x.1 = y.1 ∧ x.2 = y.2) := fun z => h2 (Prod.ext z.1 z.2)
  unfold ltF
  omega
/-- timers at a (their list at l), what has fired at fr; G stays -/
structure Wt (CT CS : Addr) (R : List Trip) (G H : Hp) (a l fr : Addr) (n : Nat) (F : Fl) (L : Tl) : Prop where
  ts : TsA CT CS G H a l L (n : Int)
  fi : FirA H fr F
  gf : G fr = none
  fa : fr ≠ a
  fl : fr ≠ l
  fx : ∀ e ∈ L, e.1 ≠ fr
  iv : MInv R n F L
def Fr4 (a l fr : Addr) (L : Tl) (H H' : Hp) : Prop := ∀ b o, H b = some o → b ≠ a → b ≠ l → b ≠ fr → (∀ e ∈ L, b ≠ e.1) → H' b = some o
theorem MInv.len {R : List Trip} {n : Nat} {F : Fl} {L : Tl} (I : MInv R n F L) : L.length ≤ n := by
  have nd : (L.map fun e => e.2.num.toNat).Nodup := by
    unfold List.Nodup
    rw [List.pairwise_map]
    refine List.Pairwise.imp_of_mem (fun {e f} he hf h => ?_) I.nu
    obtain ⟨k, hk, e1, _⟩ := I.lm e he
    obtain ⟨k', hk', e2, _⟩ := I.lm f hf
    omega
  have := nodup_len _ ((List.range n).map (· + 1)) nd fun x hx => by
    obtain ⟨e, he, rfl⟩ := List.mem_map.mp hx
    obtain ⟨k, hk, e1, _⟩ := I.lm e he
    exact List.mem_map.mpr ⟨k, List.mem_range.mpr hk, by omega⟩
  rw [List.length_map, List.length_map, List.length_range] at this
  exact this
/-- the triple at an address -/
def kap3 (H : Hp) (v : V) : Trip := match v with
  | .ref t => match H t with | some (.tup [.int i, .int j, .bl b]) => (i, j, b) | _ => (0, 0, false)
  | _ => (0, 0, false)
theorem kap3_at {H : Hp} {t : Addr} {r : Trip} (h : TriA H t r) : kap3 H (.ref t) = r := by
  show (match H t with | some (.tup [.int i, .int j, .bl b]) => ((i, j, b) : Trip) | _ => (0, 0, false)) = r
  rw [show H t = _ from h]
theorem kap3_all {H : Hp} : ∀ {ts : List Addr} {R : List Trip}, Paired (TriA H) ts R → (ts.map V.ref).map (kap3 H) = R ∧ ∀ y ∈ ts.map V.ref, ∃ t, y = .ref t ∧ TriA H t (kap3 H y)
  | _, _, .nil => ⟨rfl, fun y hy => by cases hy⟩
  | t :: ts, r :: R, .cons h hh => by
    obtain ⟨e1, e2⟩ := kap3_all hh
    refine ⟨?_, fun y hy => ?_⟩
    · show kap3 H (.ref t) :: (ts.map V.ref).map (kap3 H) = r :: R
      rw [e1, kap3_at h]
    · rcases List.mem_cons.mp hy with rfl | hy
      · exact ⟨t, rfl, by rw [kap3_at h]; exact h⟩
      · exact e2 y hy
theorem kap3_back {H : Hp} : ∀ {ys : List V}, (∀ y ∈ ys, ∃ t, y = .ref t ∧ TriA H t (kap3 H y)) → ∃ ts : List Addr, ys = ts.map V.ref ∧ Paired (TriA H) ts (ys.map (kap3 H))
  | [], _ => ⟨[], rfl, .nil⟩
  | y :: ys, h => by
    obtain ⟨ts, e, pr⟩ := kap3_back fun z hz => h z (List.mem_cons_of_mem _ hz)
    obtain ⟨t, e1, e2⟩ := h y List.mem_cons_self
    exact ⟨t :: ts, by rw [e1, e]; rfl, .cons e2 pr⟩
theorem rows_sorted {H : Hp} {ts : List Addr} {R : List Trip} {ys : List V} (pr : Paired (TriA H) ts R) (hp : ys.Perm (ts.map V.ref)) (hs : SrtO.Srtd (ltV (kap3 H)) ys) :
    ∃ ts', ys = ts'.map V.ref ∧ Paired (TriA H) ts' (ys.map (kap3 H)) ∧ (ys.map (kap3 H)).Perm R ∧ (ys.map (kap3 H)).Pairwise fun x y => x.1 ≤ y.1 := by
  obtain ⟨e1, e2⟩ := kap3_all pr
  obtain ⟨ts', e, pr'⟩ := kap3_back fun y hy => e2 y (hp.mem_iff.mp hy)
  refine ⟨ts', e, pr', by rw [← e1]; exact hp.map _, ?_⟩
  rw [List.pairwise_map]
  refine hs.imp fun {x y} h => ?_
  have := ltT_no.mp h
  omega
theorem OkR.of_perm {R R' : List Trip} (hp : R'.Perm R) (hs : R'.Pairwise fun x y => x.1 ≤ y.1) (hl : R.length ≤ 20) (h : ∀ r ∈ R, 0 ≤ r.1 ∧ r.1 < 12 ∧ 0 ≤ r.2.1 ∧ r.2.1 ≤ 10 ∧ (r.2.2 = true → 1 ≤ r.2.1)) : OkR R' :=
  ⟨by rw [hp.length_eq]; exact hl, fun r hr => ⟨(h r (hp.mem_iff.mp hr)).1, (h r (hp.mem_iff.mp hr)).2.1⟩, fun r hr => (h r (hp.mem_iff.mp hr)).2.2.1, fun r hr => (h r (hp.mem_iff.mp hr)).2.2.2.1, fun r hr => (h r (hp.mem_iff.mp hr)).2.2.2.2, hs⟩
def spRows (K : PySem.W.Frag) : Sp := fun vs H Q _ => ∃ (s : Addr) (ns : List Int), vs = [.ref s] ∧ SqL K H s (ns.map V.int) ∧ ns.length ≤ 63 ∧ ∀ ra R H', Same H H' → OkR R → H ra = none → RowsA H' ra R → Q (.ref ra) H'
def spDue : Sp := fun vs H Q _ => ∃ (ra : Addr) (R : List Trip) (last : Int), vs = [.ref ra, .int last] ∧ RowsA H ra R ∧ OkR R ∧ 0 ≤ last ∧ last < 60 ∧ ∀ d D H', Same H H' → FirA H' d D → D.Pairwise ltF → (∀ t m, (t, m) ∈ D ↔ t ≤ last ∧ ∃ k, k < R.length ∧ m = (k : Int) + 1 ∧ ∃ r, R[k]? = some r ∧ EvT r t) → Q (.ref d) H'
def spUntil (CT CS : Addr) : Sp := fun vs H Q _ => ∃ (R : List Trip) (G : Hp) (a l fr : Addr) (n : Nat) (F : Fl) (L : Tl) (last : Int), vs = [.ref a, .int last, .ref fr] ∧ OkR R ∧ Wt CT CS R G H a l fr n F L ∧ last < 60 ∧ (∀ e ∈ F, e.1 ≤ last) ∧
  ∀ F' L' H', Wt CT CS R G H' a l fr n F' L' → (∀ e ∈ F', e.1 ≤ last) → (∀ f ∈ L', last < f.2.due) → Fr4 a l fr L H H' → Q (.bl true) H'
/-! ### the law's end -/
def dDuo (F : Fl) : List PyData := F.map fun e => .tuple [.int e.1, .int e.2]
theorem dp_duo {K : PySem.W.Frag} {H : Hp} : ∀ {ts : List Addr} {F : Fl}, Paired (DuoA H) ts F → DpAll K H (ts.map V.ref) (dDuo F)
  | _, _, .nil => .nil
  | _, _, .cons (b := e) r rr => .cons (.tup (SqT.of (show H _ = some (.tup [.int e.1, .int e.2]) from r)) (.cons (.int _) (.cons (.int _) .nil))) (dp_duo rr)
theorem shaped_duo (E : Fl) : SeqAt.shaped (.list (dDuo E)) = true := by
  have h1 : PyData.canLayAll0 (dDuo E) = true := by
    induction E with
    | nil => rfl
    | cons e E ih =>
      show PyData.canLayAll0 (.tuple [.int e.1, .int e.2] :: dDuo E) = true
      simp [PyData.canLayAll0, PyData.canLay0, ih]
  have h2 : PyData.depthAll (dDuo E) ≤ 2 := by
    clear h1
    induction E with
    | nil => decide
    | cons e E ih =>
      show PyData.depthAll (.tuple [.int e.1, .int e.2] :: dDuo E) ≤ 2
      simp [PyData.depthAll, PyData.depth]
      omega
  unfold SeqAt.shaped
  rw [Bool.and_eq_true]
  refine ⟨by simpa [PyData.canLay0] using h1, decide_eq_true ?_⟩
  show PyData.depth (.list (dDuo E)) ≤ 64
  simp [PyData.depth]
  omega
theorem eqv_selfT {d : PyData} (h : SeqAt.shaped d = true) : PyData.eqv d d = true := by
  refine SeqAt.eqv_refl _ ?_
  unfold SeqAt.shaped at h
  exact (Bool.and_eq_true_iff.mp h).1
theorem eq_of_strict {α : Type} {lt : α → α → Prop} (irr : ∀ x, ¬ lt x x) (asy : ∀ x y, lt x y → ¬ lt y x) : ∀ {a b : List α}, a.Pairwise lt → b.Pairwise lt → (∀ x, x ∈ a ↔ x ∈ b) → a = b
  | [], [], _, _, _ => rfl
  | [], y :: b, _, _, h => absurd ((h y).mpr List.mem_cons_self) (by simp)
  | x :: a, [], _, _, h => absurd ((h x).mp List.mem_cons_self) (by simp)
  | x :: a, y :: b, ha, hb, h => by
    rw [List.pairwise_cons] at ha hb
    have e : x = y := by
      rcases List.mem_cons.mp ((h x).mp List.mem_cons_self) with r | r
      · exact r
      · rcases List.mem_cons.mp ((h y).mpr List.mem_cons_self) with r2 | r2
        · exact r2.symm
        · exact absurd (hb.1 _ r) (asy _ _ (ha.1 _ r2))
    subst e
    rw [eq_of_strict irr asy ha.2 hb.2 fun z => ⟨fun m => ?_, fun m => ?_⟩]
    · rcases List.mem_cons.mp ((h z).mp (List.mem_cons_of_mem _ m)) with r | r
      · rw [r] at m
        exact absurd (ha.1 _ m) (irr _)
      · exact r
    · rcases List.mem_cons.mp ((h z).mpr (List.mem_cons_of_mem _ m)) with r | r
      · rw [r] at m
        exact absurd (hb.1 _ m) (irr _)
      · exact r
theorem fl_eq {F D : Fl} (h1 : F.Pairwise ltF) (h2 : D.Pairwise ltF) (h : ∀ t m, (t, m) ∈ F ↔ (t, m) ∈ D) : F = D :=
  eq_of_strict (lt := ltF) (fun x => by unfold ltF; omega) (fun x y => by unfold ltF; omega) h1 h2 fun x => h x.1 x.2
def agO (R : List Trip) (m : Int) : Bool := match R[(m - 1).toNat]? with | some r => r.2.2 | none => false
def onceL (R : List Trip) (F : Fl) : List Int := (F.filter fun e => !agO R e.2).map (·.2)
theorem once_nodup {R : List Trip} {n : Nat} {F : Fl} {L : Tl} (I : MInv R n F L) : (onceL R F).Nodup := by
  unfold onceL List.Nodup
  rw [List.pairwise_map]
  refine List.Pairwise.imp_of_mem (fun {e f} he hf h q => ?_) (I.fs.sublist List.filter_sublist)
  obtain ⟨he1, he2⟩ := List.mem_filter.mp he
  obtain ⟨hf1, hf2⟩ := List.mem_filter.mp hf
  obtain ⟨k, hk, e1, r, hr, ev⟩ := I.fm e he1
  obtain ⟨k', hk', e1', r', hr', ev'⟩ := I.fm f hf1
  have ek : k = k' := by omega
  subst ek
  rw [hr] at hr'
  cases hr'
  have ea : agO R e.2 = r.2.2 := by
    unfold agO
    have : (e.2 - 1).toNat = k := by omega
    rw [this, hr]
  have ra : ¬ r.2.2 = true := by
    rw [ea] at he2
    simpa using he2
  unfold EvT at ev ev'
  rw [if_neg ra] at ev ev'
  unfold ltF at h
  omega
theorem once_len {R : List Trip} {n : Nat} {F : Fl} {L : Tl} (I : MInv R n F L) : (onceL R F).length = ((List.range R.length).filter fun (k : Nat) => decide ((1 + (k : Int)) ∈ onceL R F)).length := by
  have nd := once_nodup I
  have hn := I.hn
  have rg : ∀ x ∈ onceL R F, ∃ k, k < R.length ∧ x = 1 + (k : Int) := fun x hx => by
    obtain ⟨e, he, rfl⟩ := List.mem_map.mp hx
    obtain ⟨k, hk, e1, _⟩ := I.fm e (List.mem_filter.mp he).1
    exact ⟨k, by omega, by omega⟩
  have h1 := nodup_len (onceL R F) (((List.range R.length).filter fun (k : Nat) => decide ((1 + (k : Int)) ∈ onceL R F)).map fun (k : Nat) => 1 + (k : Int)) nd fun x hx => by
    obtain ⟨k, hk, e⟩ := rg x hx
    refine List.mem_map.mpr ⟨k, List.mem_filter.mpr ⟨List.mem_range.mpr hk, decide_eq_true ?_⟩, e.symm⟩
    rw [← e]
    exact hx
  have h2 := nodup_len (((List.range R.length).filter fun (k : Nat) => decide ((1 + (k : Int)) ∈ onceL R F)).map fun (k : Nat) => 1 + (k : Int)) (onceL R F) (by
      unfold List.Nodup
      rw [List.pairwise_map]
      exact (List.nodup_range.sublist List.filter_sublist).imp fun {a b} h q => h (by omega)) fun x hx => by
    obtain ⟨k, hk, rfl⟩ := List.mem_map.mp hx
    exact of_decide_eq_true (List.mem_filter.mp hk).2
  rw [List.length_map] at h1 h2
  omega
theorem inV_i (x : Int) : ∀ P : List Int, inV (.int x) (P.map V.int) = decide (x ∈ P)
  | [] => rfl
  | a :: P => by
    show (eqV (.int a) (.int x) || inV (.int x) (P.map V.int)) = _
    rw [inV_i x P]
    show ((a == x) || decide (x ∈ P)) = decide (x ∈ a :: P)
    by_cases e : a = x
    · subst e
      simp
    · have e2 : x ≠ a := fun q => e q.symm
      have e3 : (a == x) = false := beq_eq_false_iff_ne.mpr e
      simp [e2, e3]
theorem flat_i : ∀ P : List Int, (P.map V.int).all flatV = true
  | [] => rfl
  | a :: P => by
    show (true && (P.map V.int).all flatV) = true
    rw [flat_i P]
    rfl
end VL

set_option Elab.async false
set_option linter.all false
set_option maxRecDepth 100000
set_option maxHeartbeats 4000000
namespace VL
open PySem PySem.Spec PyProof.Rows L2

def top (i : Nat) : Stmt := PySem.Challenge.pw_viewloom_k46_whole_timers_fire_in_time.main.body.getD i (.Pass ⟨0, 0, 0, 0⟩)
abbrev s__wall : Stmt := top 0
abbrev s_copied : Stmt := top 2
abbrev s_copy_of : Stmt := top 3
abbrev s_copied_names : Stmt := top 5
abbrev s_copied_source : Stmt := top 6
abbrev s_Timer___init__ : Stmt := inClass (top 9) 0
abbrev s_Timer_belongs_to : Stmt := inClass (top 9) 1
abbrev s_Timers___init__ : Stmt := inClass (top 10) 0
abbrev s_Timers___len__ : Stmt := inClass (top 10) 1
abbrev s_Timers_told : Stmt := inClass (top 10) 2
abbrev s_Timers_start : Stmt := inClass (top 10) 3
abbrev s_Timers_put : Stmt := inClass (top 10) 4
abbrev s_Timers_next_due : Stmt := inClass (top 10) 5
abbrev s_Timers_fire : Stmt := inClass (top 10) 6
abbrev s_Timers_end_run : Stmt := inClass (top 10) 7
abbrev s_Timers_end_owners : Stmt := inClass (top 10) 8
abbrev s_Timers_clear : Stmt := inClass (top 10) 9
abbrev s__law_cell : Stmt := top 12
abbrev s__law_is_integer : Stmt := top 13
abbrev s__law_start : Stmt := top 14
abbrev s__law_digit : Stmt := top 15
abbrev s__law_rows : Stmt := top 16
abbrev s__law_due : Stmt := top 17
abbrev s__law_until : Stmt := top 18
abbrev s_law : Stmt := top 19
structure Ad where
  u0 : Unit
  Timer : Addr
  Timers : Addr
structure Txt (K : PySem.W.Frag) (w : World) (mg : Str → Option Value) (C : Ad) : Prop where
  g_Timer : GV mg "Timer" (.ref C.Timer)
  cl_Timer : Cls K C.Timer
  n_Timer_number : NoAttr K C.Timer "number"
  n_Timer_due : NoAttr K C.Timer "due"
  n_Timer_period : NoAttr K C.Timer "period"
  n_Timer_owner : NoAttr K C.Timer "owner"
  n_Timer_performed : NoAttr K C.Timer "performed"
  g_Timers : GV mg "Timers" (.ref C.Timers)
  cl_Timers : Cls K C.Timers
  n_Timers_running : NoAttr K C.Timers "running"
  n_Timers_last : NoAttr K C.Timers "last"
  z_int : mg "int" = none
  z_isinstance : mg "isinstance" = none
  z_len : mg "len" = none
  z_list : mg "list" = none
  z_max : mg "max" = none
  z_min : mg "min" = none
  z_property : mg "property" = none
  z_range : mg "range" = none
  z_sorted : mg "sorted" = none
  z_tuple : mg "tuple" = none
  g_MOST_TIMERS : GV mg "MOST_TIMERS" (V.int 20)
  d_copied : DefE K mg "copied" s_copied ["value"]
  d_copied_names : DefE K mg "copied_names" s_copied_names ["environment"]
  d_copied_source : DefE K mg "copied_source" s_copied_source ["part"]
  i_Timer : InitE K mg "Timer" C.Timer "Timer.__init__" s_Timer___init__ ["self", "number", "due", "period", "owner", "performed"]
  i_Timers : InitE K mg "Timers" C.Timers "Timers.__init__" s_Timers___init__ ["self"]
  p_Timers_told : PropE K C.Timers "told" "Timers.told" s_Timers_told
  m_Timers_start : MethDE K C.Timers "start" "Timers.start" s_Timers_start ["self", "owner", "now", "ticks", "again", "lane", "environment", "block", "run"] 2 ["now", "ticks", "again", "lane", "environment", "block"] [(V.int 0)]
  m_Timers_put : MethE K C.Timers "put" "Timers.put" s_Timers_put ["self", "timer"]
  m_Timers_next_due : MethE K C.Timers "next_due" "Timers.next_due" s_Timers_next_due ["self"]
  m_Timers_fire : MethE K C.Timers "fire" "Timers.fire" s_Timers_fire ["self"]
  d__law_cell : DefE K mg "_law_cell" s__law_cell ["script", "k"]
  d__law_start : DefE K mg "_law_start" s__law_start ["cell", "k"]
  d__law_digit : DefE K mg "_law_digit" s__law_digit ["state", "many"]
  d__law_rows : DefE K mg "_law_rows" s__law_rows ["script"]
  d__law_due : DefE K mg "_law_due" s__law_due ["rows", "last"]
  d__law_until : DefE K mg "_law_until" s__law_until ["timers", "last", "fired"]
end VL

set_option Elab.async false
set_option linter.all false
set_option maxRecDepth 100000
set_option maxHeartbeats 4000000
namespace VL
open PySem PySem.Spec PyProof.Rows L2

abbrev MM : Int := 18446744073709551557
/-- a state of drawing -/
def StA (H : Hp) (a : Addr) : Prop := ∃ z, H a = some (.lst [.int z]) ∧ 0 ≤ z ∧ z < MM
/-- all but a is kept -/
def Kp (a : Addr) (H H' : Hp) : Prop := ∀ b o, H b = some o → b ≠ a → H' b = some o
theorem Kp.trans {a : Addr} {H H' H'' : Hp} (h : Kp a H H') (k : Kp a H' H'') : Kp a H H'' := fun b o e n => k b o (h b o e n) n
theorem Kp.refl {a : Addr} {H : Hp} : Kp a H H := fun _ _ e _ => e
theorem Kp.new {a t : Addr} {o : HO} {H : Hp} (h : H t = none) : Kp a H (upd H t o) := fun b u e _ => by rw [upd_ne (ne_of_none e h)]; exact e
theorem StA.new {a t : Addr} {o : HO} {H : Hp} (S : StA H a) (h : H t = none) : StA (upd H t o) a := by
  obtain ⟨z, e, r⟩ := S
  exact ⟨z, by rw [upd_ne (ne_of_none e h)]; exact e, r⟩
theorem StA.same {a : Addr} {H H' : Hp} (S : StA H a) (s : Same H H') : StA H' a := by
  obtain ⟨z, e, r⟩ := S
  exact ⟨z, s _ _ e, r⟩
theorem Same.new {t : Addr} {o : HO} {H : Hp} (h : H t = none) : Same H (upd H t o) := fun b u e => by rw [upd_ne (ne_of_none e h)]; exact e
theorem Kp.same {a : Addr} {H0 H H' : Hp} (k : Kp a H H') (s : Same H0 H) (n : H0 a = none) : Same H0 H' := fun b o e => k _ _ (s _ _ e) (ne_of_none e n)
def spLaw (K : PySem.W.Frag) : Sp := fun vs H Q _ => ∃ (a : Addr) (ns : List Int), vs = [.ref a] ∧ SqL K H a (ns.map V.int) ∧ ns.length ≤ 63 ∧ ∀ H', Q (.bl true) H'
def spCellA (K : PySem.W.Frag) : Sp := fun vs H Q _ => ∃ (a : Addr) (ns : List Int) (j : Int), vs = [.ref a, .int j] ∧ SqL K H a (ns.map V.int) ∧ 0 ≤ j ∧ ∀ z, Q (.int z) H
def spIsInt : Sp := fun vs H Q _ => ∃ i : Int, vs = [.int i] ∧ Q (.bl true) H
def spStart : Sp := fun vs H Q _ => ∃ c k : Int, vs = [.int c, .int k] ∧ ∀ p H', H p = none → Same H H' → StA H' p → Q (.ref p) H'
def spDigit : Sp := fun vs H Q _ => ∃ (a : Addr) (m : Int), vs = [.ref a, .int m] ∧ StA H a ∧ 0 < m ∧ ∀ r H', StA H' a → Kp a H H' → 0 ≤ r → r < m → Q (.int r) H'
theorem map_int_at {ns : List Int} {j : Int} (h0 : 0 ≤ j) (h1 : j < (ns.length : Int)) : ∃ z, atI (ns.map V.int) j = some (.int z) := by
  have hj : j.toNat < ns.length := by omega
  refine ⟨ns[j.toNat], ?_⟩
  unfold atI ixN
  rw [if_pos h0, if_pos (by rw [List.length_map]; exact h1)]
  show (ns.map V.int)[j.toNat]? = _
  rw [List.getElem?_map, List.getElem?_eq_getElem hj]
  rfl
theorem atI_map {α : Type} {rs : List α} {f : α → V} {r : Int} (h0 : 0 ≤ r) (h1 : r.toNat < rs.length) : atI (rs.map f) r = some (f rs[r.toNat]) := by
  unfold atI ixN
  rw [if_pos h0, if_pos (by rw [List.length_map]; omega)]
  show (rs.map f)[r.toNat]? = _
  rw [List.getElem?_map, List.getElem?_eq_getElem h1]
  rfl
theorem atI_get {α : Type} {xs : List α} {r : Int} (h0 : 0 ≤ r) (h1 : r.toNat < xs.length) : atI xs r = some xs[r.toNat] := by
  unfold atI ixN
  rw [if_pos h0, if_pos (by omega)]
  show xs[r.toNat]? = _
  rw [List.getElem?_eq_getElem h1]
section
variable {P : Program} {w : World} {K : PySem.W.Frag} {mg : Str → Option Value} {base : Heap} {C : Ad}
theorem sc__law_cell : FnScope ["script", "k"] ["script", "k"] (defScope s__law_cell) := ⟨rfl, rfl, rfl, by decide +kernel, rfl, by decide +kernel, by decide +kernel⟩
theorem ok_cell (T : Txt K w mg C) : Cal P w K mg base 1 "_law_cell" (spCellA K) := by
  refine cal_of T.d__law_cell sc__law_cell (fun vs H Q E h => ?_) (fun f cdv A outer s H vs Q E hr h => ?_)
  · obtain ⟨a, ns, j, rfl, _⟩ := h
    rfl
  · obtain ⟨a, ns, j, rfl, hS, h0, k⟩ := h
    refine ⟨_, (pss_cons (ps_if (pt_cmpR op_lt (pv 1) (pe_callB call_len_seq (by rfl) T.z_len PySem.boot_len (pa_cons (pv 0) pa_nil)) (nomark _)) (pss_one (ps_ret (pe_ix ix_list (pv 0) (pv 1) (fun _ _ => rfl)))) pss_nil) (pss_one (ps_ret pe_int))), ?_⟩
    refine ⟨_, rfl, _, rfl, a, _, rfl, .inl hS, _, _, rfl, rfl, _, rfl, ?_⟩
    refine ite2 (fun q => ?_) (fun q => ?_)
    · have q' := of_decide_eq_true q
      rw [List.length_map] at q'
      obtain ⟨z, hz⟩ := map_int_at h0 q'
      exact ⟨_, rfl, _, rfl, a, _, j, _, rfl, rfl, hS, hz, k z⟩
    · exact k 0
theorem sc__law_start : FnScope ["cell", "k"] ["cell", "k"] (defScope s__law_start) := ⟨rfl, rfl, rfl, by decide +kernel, rfl, by decide +kernel, by decide +kernel⟩
theorem ok_start (T : Txt K w mg C) : Cal P w K mg base 1 "_law_start" spStart := by
  refine cal_of T.d__law_start sc__law_start (fun vs H Q E h => ?_) (fun f cdv A outer s H vs Q E hr h => ?_)
  · obtain ⟨c, k, rfl, _⟩ := h
    rfl
  · obtain ⟨c, j, rfl, k⟩ := h
    refine ⟨_, (pss_one (ps_ret (pe_lst (pa_cons (pe_op op_mod (pe_callTy call_int1 (by rfl) T.z_int (by decide +kernel) (pa_cons (pe_op op_add (pe_op op_mul (pv 0) pe_int) (pe_op op_mul (pe_op op_add (pv 1) pe_int) pe_int)) pa_nil)) pe_int) pa_nil)))), ?_⟩
    refine ⟨_, rfl, _, _, rfl, rfl, .inr ⟨by decide, by decide⟩, _, rfl, _, _, rfl, rfl, _, _, rfl, rfl, .inr ⟨by decide, by decide⟩, _, _, rfl, rfl, .inl ⟨_, rfl, _, _, rfl, rfl, (by show (0 : Int) < MM; decide), ?_⟩⟩
    refine ⟨by show 1 ≤ sizeLine; decide, fun p hp => ?_⟩
    refine k p _ hp (fun b o e => by rw [upd_ne (ne_of_none e hp)]; exact e) ⟨_, upd_same, Int.emod_nonneg _ (by decide), Int.emod_lt_of_pos _ (by decide)⟩
theorem sc__law_digit : FnScope ["state", "many"] ["state", "many"] (defScope s__law_digit) := ⟨rfl, rfl, rfl, by decide +kernel, rfl, by decide +kernel, by decide +kernel⟩
theorem ok_digit (T : Txt K w mg C) : Cal P w K mg base 1 "_law_digit" spDigit := by
  refine cal_of T.d__law_digit sc__law_digit (fun vs H Q E h => ?_) (fun f cdv A outer s H vs Q E hr h => ?_)
  · obtain ⟨a, m, rfl, _⟩ := h
    rfl
  · obtain ⟨a, m, rfl, ⟨z, hS, h0, h1⟩, hm, k⟩ := h
    refine ⟨_, (pss_cons (ps_asg (pe_op op_mod (pe_callTy call_int1 (by rfl) T.z_int (by decide +kernel) (pa_cons (pe_op op_add (pe_op op_mul (pe_ix ix_list (pv 0) pe_int (fun _ _ => rfl)) pe_int) pe_int) pa_nil)) pe_int) (pg_sub (pv 0) pe_int set_list)) (pss_one (ps_ret (pe_op op_mod (pe_callTy call_int1 (by rfl) T.z_int (by decide +kernel) (pa_cons (pe_op op_fdiv (pe_ix ix_list (pv 0) pe_int (fun _ _ => rfl)) pe_int) pa_nil)) (pv 1))))), ?_⟩
    refine ⟨_, rfl, a, _, 0, _, rfl, rfl, SqL.of hS, rfl, _, _, rfl, rfl, .inr ⟨by decide, by decide⟩, _, _, rfl, rfl, .inl ⟨_, rfl, _, _, rfl, rfl, (by show (0 : Int) < MM; decide), ?_⟩⟩
    refine ⟨_, rfl, a, _, 0, 0, rfl, rfl, hS, rfl, ?_⟩
    refine ⟨_, rfl, a, _, 0, _, rfl, rfl, SqL.of upd_same, rfl, _, _, rfl, rfl, ⟨by decide, by decide⟩, .inl ⟨_, rfl, _, rfl, _, _, rfl, rfl, hm, ?_⟩⟩
    exact k _ _ ⟨_, upd_same, Int.emod_nonneg _ (by decide), Int.emod_lt_of_pos _ (by decide)⟩ (fun b o e n => by rw [upd_ne n]; exact e) (Int.emod_nonneg _ (by omega)) (Int.emod_lt_of_pos _ hm)
end
end VL

set_option Elab.async false
set_option linter.all false
set_option maxRecDepth 100000
set_option maxHeartbeats 4000000
namespace VL
open PySem PySem.Spec PyProof.Rows L2 S3
section
variable {P : Program} {w : World} {K : PySem.W.Frag} {mg : Str → Option Value} {base : Heap} {C : Ad}
theorem sc_copied : FnScope ["value"] ["value"] (defScope s_copied) := ⟨rfl, rfl, rfl, by decide +kernel, rfl, by decide +kernel, by decide +kernel⟩
theorem ok_copied (T : Txt K w mg C) : Cal P w K mg base 1 "copied" spFalse :=
  cal_of T.d_copied sc_copied (fun vs H Q E h => h.elim) (fun f cdv A outer s H vs Q E hr h => h.elim)
theorem sc_copied_names : FnScope ["environment", "name"] ["environment"] (defScope s_copied_names) := ⟨rfl, rfl, rfl, by decide +kernel, rfl, by decide +kernel, by decide +kernel⟩
theorem ok_copyN (T : Txt K w mg C) : Cal P w K mg base 2 "copied_names" spCopyN := by
  have Gcopied : Cal P w K mg base 1 "copied" spFalse := ok_copied T
  refine cal_of T.d_copied_names sc_copied_names (fun vs H Q E h => ?_) (fun f cdv A outer s H vs Q E hr h => ?_)
  · obtain ⟨e, rfl, _⟩ := h
    rfl
  · obtain ⟨e, rfl, he, k⟩ := h
    have hu := hu_of hr
    refine ⟨_, (pss_one (ps_ret (pe_lock (pe_dc (own := [("name", 1)]) (g := gName 1) (tt := tYes) rfl sc_copied_names.nd (pi_keys (pv 0)) (blkOk_by (N := ["environment", "name"]) (sc := (defScope s_copied_names)) (by decide +kernel)) (fun _ _ _ _ _ => pg_name (i := 1) sc_copied_names.nd rfl (Or.inl rfl)) (fun _ _ _ _ _ => pts_nil) (fun _ _ _ _ _ => (pv 1)) (fun _ _ _ _ _ => (pe_c Gcopied hr (by decide) (by rfl) (pa_cons (pe_dget hu (pv 0) (pv 1) (fun _ _ => rfl)) pa_nil))))))), ?_⟩
    refine ⟨e, _, he, trivial, fun od => ?_⟩
    have hlk : upd H e (.frz od (.dK [])) e = some (.frz od (.dK [])) := upd_same
    refine ⟨_, rfl, e, od, rfl, .inl ⟨_, hlk, fun D hD => ?_⟩⟩
    have hDe : D ≠ e := fun z => by rw [z, upd_same] at hD; cases hD
    have hDn : H D = none := by rw [upd_ne hDe] at hD; exact hD
    refine dc_it (walk_keys (d := e) (o := od) (kvs := [])) (fun i H' => H' = upd (upd H e (.frz od (.dK []))) D (.dK [])) rfl (fun i H' _ z => by rw [z, upd_ne hDe.symm]; exact upd_same) ?_ ?_
    · intro i x H1 H2 hi
      exact absurd hi (Nat.not_lt_zero _)
    · rintro H1 rfl
      refine ⟨by rw [upd_ne hDe.symm]; exact upd_same, ?_⟩
      rw [unlock_eq hDe he]
      exact k D hDn
theorem sc_copied_source : FnScope ["part", "inner"] ["part"] (defScope s_copied_source) := ⟨rfl, rfl, rfl, by decide +kernel, rfl, by decide +kernel, by decide +kernel⟩
theorem ok_copyS (T : Txt K w mg C) : Cal P w K mg base 2 "copied_source" spCopyS := by
  have Gcopied_source : Cal P w K mg base 1 "copied_source" spFalse := cal_of T.d_copied_source sc_copied_source (fun vs H Q E h => h.elim) (fun f cdv A outer s H vs Q E hr h => h.elim)
  refine cal_of T.d_copied_source sc_copied_source (fun vs H Q E h => ?_) (fun f cdv A outer s H vs Q E hr h => ?_)
  · obtain ⟨e, rfl, _⟩ := h
    rfl
  · obtain ⟨b, rfl, hb, k⟩ := h
    refine ⟨_, (pss_cons (ps_if (pt_val (pe_callB call_isi (by rfl) T.z_isinstance (by decide +kernel) (pa_cons (pv 0) (pa_cons (pe_bltn (v := .ty "tuple") (by rfl) T.z_tuple (by decide +kernel) rfl) pa_nil)))) (pss_one (ps_ret (pe_callTy call_tuple_of (by rfl) T.z_tuple (by decide +kernel) (pa_cons (pe_lc (own := [("inner", 1)]) (g := gName 1) (tt := tYes) rfl sc_copied_source.nd (pi_list (pv 0)) (blkOk_by (N := ["part", "inner"]) (sc := (defScope s_copied_source)) (by decide +kernel)) (fun _ _ _ _ _ => pg_name (i := 1) sc_copied_source.nd rfl (Or.inl rfl)) (fun _ _ _ _ _ => pts_nil) (fun _ _ _ _ _ => (pe_c Gcopied_source hr (by decide) (by rfl) (pa_cons (pv 1) pa_nil)))) pa_nil)))) pss_nil) (pss_cons (ps_if (pt_val (pe_callB call_isi (by rfl) T.z_isinstance (by decide +kernel) (pa_cons (pv 0) (pa_cons (pe_bltn (v := .ty "list") (by rfl) T.z_list (by decide +kernel) rfl) pa_nil)))) (pss_one (ps_ret (pe_lc (own := [("inner", 1)]) (g := gName 1) (tt := tYes) rfl sc_copied_source.nd (pi_list (pv 0)) (blkOk_by (N := ["part", "inner"]) (sc := (defScope s_copied_source)) (by decide +kernel)) (fun _ _ _ _ _ => pg_name (i := 1) sc_copied_source.nd rfl (Or.inl rfl)) (fun _ _ _ _ _ => pts_nil) (fun _ _ _ _ _ => (pe_c Gcopied_source hr (by decide) (by rfl) (pa_cons (pv 1) pa_nil)))))) pss_nil) (pss_one (ps_ret (pv 0))))), ?_⟩
    refine ⟨_, rfl, .ref b, .ty "tuple", _, _, false, rfl, .ty _, .base (.lst hb), kit_ty (by decide +kernel), false, rfl, ?_⟩
    refine iteF ?_
    refine ⟨_, rfl, .ref b, .ty "list", _, _, true, rfl, .ty _, .base (.lst hb), kit_ty (by decide +kernel), true, rfl, ?_⟩
    refine iteT ?_
    refine ⟨_, rfl, b, rfl, ⟨_, SqL.of hb⟩, fun D hD => ?_⟩
    have hDb : b ≠ D := ne_of_none hb hD
    refine lc_it (walk_list (K := K) (a := b) (xs := [])) (fun i H' => H' = upd H D (.lst [])) rfl (fun i H' _ z => by rw [z]; exact SqL.of (by rw [upd_ne hDb]; exact hb)) ?_ ?_
    · intro i x H1 H2 hi
      exact absurd hi (Nat.not_lt_zero _)
    · rintro H1 rfl
      exact k D hD
theorem sc_Timer___init__ : FnScope ["self", "number", "due", "period", "owner", "performed"] ["self", "number", "due", "period", "owner", "performed"] (defScope s_Timer___init__) := ⟨rfl, rfl, rfl, by decide +kernel, rfl, by decide +kernel, by decide +kernel⟩
theorem ok_tminit (T : Txt K w mg C) : Mak P w K mg base 1 "Timer" C.Timer (spTmInit C.Timer) := by
  refine mak_of T.i_Timer sc_Timer___init__ (fun vs H Q E h => ?_) (fun f cdv A outer s H vs Q E hr h => ?_)
  · obtain ⟨x, dx, p, nu, du, pe, ow, rfl, _⟩ := h
    rfl
  · obtain ⟨x, dx, p, nu, du, pe, ow, rfl, hx, k⟩ := h
    refine ⟨_, (pss_cons (ps_fld (pv 0) (pv 1) rfl) (pss_cons (ps_fld (pv 0) (pv 2) rfl) (pss_cons (ps_fld (pv 0) (pv 3) rfl) (pss_cons (ps_fld (pv 0) (pv 4) rfl) (pss_one (ps_fld (pv 0) (pv 5) rfl)))))), ?_⟩
    refine ⟨_, rfl, _, rfl, x, _, dx, [], rfl, hx, T.cl_Timer, T.n_Timer_number, (by show 0 < 1000; decide), ?_⟩
    refine ⟨_, rfl, _, rfl, x, _, dx, _, rfl, upd_same, T.cl_Timer, T.n_Timer_due, (by show 1 < 1000; decide), ?_⟩
    refine ⟨_, rfl, _, rfl, x, _, dx, _, rfl, upd_same, T.cl_Timer, T.n_Timer_period, (by show 2 < 1000; decide), ?_⟩
    refine ⟨_, rfl, _, rfl, x, _, dx, _, rfl, upd_same, T.cl_Timer, T.n_Timer_owner, (by show 3 < 1000; decide), ?_⟩
    refine ⟨_, rfl, _, rfl, x, _, dx, _, rfl, upd_same, T.cl_Timer, T.n_Timer_performed, (by show 4 < 1000; decide), ?_⟩
    rw [upd_upd, upd_upd, upd_upd, upd_upd]
    exact k 1 _ upd_same fun b o e n => by rw [upd_ne n]; exact e
theorem sc_Timers___init__ : FnScope ["self"] ["self"] (defScope s_Timers___init__) := ⟨rfl, rfl, rfl, by decide +kernel, rfl, by decide +kernel, by decide +kernel⟩
theorem ok_tsinit (T : Txt K w mg C) : Mak P w K mg base 1 "Timers" C.Timers (spTsInit C.Timers) := by
  refine mak_of T.i_Timers sc_Timers___init__ (fun vs H Q E h => ?_) (fun f cdv A outer s H vs Q E hr h => ?_)
  · obtain ⟨x, dx, rfl, _⟩ := h
    rfl
  · obtain ⟨a, dx, rfl, ha, k⟩ := h
    refine ⟨_, (pss_cons (ps_fld (pv 0) (pe_lst pa_nil) rfl) (pss_one (ps_fld (pv 0) pe_int rfl))), ?_⟩
    refine ⟨by show 0 ≤ sizeLine; decide, fun l hl => ?_⟩
    have nal : a ≠ l := ne_of_none ha hl
    refine ⟨_, rfl, a, _, dx, [], rfl, (by rw [upd_ne nal]; exact ha), T.cl_Timers, T.n_Timers_running, (by show 0 < 1000; decide), ?_⟩
    refine ⟨_, rfl, a, _, dx, _, rfl, upd_same, T.cl_Timers, T.n_Timers_last, (by show 1 < 1000; decide), ?_⟩
    rw [upd_upd]
    refine k l _ hl upd_same ?_ fun b o e nb => ?_
    · rw [upd_ne nal.symm, upd_same]
    · rw [upd_ne nb, upd_ne (ne_of_none e hl)]
      exact e
theorem sc_Timers_next_due : FnScope ["self"] ["self"] (defScope s_Timers_next_due) := ⟨rfl, rfl, rfl, by decide +kernel, rfl, by decide +kernel, by decide +kernel⟩
theorem ok_tnext (T : Txt K w mg C) : Met P w K mg base 1 C.Timers "next_due" (spNext C.Timer C.Timers) := by
  refine met_of T.m_Timers_next_due T.cl_Timers sc_Timers_next_due (fun vs H Q E h => ?_) (fun f cdv A outer s H vs Q E hr h => ?_)
  · obtain ⟨G, a, l, L, n, rfl, _⟩ := h
    rfl
  · obtain ⟨G, a, l, L, n, rfl, S, k0, k1⟩ := h
    obtain ⟨dx, h1⟩ := S.ob
    refine ⟨_, (pss_cons (ps_if (pt_not (pt_truth (pe_fld (pv 0) rfl) (fun _ => rfl))) (pss_one (ps_ret pe_non)) pss_nil) (pss_one (ps_ret (pe_fld (pe_ix ix_list (pe_fld (pv 0) rfl) pe_int (fun _ _ => rfl)) rfl)))), ?_⟩
    refine ⟨_, rfl, a, _, dx, _, _, rfl, h1, T.cl_Timers, T.n_Timers_running, fsS_running l n, !(L.map fun e => V.ref e.1).isEmpty, .inl ⟨_, SqL.of S.ls, rfl⟩, ?_⟩
    cases L with
    | nil =>
      refine iteT ?_
      exact k0 rfl
    | cons e L =>
      refine iteF ?_
      obtain ⟨dy, p, e1, b, h2, h3⟩ := S.tm e List.mem_cons_self
      refine ⟨_, rfl, a, _, dx, _, _, rfl, h1, T.cl_Timers, T.n_Timers_running, fsS_running l n, l, _, 0, .ref e.1, rfl, rfl, SqL.of S.ls, at0, ?_⟩
      exact ⟨e.1, _, dy, _, _, rfl, h2, T.cl_Timer, T.n_Timer_due, fsT_due e.2 p, k1 e L rfl⟩
theorem sc_Timers_told : FnScope ["self", "timer"] ["self"] (defScope s_Timers_told) := ⟨rfl, rfl, rfl, by decide +kernel, rfl, by decide +kernel, by decide +kernel⟩
theorem ok_told (T : Txt K w mg C) : Pro P w K mg base 1 C.Timers "told" (spTold C.Timer C.Timers) := by
  refine pro_of T.p_Timers_told T.cl_Timers sc_Timers_told (fun vs H Q E h => ?_) (fun f cdv A outer s H vs Q E hr h => ?_)
  · obtain ⟨G, a, l, L, n, rfl, _⟩ := h
    rfl
  · obtain ⟨G, a, l, L, n, rfl, S, hl, k⟩ := h
    obtain ⟨dx, h1⟩ := S.ob
    refine ⟨_, (pss_one (ps_ret (pe_lc (own := [("timer", 1)]) (g := gName 1) (tt := tYes) rfl sc_Timers_told.nd (pi_list (pe_fld (pv 0) rfl)) (blkOk_by (N := ["self", "timer"]) (sc := (defScope s_Timers_told)) (by decide +kernel)) (fun _ _ _ _ _ => pg_name (i := 1) sc_Timers_told.nd rfl (Or.inl rfl)) (fun _ _ _ _ _ => pts_nil) (fun _ _ _ _ _ => (pe_tup (pa_cons (pe_fldS (K := K) rfl (pv 1) rfl) (pa_cons (pe_fldS (K := K) rfl (pv 1) rfl) (pa_cons (pe_fldS (K := K) rfl (pv 1) rfl) pa_nil)))))))), ?_⟩
    refine ⟨_, rfl, a, _, dx, _, _, rfl, h1, T.cl_Timers, T.n_Timers_running, fsS_running l n, l, rfl, ⟨_, SqL.of S.ls⟩, fun D hD => ?_⟩
    refine lc_it (walk_list (K := K) (a := l) (xs := L.map fun e => V.ref e.1)) (fun i H' => ∃ ps : List Addr, Same H H' ∧ H' D = some (.lst (ps.map V.ref)) ∧ ps.length = i ∧ Paired (fun p (e : Addr × Tm) => H' p = some (.tup [.int e.2.num, .int e.2.due, .int e.2.per])) ps (L.take i)) ?_ ?_ ?_ ?_
    · exact ⟨[], Same.new hD, upd_same, rfl, .nil⟩
    · rintro i H' hi ⟨ps, s1, _, _, _⟩
      exact SqL.of (s1 _ _ S.ls)
    · rintro i x H1 H2 hi ⟨ps, s1, hd, pl, pr⟩ ⟨rfl, hx⟩
      have hi' : i < L.length := by rw [List.length_map] at hi; exact hi
      have ex : x = .ref L[i].1 := by
        rw [List.getElem?_map, List.getElem?_eq_getElem hi'] at hx
        exact (Option.some.inj hx).symm
      subst ex
      obtain ⟨dy, p, e1, b, h2, h3⟩ := S.tm L[i] (List.getElem_mem hi')
      have h2' := s1 _ _ h2
      refine ⟨rfl, ?_⟩
      refine ⟨_, rfl, L[i].1, _, dy, _, _, rfl, h2', T.cl_Timer, T.n_Timer_number, fsT_number _ p, _, rfl, L[i].1, _, dy, _, _, rfl, h2', T.cl_Timer, T.n_Timer_due, fsT_due _ p, _, rfl, L[i].1, _, dy, _, _, rfl, h2', T.cl_Timer, T.n_Timer_period, fsT_period _ p, ?_⟩
      refine ⟨by show 3 ≤ sizeLine; decide, fun t ht => ?_⟩
      have tD : D ≠ t := ne_of_none hd ht
      refine ⟨_, by rw [upd_ne tD]; exact hd, ?_, ?_⟩
      · rw [List.length_map, pl]
        exact small1000 (by omega)
      · refine ⟨ps ++ [t], ?_, ?_, by rw [List.length_append, pl]; rfl, ?_⟩
        · intro c o e
          rw [upd_ne (ne_of_none e hD), upd_ne (ne_of_none (s1 _ _ e) ht)]
          exact s1 _ _ e
        · rw [upd_same, List.map_append]
          rfl
        · have e2 : L.take (i + 1) = L.take i ++ [L[i]] := by
            rw [List.take_add_one, List.getElem?_eq_getElem hi']
            rfl
          rw [e2]
          refine paired_snocT ?_ (L2.Paired.mapP pr fun c q z => ?_)
          · rw [upd_ne tD.symm, upd_same]
          · rw [upd_ne (ne_of z hd (by intro e; cases e)), upd_ne (ne_of_none z ht)]
            exact z
    · rintro H1 ⟨ps, s1, hd, pl, pr⟩
      rw [List.length_map, List.take_length] at pr
      exact k D ps H1 s1 hD hd pr
theorem sc_Timers_put : FnScope ["self", "timer", "earlier", "other"] ["self", "timer"] (defScope s_Timers_put) := ⟨rfl, rfl, rfl, by decide +kernel, rfl, by decide +kernel, by decide +kernel⟩
theorem ok_put (T : Txt K w mg C) : Met P w K mg base 1 C.Timers "put" (spPut C.Timer C.Timers) := by
  refine met_of T.m_Timers_put T.cl_Timers sc_Timers_put (fun vs H Q E h => ?_) (fun f cdv A outer s H vs Q E hr h => ?_)
  · obtain ⟨G, a, l, x, t, L, n, rfl, _⟩ := h
    rfl
  · obtain ⟨G, a, l, x, t, L, n, rfl, S, ⟨dz, pz, ez, bz, hz, gz⟩, gx, xL, hl, k⟩ := h
    have u0 : ∀ {k : Nat} {A : Around}, Room k A → A.units < cLine := fun r => Rn.u0 r
    obtain ⟨dx, h1⟩ := S.ob
    refine ⟨_, (pss_cons (ps_setLc (i := 2) (own := [("other", 3)]) (g := gName 3) (tt := _) rfl sc_Timers_put.nd rfl rfl (sw_true rfl rfl rfl (by decide +kernel)) (pi_list (pe_fld (pv 0) rfl)) (blkOk_by (N := ["self", "timer", "earlier", "other"]) (sc := (defScope s_Timers_put)) (by decide +kernel)) (fun _ _ _ _ _ => pg_name (i := 3) sc_Timers_put.nd rfl (Or.inl rfl)) (fun _ _ _ _ _ => pts_one (pt_cmpR (op_ltTS (K := K) rfl (u0 hr)) (pe_tup (pa_cons (pe_fldS (K := K) rfl (pv 3) rfl) (pa_cons (pe_fldS (K := K) rfl (pv 3) rfl) pa_nil))) (pe_tup (pa_cons (pe_fldS (K := K) rfl (pv 1) rfl) (pa_cons (pe_fldS (K := K) rfl (pv 1) rfl) pa_nil))) (nomark _))) (fun _ _ _ _ _ => (pv 3))) (pss_one (ps_expr (pe_bm PySem.F.plainAttrs_list PySem.F.slot_list_insert PySem.F.type_list_insert mt_insert (pe_fld (pv 0) rfl) (pa_cons (pe_callB call_len_seq (by rfl) T.z_len PySem.boot_len (pa_cons (pv 2) pa_nil)) (pa_cons (pv 1) pa_nil)))))), ?_⟩
    refine ⟨_, rfl, a, _, dx, _, _, rfl, h1, T.cl_Timers, T.n_Timers_running, fsS_running l n, l, rfl, ⟨_, SqL.of S.ls⟩, fun D hD => ?_⟩
    have Dl : D ≠ l := (ne_of_none S.ls hD).symm
    refine lc_it (walk_list (K := K) (a := l) (xs := L.map fun e => V.ref e.1)) (fun i H' => Same H H' ∧ H' D = some (.lst (((L.take i).filter fun e => ltm e.2 t).map fun e => V.ref e.1))) ⟨Same.new hD, upd_same⟩ (fun i H' _ z => SqL.of (z.1 _ _ S.ls)) ?_ ?_
    · rintro i y H1 H2 hi ⟨s1, hd⟩ ⟨rfl, hx⟩
      have hi' : i < L.length := by rw [List.length_map] at hi; exact hi
      have ex : y = .ref L[i].1 := by
        rw [List.getElem?_map, List.getElem?_eq_getElem hi'] at hx
        exact (Option.some.inj hx).symm
      subst ex
      obtain ⟨dy, p, e1, b, h2, h3⟩ := S.tm L[i] (List.getElem_mem hi')
      have h2' := s1 _ _ h2
      have hz' := s1 _ _ hz
      have et := take_filter (L := L) (p := fun e => ltm e.2 t) (f := fun e => V.ref e.1) hi'
      refine ⟨rfl, ?_⟩
      refine ⟨_, rfl, L[i].1, _, dy, _, _, rfl, h2', T.cl_Timer, T.n_Timer_due, fsT_due _ p, _, rfl, L[i].1, _, dy, _, _, rfl, h2', T.cl_Timer, T.n_Timer_number, fsT_number _ p, ?_⟩
      refine ⟨by show 2 ≤ sizeLine; decide, fun u hu => ?_⟩
      have uz : x ≠ u := ne_of_none hz' hu
      refine ⟨_, rfl, x, _, dz, _, _, rfl, (by rw [upd_ne uz]; exact hz'), T.cl_Timer, T.n_Timer_due, fsT_due _ pz, _, rfl, x, _, dz, _, _, rfl, (by rw [upd_ne uz]; exact hz'), T.cl_Timer, T.n_Timer_number, fsT_number _ pz, ?_⟩
      refine ⟨by show 2 ≤ sizeLine; decide, fun v hv => ?_⟩
      have uv : u ≠ v := fun z => by rw [z] at hv; rw [← z, upd_same] at hv; cases hv
      refine ⟨u, v, [L[i].2.due, L[i].2.num], [t.due, t.num], rfl, rfl, SqT.of (by rw [upd_ne uv, upd_same]; rfl), SqT.of (by rw [upd_same]; rfl), _, rfl, ?_⟩
      have hvn : H2 v = none := by rw [upd_ne uv.symm] at hv; exact hv
      have Du : D ≠ u := ne_of_none hd hu
      have Dv : D ≠ v := ne_of_none hd hvn
      have s2 : ∀ o1 o2, Same H (upd (upd H2 u o1) v o2) := fun o1 o2 c o e => by
        have := s1 _ _ e
        rw [upd_ne (ne_of_none this hvn), upd_ne (ne_of_none this hu)]
        exact this
      show if ltm L[i].2 t = true then _ else _
      refine ite2 (fun q => ?_) (fun q => ?_)
      · rw [if_pos q] at et
        refine ⟨_, rfl, _, by rw [upd_ne Dv, upd_ne Du]; exact hd, ?_, ?_⟩
        · rw [List.length_map]
          have h1 := List.length_filter_le (fun e : Addr × Tm => ltm e.2 t) (L.take i)
          have h2 := List.length_take_le i L
          exact small1000 (by omega)
        · refine ⟨fun c o e => ?_, ?_⟩
          · rw [upd_ne (ne_of_none e hD)]
            exact s2 _ _ _ _ e
          · rw [upd_same, et]
      · rw [if_neg q, List.append_nil] at et
        exact ⟨s2 _ _, by rw [upd_ne Dv, upd_ne Du, hd, et]⟩
    · rintro H1 ⟨s1, hd⟩
      rw [List.length_map, List.take_length] at hd
      have h1' := s1 _ _ h1
      have hls := s1 _ _ S.ls
      refine ⟨_, rfl, a, _, dx, _, _, rfl, h1', T.cl_Timers, T.n_Timers_running, fsS_running l n, ?_⟩
      have hlen : ((L.filter fun e => ltm e.2 t).map fun e => V.ref e.1).length = cntT L t := List.length_map _
      have hle : cntT L t ≤ L.length := List.length_filter_le _ _
      refine ⟨.inl ⟨rfl, _, SqL.of hls⟩, _, rfl, D, _, rfl, .inl (SqL.of hd), _, rfl, l, _, _, _, rfl, rfl, hls, ?_, ?_, ?_, ?_⟩
      · rw [List.length_map]
        exact small1000 (by omega)
      · exact Int.natCast_nonneg _
      · rw [hlen]
        omega
      · rw [hlen]
        have e3 : (L.map fun e => V.ref e.1).take ((cntT L t : Nat) : Int).toNat ++ [V.ref x] ++ (L.map fun e => V.ref e.1).drop ((cntT L t : Nat) : Int).toNat = (insT L (x, t)).map fun e => V.ref e.1 := by
          rw [Int.toNat_natCast]
          unfold insT
          rw [List.map_append, List.map_append, List.map_take, List.map_drop]
          rfl
        rw [e3]
        have S1 := S.mono s1
        exact k .non _ (S1.put ⟨dz, pz, ez, bz, s1 _ _ hz, gz⟩ gx xL) fun b o e nb => by rw [upd_ne nb]; exact s1 _ _ e
theorem sc_Timers_start : FnScope ["self", "owner", "now", "ticks", "again", "lane", "environment", "block", "run", "performed", "timer"] ["self", "owner", "now", "ticks", "again", "lane", "environment", "block", "run"] (defScope s_Timers_start) := ⟨rfl, rfl, rfl, by decide +kernel, rfl, by decide +kernel, by decide +kernel⟩
theorem ok_startT (T : Txt K w mg C) : MetK P w K mg base 3 C.Timers "start" (spStartT C.Timer C.Timers) 2 ["now", "ticks", "again", "lane", "environment", "block"] (fun vs zs => vs ++ zs ++ [.int 0]) := by
  have Gcopied_names : Cal P w K mg base 2 "copied_names" spCopyN := ok_copyN T
  have Gcopied_source : Cal P w K mg base 2 "copied_source" spCopyS := ok_copyS T
  have KTimer : Mak P w K mg base 1 "Timer" C.Timer (spTmInit C.Timer) := ok_tminit T
  have Mput : Met P w K mg base 1 C.Timers "put" (spPut C.Timer C.Timers) := ok_put T
  refine metD_of T.m_Timers_start T.cl_Timers sc_Timers_start (fun vs H Q E h => ?_) (fun f cdv A outer s H vs Q E hr h => ?_)
  · obtain ⟨G, a, l, e, b, L, n, ow, now, tk, ag, rfl, _⟩ := h
    rfl
  · obtain ⟨G, a, l, e, b, L, n, ow, now, tk, ag, rfl, S, he, hb, ea, hl, k⟩ := h
    obtain ⟨dx, h1⟩ := S.ob
    refine ⟨_, (pss_cons (ps_if (pt_cmpR op_ge (pe_callB call_len_seq (by rfl) T.z_len PySem.boot_len (pa_cons (pe_fld (pv 0) rfl) pa_nil)) (C8.pe_gc (by rfl) T.g_MOST_TIMERS) (nomark _)) (pss_one (ps_ret pe_non)) pss_nil) (pss_cons (ps_fldaug (pv 0) pe_int in_add) (pss_cons (ps_set (i := 9) sc_Timers_start.nd rfl (Or.inl rfl) (pe_tup (pa_cons (pv 5) (pa_cons (pe_c Gcopied_names hr (by decide) (by rfl) (pa_cons (pv 6) pa_nil)) (pa_cons (pe_c Gcopied_source hr (by decide) (by rfl) (pa_cons (pv 7) pa_nil)) (pa_cons (pv 8) pa_nil)))))) (pss_cons (ps_set (i := 10) sc_Timers_start.nd rfl (Or.inl rfl) (pe_mk KTimer hr (by decide) (by rfl) (pa_cons (pe_fld (pv 0) rfl) (pa_cons (pe_op op_add (pv 2) (pv 3)) (pa_cons (pe_ifExp (pt_val (pv 4)) (pv 3) pe_int) (pa_cons (pv 1) (pa_cons (pv 9) pa_nil))))))) (pss_cons (ps_expr (pe_mt Mput hr (by decide) (pv 0) (pa_cons (pv 10) pa_nil))) (pss_one (ps_ret (pe_fld (pv 10) rfl)))))))), ?_⟩
    refine ⟨_, rfl, a, _, dx, _, _, rfl, h1, T.cl_Timers, T.n_Timers_running, fsS_running l n, l, _, rfl, .inl (SqL.of S.ls), _, _, rfl, rfl, _, rfl, ?_⟩
    refine ite2 (fun q => ?_) (fun _ => ?_)
    · exfalso
      have := of_decide_eq_true q
      rw [List.length_map] at this
      omega
    refine ⟨_, rfl, a, _, dx, _, _, rfl, h1, T.cl_Timers, T.n_Timers_last, fsS_last l n, _, _, rfl, rfl, dx, _, h1, (by show 2 < 1000; decide), ?_⟩
    rw [putS_last]
    have ba : b ≠ a := ne_of hb h1 (by intro e; cases e)
    refine ⟨_, rfl, _, rfl, e, rfl, (by rw [upd_ne ea]; exact he), fun d hd => ?_⟩
    have bd : b ≠ d := ne_of_none (by rw [upd_ne ba]; exact hb) hd
    refine ⟨_, rfl, b, rfl, (by rw [upd_ne bd, upd_ne ba]; exact hb), fun c hc => ?_⟩
    refine ⟨_, rfl, by show 4 ≤ sizeLine; decide, fun p hp => ?_⟩
    have da : d ≠ a := fun z => by rw [z, upd_same] at hd; cases hd
    have hdn : H d = none := by rw [upd_ne da] at hd; exact hd
    have cd : c ≠ d := fun z => by rw [z, upd_same] at hc; cases hc
    have ca : c ≠ a := fun z => by rw [z, upd_ne da.symm, upd_same] at hc; cases hc
    have hcn : H c = none := by rw [upd_ne cd, upd_ne ca] at hc; exact hc
    have pc : p ≠ c := fun z => by rw [z, upd_same] at hp; cases hp
    have pd : p ≠ d := fun z => by rw [z, upd_ne cd.symm, upd_same] at hp; cases hp
    have pa : p ≠ a := fun z => by rw [z, upd_ne ca.symm, upd_ne da.symm, upd_same] at hp; cases hp
    have hpn : H p = none := by rw [upd_ne pc, upd_ne pd, upd_ne pa] at hp; exact hp
    have dc : d ≠ c := cd.symm
    have dp : d ≠ p := pd.symm
    have cp : c ≠ p := pc.symm
    have ha1 : upd (upd (upd (upd H a (.ins C.Timers dx (fsS l (n + 1)))) d (.dK [])) c (.lst [])) p (.tup [.int 1, .ref d, .ref c, .int 0]) a = some (.ins C.Timers dx (fsS l (n + 1))) := by rw [upd_ne pa.symm, upd_ne ca.symm, upd_ne da.symm, upd_same]
    refine ⟨_, rfl, a, _, dx, _, _, rfl, ha1, T.cl_Timers, T.n_Timers_last, fsS_last l (n + 1), ?_⟩
    refine ⟨_, rfl, _, rfl, _, _, rfl, rfl, ?_⟩
    refine ⟨_, rfl, ag, rfl, ?_⟩
    cases ag with
    | true =>
      refine iteT ?_
      refine ⟨_, rfl, ?_⟩
      refine ⟨_, rfl, _, rfl, fun x dxx hx hdx nx => ?_⟩
      refine ⟨x, dxx, p, n + 1, now + tk, tk, ow, rfl, upd_same, fun lane H2 hx2 keep => ⟨rfl, ?_⟩⟩
      have hxn : H x = none := by
        cases z : H x with
        | none => rfl
        | some o =>
          exfalso
          by_cases q : x = a
          · rw [q, upd_ne pa.symm, upd_ne ca.symm, upd_ne da.symm, upd_same] at hx
            cases hx
          · rw [upd_ne (ne_of_none z hpn), upd_ne (ne_of_none z hcn), upd_ne (ne_of_none z hdn), upd_ne q, z] at hx
            cases hx
      have up : ∀ b o, upd (upd (upd (upd H a (.ins C.Timers dx (fsS l (n + 1)))) d (.dK [])) c (.lst [])) p (.tup [.int 1, .ref d, .ref c, .int 0]) b = some o → H2 b = some o := fun b o z => by
        refine keep b o ?_ (ne_of_none z hx)
        rw [upd_ne (ne_of_none z hx), upd_ne (ne_of_none z hdx)]
        exact z
      have xa : x ≠ a := fun z => by rw [z] at hxn; rw [hxn] at h1; cases h1
      have hxp : x ≠ p := fun z => by rw [z, upd_same] at hx; cases hx
      have hxc : x ≠ c := fun z => by rw [z, upd_ne cp, upd_same] at hx; cases hx
      have hxd : x ≠ d := fun z => by rw [z, upd_ne dp, upd_ne dc, upd_same] at hx; cases hx
      obtain ⟨G', g1, S2, gp, gd, gc, gn⟩ := S.lay (H2 := H2) (m := n + 1) (dy := dx) hdn hcn hpn dc dp cp (up _ _ (by rw [upd_ne pa.symm, upd_ne ca.symm, upd_ne da.symm, upd_same])) (fun b o z na => up _ _ (by rw [upd_ne (ne_of_none z hpn), upd_ne (ne_of_none z hcn), upd_ne (ne_of_none z hdn), upd_ne na]; exact z))
        (up _ _ (by rw [upd_ne dp, upd_ne dc, upd_same])) (up _ _ (by rw [upd_ne cp, upd_same])) (up _ _ upd_same)
      have gx : G x = none := by
        cases z : G x with
        | none => rfl
        | some o => rw [S.sm _ _ z] at hxn; cases hxn
      have xL : x ∉ L.map (·.1) := fun z => by
        obtain ⟨e2, he2, rfl⟩ := List.mem_map.mp z
        obtain ⟨_, _, _, _, r, _⟩ := S.tm e2 he2
        rw [r] at hxn
        cases hxn
      obtain ⟨dx2, h12⟩ := S2.ob
      refine ⟨_, rfl, a, dx2, _, rfl, h12, rfl, _, rfl, G', a, l, x, ⟨n + 1, now + tk, tk, ow, 1⟩, L, n + 1, rfl, S2, ⟨dxx, p, d, c, hx2, gp, gd, gc⟩, gn x gx hxd hxc hxp, xL, by omega, fun v H3 S3 keep3 => ?_⟩
      obtain ⟨dy, py, ey, by_, hx3, _⟩ := S3.tm (x, ⟨n + 1, now + tk, tk, ow, 1⟩) (mem_ins.mpr (.inl rfl))
      refine ⟨_, rfl, x, _, dy, _, _, rfl, hx3, T.cl_Timer, T.n_Timer_number, fsT_number _ py, ?_⟩
      refine k x G' H3 hxn g1 S3 fun b o z na nl _ => ?_
      refine keep3 b o (up b o ?_) nl
      rw [upd_ne (ne_of_none z hpn), upd_ne (ne_of_none z hcn), upd_ne (ne_of_none z hdn), upd_ne na]
      exact z
    | false =>
      refine iteF ?_
      refine ⟨_, rfl, _, rfl, fun x dxx hx hdx nx => ?_⟩
      refine ⟨x, dxx, p, n + 1, now + tk, 0, ow, rfl, upd_same, fun lane H2 hx2 keep => ⟨rfl, ?_⟩⟩
      have hxn : H x = none := by
        cases z : H x with
        | none => rfl
        | some o =>
          exfalso
          by_cases q : x = a
          · rw [q, upd_ne pa.symm, upd_ne ca.symm, upd_ne da.symm, upd_same] at hx
            cases hx
          · rw [upd_ne (ne_of_none z hpn), upd_ne (ne_of_none z hcn), upd_ne (ne_of_none z hdn), upd_ne q, z] at hx
            cases hx
      have up : ∀ b o, upd (upd (upd (upd H a (.ins C.Timers dx (fsS l (n + 1)))) d (.dK [])) c (.lst [])) p (.tup [.int 1, .ref d, .ref c, .int 0]) b = some o → H2 b = some o := fun b o z => by
        refine keep b o ?_ (ne_of_none z hx)
        rw [upd_ne (ne_of_none z hx), upd_ne (ne_of_none z hdx)]
        exact z
      have xa : x ≠ a := fun z => by rw [z] at hxn; rw [hxn] at h1; cases h1
      have hxp : x ≠ p := fun z => by rw [z, upd_same] at hx; cases hx
      have hxc : x ≠ c := fun z => by rw [z, upd_ne cp, upd_same] at hx; cases hx
      have hxd : x ≠ d := fun z => by rw [z, upd_ne dp, upd_ne dc, upd_same] at hx; cases hx
      obtain ⟨G', g1, S2, gp, gd, gc, gn⟩ := S.lay (H2 := H2) (m := n + 1) (dy := dx) hdn hcn hpn dc dp cp (up _ _ (by rw [upd_ne pa.symm, upd_ne ca.symm, upd_ne da.symm, upd_same])) (fun b o z na => up _ _ (by rw [upd_ne (ne_of_none z hpn), upd_ne (ne_of_none z hcn), upd_ne (ne_of_none z hdn), upd_ne na]; exact z))
        (up _ _ (by rw [upd_ne dp, upd_ne dc, upd_same])) (up _ _ (by rw [upd_ne cp, upd_same])) (up _ _ upd_same)
      have gx : G x = none := by
        cases z : G x with
        | none => rfl
        | some o => rw [S.sm _ _ z] at hxn; cases hxn
      have xL : x ∉ L.map (·.1) := fun z => by
        obtain ⟨e2, he2, rfl⟩ := List.mem_map.mp z
        obtain ⟨_, _, _, _, r, _⟩ := S.tm e2 he2
        rw [r] at hxn
        cases hxn
      obtain ⟨dx2, h12⟩ := S2.ob
      refine ⟨_, rfl, a, dx2, _, rfl, h12, rfl, _, rfl, G', a, l, x, ⟨n + 1, now + tk, 0, ow, 1⟩, L, n + 1, rfl, S2, ⟨dxx, p, d, c, hx2, gp, gd, gc⟩, gn x gx hxd hxc hxp, xL, by omega, fun v H3 S3 keep3 => ?_⟩
      obtain ⟨dy, py, ey, by_, hx3, _⟩ := S3.tm (x, ⟨n + 1, now + tk, 0, ow, 1⟩) (mem_ins.mpr (.inl rfl))
      refine ⟨_, rfl, x, _, dy, _, _, rfl, hx3, T.cl_Timer, T.n_Timer_number, fsT_number _ py, ?_⟩
      refine k x G' H3 hxn g1 S3 fun b o z na nl _ => ?_
      refine keep3 b o (up b o ?_) nl
      rw [upd_ne (ne_of_none z hpn), upd_ne (ne_of_none z hcn), upd_ne (ne_of_none z hdn), upd_ne na]
      exact z
theorem sc_Timers_fire : FnScope ["self", "timer", "lane", "environment", "block", "run"] ["self"] (defScope s_Timers_fire) := ⟨rfl, rfl, rfl, by decide +kernel, rfl, by decide +kernel, by decide +kernel⟩
theorem ok_fire (T : Txt K w mg C) : Met P w K mg base 3 C.Timers "fire" (spFire C.Timer C.Timers) := by
  have Gcopied_names : Cal P w K mg base 2 "copied_names" spCopyN := ok_copyN T
  have Gcopied_source : Cal P w K mg base 2 "copied_source" spCopyS := ok_copyS T
  have Mput : Met P w K mg base 1 C.Timers "put" (spPut C.Timer C.Timers) := ok_put T
  refine met_of T.m_Timers_fire T.cl_Timers sc_Timers_fire (fun vs H Q E h => ?_) (fun f cdv A outer s H vs Q E hr h => ?_)
  · obtain ⟨G, a, l, x, t, L, n, rfl, _⟩ := h
    rfl
  · obtain ⟨G, a, l, x, t, L, n, rfl, S, hl, k⟩ := h
    obtain ⟨dx, h1⟩ := S.ob
    have al := S.al
    have xl : x ≠ l := S.lx (x, t) List.mem_cons_self
    have xa : x ≠ a := S.ax (x, t) List.mem_cons_self
    have gx : G x = none := S.gx (x, t) List.mem_cons_self
    obtain ⟨xL, ndL⟩ := List.nodup_cons.mp S.nd
    obtain ⟨dz, pz, ez, bz, hx, gp, ge, gb⟩ := S.tm (x, t) List.mem_cons_self
    refine ⟨_, (pss_cons (ps_if (pt_not (pt_truth (pe_fld (pv 0) rfl) (fun _ => rfl))) (pss_one (ps_ret pe_non)) pss_nil) (pss_cons (ps_set (i := 1) sc_Timers_fire.nd rfl (Or.inl rfl) (pe_bm PySem.F.plainAttrs_list PySem.F.slot_list_pop PySem.F.type_list_pop mt_popAt (pe_fld (pv 0) rfl) (pa_cons pe_int pa_nil))) (pss_cons (ps_if (pt_cmpR op_gt (pe_fld (pv 1) rfl) pe_int (nomark _)) (pss_cons (ps_fldaug (pv 1) (pe_fld (pv 1) rfl) in_add) (pss_one (ps_expr (pe_mt Mput hr (by decide) (pv 0) (pa_cons (pv 1) pa_nil))))) pss_nil) (pss_cons (ps_asg (pe_fld (pv 1) rfl) (pg_tup rfl (pgs_cons (pg_name (i := 2) sc_Timers_fire.nd rfl (Or.inl rfl)) (pgs_cons (pg_name (i := 3) sc_Timers_fire.nd rfl (Or.inl rfl)) (pgs_cons (pg_name (i := 4) sc_Timers_fire.nd rfl (Or.inl rfl)) (pgs_cons (pg_name (i := 5) sc_Timers_fire.nd rfl (Or.inl rfl)) pgs_nil)))))) (pss_one (ps_ret (pe_tup (pa_cons (pe_fld (pv 1) rfl) (pa_cons (pv 2) (pa_cons (pe_c Gcopied_names hr (by decide) (by rfl) (pa_cons (pv 3) pa_nil)) (pa_cons (pe_c Gcopied_source hr (by decide) (by rfl) (pa_cons (pv 4) pa_nil)) (pa_cons (pv 5) pa_nil)))))))))))), ?_⟩
    refine ⟨_, rfl, a, _, dx, _, _, rfl, h1, T.cl_Timers, T.n_Timers_running, fsS_running l n, !(((x, t) :: L).map fun e => V.ref e.1).isEmpty, .inl ⟨_, SqL.of S.ls, rfl⟩, ?_⟩
    refine iteF ?_
    refine ⟨_, rfl, a, _, dx, _, _, rfl, h1, T.cl_Timers, T.n_Timers_running, fsS_running l n, .inl ⟨rfl, _, SqL.of S.ls⟩, l, _, 0, 0, .ref x, rfl, rfl, S.ls, by decide, by decide, (by unfold seqIndex?; simp), rfl, ?_⟩
    have S1 : TsA C.Timer C.Timers G (upd H l (.lst (L.map fun e => V.ref e.1))) a l L n := ⟨⟨dx, by rw [upd_ne al]; exact h1⟩, upd_same, fun e he => by
      obtain ⟨dy, p, e1, b, r, r2⟩ := S.tm e (List.mem_cons_of_mem _ he)
      exact ⟨dy, p, e1, b, by rw [upd_ne (S.lx e (List.mem_cons_of_mem _ he))]; exact r, r2⟩, ndL, fun b o e => by rw [upd_ne (ne_of_none e S.gl)]; exact S.sm _ _ e, S.ga, S.gl, fun e he => S.gx e (List.mem_cons_of_mem _ he)⟩
    have hx1 : upd H l (.lst (L.map fun e => V.ref e.1)) x = some (.ins C.Timer dz (fsT t pz)) := by rw [upd_ne xl]; exact hx
    have fr1 : ∀ b o, H b = some o → b ≠ l → upd H l (.lst (L.map fun e => V.ref e.1)) b = some o := fun b o e nb => by rw [upd_ne nb]; exact e
    show _
    generalize hH1 : upd H l (.lst (L.map fun e => V.ref e.1)) = H1 at S1 hx1 fr1
    have hH1' : upd H l (.lst ((((x, t) :: L).map fun e => V.ref e.1).eraseIdx 0)) = H1 := hH1
    rw [hH1']
    refine ⟨_, rfl, x, _, dz, _, _, rfl, hx1, T.cl_Timer, T.n_Timer_period, fsT_period t pz, _, _, rfl, rfl, _, rfl, ?_⟩
    refine ite2 (fun q => ?_) (fun q => ?_)
    · have q' : t.per > 0 := of_decide_eq_true q
      rw [if_pos q'] at k
      refine ⟨_, rfl, x, _, dz, _, _, rfl, hx1, T.cl_Timer, T.n_Timer_due, fsT_due t pz, _, rfl, x, _, dz, _, _, rfl, hx1, T.cl_Timer, T.n_Timer_period, fsT_period t pz, _, _, rfl, rfl, dz, _, hx1, (by show 5 < 1000; decide), ?_⟩
      rw [putT_due]
      have S2 : TsA C.Timer C.Timers G (upd H1 x (.ins C.Timer dz (fsT { t with due := t.due + t.per } pz))) a l L n := S1.other (fun b o e nb => by rw [upd_ne nb]; exact e) gx xa.symm xl.symm fun e he z => xL (List.mem_map.mpr ⟨e, he, z⟩)
      obtain ⟨dx2, h12⟩ := S2.ob
      refine ⟨_, rfl, a, dx2, _, rfl, h12, rfl, _, rfl, G, a, l, x, nextT t, L, n, rfl, S2, ⟨dz, pz, ez, bz, upd_same, gp, ge, gb⟩, gx, xL, by omega, fun v H3 S3 keep3 => ?_⟩
      obtain ⟨dy, py, ey, by_, hx3, gp3, ge3, gb3⟩ := S3.tm (x, nextT t) (mem_ins.mpr (.inl rfl))
      have fr3 : ∀ b o, H b = some o → b ≠ a → b ≠ l → b ≠ x → H3 b = some o := fun b o e _ n2 n3 => keep3 b o (by rw [upd_ne n3]; exact fr1 b o e n2) n2
      refine ⟨_, rfl, x, _, dy, _, _, rfl, hx3, T.cl_Timer, T.n_Timer_performed, fsT_performed _ py, py, _, rfl, SqT.of (S3.sm _ _ gp3), rfl, ?_⟩
      refine ⟨_, _, rfl, _, _, rfl, _, _, rfl, _, _, rfl, rfl, ?_⟩
      refine ⟨_, rfl, x, _, dy, _, _, rfl, hx3, T.cl_Timer, T.n_Timer_owner, fsT_owner _ py, _, rfl, _, rfl, ey, rfl, S3.sm _ _ ge3, fun d hd => ?_⟩
      have bd : by_ ≠ d := ne_of_none (S3.sm _ _ gb3) hd
      refine ⟨_, rfl, by_, rfl, (by rw [upd_ne bd]; exact S3.sm _ _ gb3), fun c hc => ?_⟩
      refine ⟨_, rfl, by show 5 ≤ sizeLine; decide, fun p hp => ?_⟩
      have cd : c ≠ d := fun z => by rw [z, upd_same] at hc; cases hc
      have hcn : H3 c = none := by rw [upd_ne cd] at hc; exact hc
      have pc : p ≠ c := fun z => by rw [z, upd_same] at hp; cases hp
      have pd : p ≠ d := fun z => by rw [z, upd_ne cd.symm, upd_same] at hp; cases hp
      have hpn : H3 p = none := by rw [upd_ne pc, upd_ne pd] at hp; exact hp
      have s4 : Same H3 (upd (upd (upd H3 d (.dK [])) c (.lst [])) p (.tup [.int t.own, .int t.lane, .ref d, .ref c, .int 0])) := fun b o z => by
        rw [upd_ne (ne_of_none z hpn), upd_ne (ne_of_none z hcn), upd_ne (ne_of_none z hd)]
        exact z
      have hpH : H p = none := by
        cases z : H p with
        | none => rfl
        | some o =>
          exfalso
          by_cases q1 : p = a
          · obtain ⟨_, r⟩ := S3.ob
            rw [q1, r] at hpn
            cases hpn
          · by_cases q2 : p = l
            · rw [q2, S3.ls] at hpn
              cases hpn
            · by_cases q3 : p = x
              · rw [q3, hx3] at hpn
                cases hpn
              · rw [fr3 p o z q1 q2 q3] at hpn
                cases hpn
      refine k p d c _ hpH upd_same ?_ fun b o z na nl nx => s4 _ _ (fr3 b o z na nl (nx (x, t) List.mem_cons_self))
      exact S3.mono s4
    · have q' : ¬ t.per > 0 := fun z => q (decide_eq_true z)
      rw [if_neg q'] at k
      have S3 := S1
      have fr3 : ∀ b o, H b = some o → b ≠ a → b ≠ l → b ≠ x → H1 b = some o := fun b o e _ n2 n3 => fr1 b o e n2
      refine ⟨_, rfl, x, _, dz, _, _, rfl, hx1, T.cl_Timer, T.n_Timer_performed, fsT_performed _ pz, pz, _, rfl, SqT.of (S3.sm _ _ gp), rfl, ?_⟩
      refine ⟨_, _, rfl, _, _, rfl, _, _, rfl, _, _, rfl, rfl, ?_⟩
      refine ⟨_, rfl, x, _, dz, _, _, rfl, hx1, T.cl_Timer, T.n_Timer_owner, fsT_owner _ pz, _, rfl, _, rfl, ez, rfl, S3.sm _ _ ge, fun d hd => ?_⟩
      have bd : bz ≠ d := ne_of_none (S3.sm _ _ gb) hd
      refine ⟨_, rfl, bz, rfl, (by rw [upd_ne bd]; exact S3.sm _ _ gb), fun c hc => ?_⟩
      refine ⟨_, rfl, by show 5 ≤ sizeLine; decide, fun p hp => ?_⟩
      have cd : c ≠ d := fun z => by rw [z, upd_same] at hc; cases hc
      have hcn : H1 c = none := by rw [upd_ne cd] at hc; exact hc
      have pc : p ≠ c := fun z => by rw [z, upd_same] at hp; cases hp
      have pd : p ≠ d := fun z => by rw [z, upd_ne cd.symm, upd_same] at hp; cases hp
      have hpn : H1 p = none := by rw [upd_ne pc, upd_ne pd] at hp; exact hp
      have s4 : Same H1 (upd (upd (upd H1 d (.dK [])) c (.lst [])) p (.tup [.int t.own, .int t.lane, .ref d, .ref c, .int 0])) := fun b o z => by
        rw [upd_ne (ne_of_none z hpn), upd_ne (ne_of_none z hcn), upd_ne (ne_of_none z hd)]
        exact z
      have hpH : H p = none := by
        cases z : H p with
        | none => rfl
        | some o =>
          exfalso
          by_cases q1 : p = a
          · obtain ⟨_, r⟩ := S3.ob
            rw [q1, r] at hpn
            cases hpn
          · by_cases q2 : p = l
            · rw [q2, S3.ls] at hpn
              cases hpn
            · by_cases q3 : p = x
              · rw [q3, hx1] at hpn
                cases hpn
              · rw [fr3 p o z q1 q2 q3] at hpn
                cases hpn
      refine k p d c _ hpH upd_same ?_ fun b o z na nl nx => s4 _ _ (fr3 b o z na nl (nx (x, t) List.mem_cons_self))
      exact S3.mono s4
end
end VL

set_option Elab.async false
set_option linter.all false
set_option maxRecDepth 100000
set_option maxHeartbeats 4000000
namespace VL
open PySem PySem.Spec PyProof.Rows L2 S3
section
variable {P : Program} {w : World} {K : PySem.W.Frag} {mg : Str → Option Value} {base : Heap} {C : Ad}
theorem sc__law_until : FnScope ["timers", "last", "fired", "k", "due", "number", "told"] ["timers", "last", "fired"] (defScope s__law_until) := ⟨rfl, rfl, rfl, by decide +kernel, rfl, by decide +kernel, by decide +kernel⟩
theorem ok_until (T : Txt K w mg C) : Cal P w K mg base 4 "_law_until" (spUntil C.Timer C.Timers) := by
  have Mnext_due : Met P w K mg base 1 C.Timers "next_due" (spNext C.Timer C.Timers) := ok_tnext T
  have Ptold : Pro P w K mg base 1 C.Timers "told" (spTold C.Timer C.Timers) := ok_told T
  have Mfire : Met P w K mg base 3 C.Timers "fire" (spFire C.Timer C.Timers) := ok_fire T
  refine cal_of T.d__law_until sc__law_until (fun vs H Q E h => ?_) (fun f cdv A outer s H vs Q E hr h => ?_)
  · obtain ⟨R, G, a, l, fr, n, F, L, last, rfl, _⟩ := h
    rfl
  · obtain ⟨R, G, a, l, fr, n, F, L, last, rfl, O, W, hl, hF, k⟩ := h
    refine ⟨_, (pss_cons (ps_for PassesOwn.never rfl (pi_range1 (by rfl) T.z_range (pa_cons pe_int pa_nil)) (pg_name (i := 3) sc__law_until.nd rfl (Or.inl rfl)) (pss_cons (ps_set (i := 4) sc__law_until.nd rfl (Or.inl rfl) (pe_mt0 Mnext_due hr (by decide) (pv 0))) (pss_cons (ps_if (PW.pt (pw_or (pt_cmp (pc_isN (pv 4))) (pw_or1 (pt_cmpR op_gt (pv 4) (pv 1) (nomark _))))) (pss_one (ps_ret pe_bl)) pss_nil) (pss_cons (ps_set (i := 5) sc__law_until.nd rfl (Or.inl rfl) (pe_ix ix_tup (pe_ix ix_list (pe_pr Ptold hr (by decide) (pv 0)) pe_int (fun _ _ => rfl)) pe_int (fun _ _ => rfl))) (pss_cons (ps_set (i := 6) sc__law_until.nd rfl (Or.inl rfl) (pe_mt0 Mfire hr (by decide) (pv 0))) (pss_cons (ps_if (PW.pt (pw_or (pt_cmpR op_ne (pe_ix ix_tup (pv 6) pe_int (fun _ _ => rfl)) (pv 5) (nomark _)) (pw_or1 (pt_cmpR op_ne (pe_ix ix_tup (pv 6) pe_int (fun _ _ => rfl)) pe_int (nomark _))))) (pss_one (ps_ret pe_bl)) pss_nil) (pss_one (ps_expr (pe_bm PySem.F.plainAttrs_list PySem.F.slot_list_append PySem.F.type_list_append mt_append (pv 2) (pa_cons (pe_tup (pa_cons (pv 4) (pa_cons (pv 5) pa_nil))) pa_nil)))))))))) (pss_one (ps_ret pe_bl))), ?_⟩
    refine ⟨1500, rfl, by decide, by decide, ?_⟩
    refine for_it (walk_range (lo := 0) (n := 1500)) (fun i σ H' => ∃ F' L' x1 x2 x3 x4, Wt C.Timer C.Timers R G H' a l fr n F' L' ∧ (∀ e ∈ F', e.1 ≤ last) ∧ i ≤ F'.length ∧ Fr4 a l fr L H H' ∧ (∀ e ∈ L', ∃ f ∈ L, e.1 = f.1) ∧ σ = [some (.ref a), some (.int last), some (.ref fr), x1, x2, x3, x4])
      ⟨F, L, none, none, none, none, W, hF, Nat.zero_le _, fun b o e _ _ _ _ => e, fun e he => ⟨e, he, rfl⟩, rfl⟩ (fun _ _ _ _ _ => trivial) ?_ ?_
    · rintro i x σ H1 H2 hi ⟨F1, L1, x1, x2, x3, x4, W1, hF1, hi1, fr1, sub1, rfl⟩ ⟨rfl, rfl⟩
      obtain ⟨dx, h1⟩ := W1.ts.ob
      refine ⟨_, rfl, a, dx, _, rfl, h1, rfl, G, a, l, L1, (n : Int), rfl, W1.ts, fun eL => ?_, fun e L2_ eL => ?_⟩
      · subst eL
        refine ⟨_, rfl, true, rfl, ?_⟩
        refine iteT (iteT ?_)
        exact k F1 [] _ W1 hF1 (fun f hf => by cases hf) fr1
      · subst eL
        refine ⟨_, rfl, false, rfl, ?_⟩
        refine iteF ?_
        refine ⟨_, rfl, _, rfl, _, _, rfl, rfl, _, rfl, ?_⟩
        refine ite2 (fun q => ?_) (fun q => ?_)
        · have q' : last < e.2.due := of_decide_eq_true q
          exact k F1 _ _ W1 hF1 (head_due W1.iv.ls q') fr1
        have q' : ¬ last < e.2.due := fun z => q (decide_eq_true z)
        obtain ⟨x, t⟩ := e
        have hlen : L2_.length + 1 ≤ n := W1.iv.len
        have hn20 : n ≤ 20 := Nat.le_trans W1.iv.hn O.len
        refine ⟨_, rfl, a, dx, _, rfl, h1, G, a, l, _, (n : Int), rfl, W1.ts, (by show L2_.length + 1 ≤ 20; omega), fun r ps H2 s2 nr hr2 pr => ?_⟩
        cases pr with
        | @cons p0 _ ps _ hp0 pr =>
        refine ⟨r, _, 0, .ref p0, rfl, rfl, SqL.of hr2, at0, p0, _, 0, _, rfl, rfl, SqT.of hp0, at0, ?_⟩
        have S2 := W1.ts.mono s2
        obtain ⟨dx2, h12⟩ := S2.ob
        refine ⟨_, rfl, a, dx2, _, rfl, h12, rfl, G, a, l, x, t, L2_, (n : Int), rfl, S2, by omega, fun p e b H3 np hp S3 fr3 => ?_⟩
        obtain ⟨k0, hk0, en, eo, _⟩ := W1.iv.lm (x, t) List.mem_cons_self
        have eon : t.own = t.num := eo.trans en.symm
        refine ⟨_, rfl, p, _, 0, _, rfl, rfl, SqT.of hp, at0, _, rfl, rfl, _, rfl, ?_⟩
        refine ite2 (fun z => ?_) (fun _ => ?_)
        · exfalso
          rw [eon] at z
          simp at z
        refine ⟨_, rfl, p, _, 4, _, rfl, rfl, SqT.of hp, rfl, rfl, _, rfl, ?_⟩
        refine ite2 (fun z => ?_) (fun _ => ?_)
        · exfalso
          simp at z
        have L1x : ∀ f ∈ (x, t) :: L2_, f.1 ≠ fr := W1.fx
        obtain ⟨fs, hfs, pf⟩ := W1.fi
        have hfr3 : H3 fr = some (.lst (fs.map V.ref)) := fr3 fr _ (s2 _ _ hfs) W1.fa W1.fl fun e he => (L1x e he).symm
        have pf3 : Paired (DuoA H3) fs F1 := by
          refine L2.Paired.mapP pf fun u e hu => ?_
          obtain ⟨dz, pz, ez, bz, hx, _⟩ := id (S2.tm (x, t) List.mem_cons_self)
          have hu2 := s2 _ _ hu
          refine fr3 u _ hu2 (ne_of hu2 h12 (by intro e; cases e)) (ne_of hu2 S2.ls (by intro e; cases e)) fun e he => ?_
          obtain ⟨dz, pz, ez, bz, hx, _⟩ := S2.tm e he
          exact ne_of hu2 hx (by intro e; cases e)
        refine ⟨_, rfl, .inl ⟨rfl, _, SqL.of hfr3⟩, _, rfl, _, rfl, (by show 2 ≤ sizeLine; decide), fun u hu => ?_⟩
        have nuf : fr ≠ u := ne_of_none hfr3 hu
        have I2 := W1.iv.fire O
        have hF2 : ∀ e ∈ F1 ++ [(t.due, t.num)], e.1 ≤ last := fun e he => by
          rcases List.mem_append.mp he with he | he
          · exact hF1 e he
          · rw [List.mem_singleton.mp he]
            show t.due ≤ last
            dsimp only at q'
            omega
        refine ⟨fr, _, _, rfl, rfl, (by rw [upd_ne nuf]; exact hfr3), ?_, ?_⟩
        · rw [List.length_map, pairedT_len pf]
          have := W1.iv.few O hF1 hl
          show _ < sizeLine
          have : 1500 < sizeLine := by decide
          omega
        · have memL : ∀ e ∈ (if t.per > 0 then insT L2_ (x, nextT t) else L2_), ∃ g ∈ (x, t) :: L2_, e.1 = g.1 := fun e he => by
            split at he
            · rcases mem_ins.mp he with rfl | he
              · exact ⟨_, List.mem_cons_self, rfl⟩
              · exact ⟨e, List.mem_cons_of_mem _ he, rfl⟩
            · exact ⟨e, List.mem_cons_of_mem _ he, rfl⟩
          have fx2 : ∀ e ∈ (if t.per > 0 then insT L2_ (x, nextT t) else L2_), e.1 ≠ fr := fun e he => by
            obtain ⟨g, hg, eg⟩ := memL e he
            rw [eg]
            exact L1x g hg
          have S4 := (S3.mono (Same.new (o := .tup [.int t.due, .int t.num]) hu)).other (H' := upd (upd H3 u (.tup [.int t.due, .int t.num])) fr (.lst (fs.map V.ref ++ [V.ref u]))) (fun b o z nb => by rw [upd_ne nb]; exact z) W1.gf W1.fa.symm W1.fl.symm fx2
          refine ⟨F1 ++ [(t.due, t.num)], _, _, _, _, _, ⟨S4, ⟨fs ++ [u], by rw [upd_same, List.map_append]; rfl, ?_⟩, W1.gf, W1.fa, W1.fl, fx2, I2⟩, hF2, by rw [List.length_append]; exact Nat.add_le_add_right hi1 1, fun b o z n1 n2 n3 n4 => ?_, fun e he => ?_, rfl⟩
          · refine paired_snocT (by show upd _ fr _ u = _; rw [upd_ne nuf.symm, upd_same]) (L2.Paired.mapP pf3 fun c e z => ?_)
            have z' : H3 c = some (.tup [.int e.1, .int e.2]) := z
            show upd _ fr _ c = _
            rw [upd_ne (ne_of z' hfr3 (by intro e; cases e)), upd_ne (ne_of_none z' hu)]
            exact z'
          · have z1 := fr1 b o z n1 n2 n3 n4
            have z2 : H3 b = some o := fr3 b o (s2 _ _ z1) n1 n2 fun e he => by
              obtain ⟨g, hg, eg⟩ := sub1 e he
              rw [eg]
              exact n4 g hg
            rw [upd_ne n3, upd_ne (ne_of_none z2 hu)]
            exact z2
          · obtain ⟨g, hg, eg⟩ := memL e he
            rw [eg]
            exact sub1 g hg
    · rintro σ H1 ⟨F1, L1, x1, x2, x3, x4, W1, hF1, hi1, fr1, sub1, rfl⟩
      have h1 := W1.iv.few O hF1 hl
      exact absurd h1 (by show ¬ F1.length < 1500; exact Nat.not_lt_of_le hi1)
theorem sc__law_rows : FnScope ["script", "rows", "k", "state", "again"] ["script"] (defScope s__law_rows) := ⟨rfl, rfl, rfl, by decide +kernel, rfl, by decide +kernel, by decide +kernel⟩
theorem ok_rows (T : Txt K w mg C) : Cal P w K mg base 3 "_law_rows" (spRows K) := by
  have G_law_cell : Cal P w K mg base 1 "_law_cell" (spCellA K) := ok_cell T
  have G_law_start : Cal P w K mg base 1 "_law_start" spStart := ok_start T
  have G_law_digit : Cal P w K mg base 1 "_law_digit" spDigit := ok_digit T
  refine cal_of T.d__law_rows sc__law_rows (fun vs H Q E h => ?_) (fun f cdv A outer s H vs Q E hr h => ?_)
  · obtain ⟨s, ns, rfl, _⟩ := h
    rfl
  · obtain ⟨a, ns, rfl, hS, hlen, k⟩ := h
    refine ⟨_, (pss_cons (ps_set (i := 1) sc__law_rows.nd rfl (Or.inl rfl) (pe_lst pa_nil)) (pss_cons (ps_for PassesOwn.never rfl (pi_range1 (by rfl) T.z_range (pa_cons (pe_callB (call_min2 rfl) (by rfl) T.z_min (by decide +kernel) (pa_cons pe_int (pa_cons (pe_callB (call_max2 rfl) (by rfl) T.z_max (by decide +kernel) (pa_cons pe_int (pa_cons (pe_callB call_len_seq (by rfl) T.z_len PySem.boot_len (pa_cons (pv 0) pa_nil)) pa_nil))) pa_nil))) pa_nil)) (pg_name (i := 2) sc__law_rows.nd rfl (Or.inl rfl)) (pss_cons (ps_set (i := 3) sc__law_rows.nd rfl (Or.inl rfl) (pe_c G_law_start hr (by decide) (by rfl) (pa_cons (pe_c G_law_cell hr (by decide) (by rfl) (pa_cons (pv 0) (pa_cons (pv 2) pa_nil))) (pa_cons (pv 2) pa_nil)))) (pss_cons (ps_set (i := 4) sc__law_rows.nd rfl (Or.inl rfl) (pe_cmpR op_eq (pe_c G_law_digit hr (by decide) (by rfl) (pa_cons (pv 3) (pa_cons pe_int pa_nil))) pe_int (nomark _))) (pss_one (ps_expr (pe_bm PySem.F.plainAttrs_list PySem.F.slot_list_append PySem.F.type_list_append mt_append (pv 1) (pa_cons (pe_tup (pa_cons (pe_c G_law_digit hr (by decide) (by rfl) (pa_cons (pv 3) (pa_cons pe_int pa_nil))) (pa_cons (pe_op op_add (pe_callTy call_int1 (by rfl) T.z_int (by decide +kernel) (pa_cons (pv 4) pa_nil)) (pe_c G_law_digit hr (by decide) (by rfl) (pa_cons (pv 3) (pa_cons pe_int pa_nil)))) (pa_cons (pv 4) pa_nil)))) pa_nil))))))) (pss_one (ps_ret (pe_callB cr_sortedB (by rfl) T.z_sorted (by decide +kernel) (pa_cons (pv 1) pa_nil)))))), ?_⟩
    refine ⟨by show 0 ≤ sizeLine; decide, fun ra hra => ?_⟩
    have s0 : Same H (upd H ra (.lst [])) := Same.new hra
    refine ⟨_, rfl, a, _, rfl, .inl (s0.seq hS), ?_⟩
    refine ⟨2, _, rfl, 20, _, rfl, ?_⟩
    generalize hT : (if (if ((ns.map V.int).length : Int) > 2 then ((ns.map V.int).length : Int) else 2) < 20 then (if ((ns.map V.int).length : Int) > 2 then ((ns.map V.int).length : Int) else 2) else 20) = tt
    have ht60 : tt ≤ 20 := by
      rw [← hT]
      split <;> omega
    have ht0 : 0 ≤ tt := by
      rw [← hT]
      split
      · split <;> omega
      · omega
    refine ⟨tt, rfl, by omega, by omega, ?_⟩
    refine for_range (lo := 0) (n := tt.toNat) (fun i σ H' => ∃ (ts : List Addr) (R : List Trip), Same H H' ∧ H' ra = some (.lst (ts.map V.ref)) ∧ Paired (TriA H') ts R ∧ R.length = i ∧ (∀ r ∈ R, 0 ≤ r.1 ∧ r.1 < 12 ∧ 0 ≤ r.2.1 ∧ r.2.1 ≤ 10 ∧ (r.2.2 = true → 1 ≤ r.2.1)) ∧ ∃ kk st ag, σ = [some (.ref a), some (.ref ra), kk, st, ag])
      ⟨[], [], s0, upd_same, .nil, rfl, fun r hr => (by cases hr), none, none, none, rfl⟩ ?_ ?_
    · rintro i σ H3 hi ⟨ts, R, s3, h3, pr, hR, ok, kk, st, ag, rfl⟩
      refine ⟨_, rfl, _, rfl, a, ns, _, rfl, s3.seq hS, by omega, fun zc => ?_⟩
      refine ⟨_, rfl, zc, _, rfl, fun q H4 nq4 sm Sq => ?_⟩
      have nq : H q = none := s3.free nq4
      have s4 := s3.trans sm
      have h4 := sm _ _ h3
      have hqa : ra ≠ q := ne_of_none h3 nq4
      refine ⟨_, rfl, q, 2, rfl, Sq, by decide, fun r1 H5 S5 k5 _ _ => ?_⟩
      have s5 := k5.same s4 nq
      have h5 := k5 _ _ h4 hqa
      refine ⟨rfl, ?_⟩
      refine ⟨_, rfl, .inl ⟨rfl, _, SqL.of h5⟩, _, rfl, q, 12, rfl, S5, by decide, fun r2 H6 S6 k6 l2 g2 => ?_⟩
      have s6 := k6.same s5 nq
      have h6 := k6 _ _ h5 hqa
      refine ⟨_, rfl, .inr ⟨_, rfl, _, rfl, q, 10, rfl, S6, by decide, fun r3 H7 S7 k7 l3 g3 => ?_⟩⟩
      have s7 := k7.same s6 nq
      have h7 := k7 _ _ h6 hqa
      refine ⟨_, _, rfl, rfl, _, rfl, (by show 3 ≤ sizeLine; decide), fun t ht => ?_⟩
      have tra : ra ≠ t := ne_of_none h7 ht
      refine ⟨ra, _, _, rfl, rfl, (by rw [upd_ne tra]; exact h7), ?_, ?_⟩
      · rw [List.length_map, pairedT_len pr, hR]
        exact small1000 (by omega)
      · generalize decide (V.int r1 = V.int 0) = bb
        refine ⟨ts ++ [t], R ++ [(r2, (if bb = true then 1 else 0) + r3, bb)], fun b o e => ?_, by rw [upd_same, List.map_append]; rfl, ?_, by rw [List.length_append, hR]; rfl, fun r hr => ?_, _, _, _, rfl⟩
        · rw [upd_ne (ne_of_none e hra), upd_ne (ne_of_none (s7 _ _ e) ht)]
          exact s7 _ _ e
        · refine paired_snocT (by show upd _ ra _ t = _; rw [upd_ne tra.symm, upd_same]) (L2.Paired.mapP pr fun c r z => ?_)
          have z0 : H3 c = some (.tup [.int r.1, .int r.2.1, .bl r.2.2]) := z
          have z4 := sm _ _ z0
          have cq : c ≠ q := ne_of_none z0 nq4
          have z7 := k7 _ _ (k6 _ _ (k5 _ _ z4 cq) cq) cq
          show upd _ ra _ c = _
          rw [upd_ne (ne_of z7 h7 (by intro e; cases e)), upd_ne (ne_of_none z7 ht)]
          exact z7
        · rcases List.mem_append.mp hr with hr | hr
          · exact ok r hr
          · rw [List.mem_singleton.mp hr]
            refine ⟨l2, g2, ?_, ?_, fun hb => ?_⟩
            · show 0 ≤ (if bb = true then 1 else 0) + r3
              split <;> omega
            · show (if bb = true then 1 else 0) + r3 ≤ 10
              split <;> omega
            · show 1 ≤ (if bb = true then 1 else 0) + r3
              rw [if_pos hb]
              omega
    · rintro σ H1 ⟨ts, R, s3, h3, pr, hR, ok, kk, st, ag, rfl⟩
      refine ⟨_, rfl, ra, _, kap3 H1, rfl, SqL.of h3, (kap3_all pr).2, fun ys p hs hp hn => ?_⟩
      obtain ⟨ts', e, pr', pm, pw⟩ := rows_sorted pr hp hs
      subst e
      refine k p _ _ (s3.trans (Same.new hn)) (OkR.of_perm pm pw (by omega) ok) (s3.free hn) ⟨ts', upd_same, L2.Paired.mapP pr' fun c r z => ?_⟩
      have z0 : H1 c = some (.tup [.int r.1, .int r.2.1, .bl r.2.2]) := z
      show upd _ p _ c = _
      rw [upd_ne (ne_of_none z0 hn)]
      exact z0
/-- what is due of the first i rows, .. and of row i up to the j-th time -/
def InD (R : List Trip) (last : Int) (i : Nat) (t m : Int) : Prop := t ≤ last ∧ ∃ k, k < i ∧ m = (k : Int) + 1 ∧ ∃ r, R[k]? = some r ∧ EvT r t
theorem InD.succ {R : List Trip} {last : Int} {i : Nat} {r : Trip} (hr : R[i]? = some r) {t m : Int} : InD R last (i + 1) t m ↔ InD R last i t m ∨ (t ≤ last ∧ m = (i : Int) + 1 ∧ EvT r t) := by
  constructor
  · rintro ⟨h, k, hk, e, r', hr', ev⟩
    by_cases q : k = i
    · subst q
      rw [hr] at hr'
      cases hr'
      exact .inr ⟨h, e, ev⟩
    · exact .inl ⟨h, k, by omega, e, r', hr', ev⟩
  · rintro (⟨h, k, hk, e⟩ | ⟨h, e, ev⟩)
    · exact ⟨h, k, by omega, e⟩
    · exact ⟨h, i, Nat.lt_succ_self _, e, r, hr, ev⟩
theorem InD.lt {R : List Trip} {last : Int} {i : Nat} {t m : Int} (h : InD R last i t m) : m ≤ i := by
  obtain ⟨_, k, hk, e, _⟩ := h
  omega
theorem sc__law_due : FnScope ["rows", "last", "due", "k", "now", "ticks", "again", "j"] ["rows", "last"] (defScope s__law_due) := ⟨rfl, rfl, rfl, by decide +kernel, rfl, by decide +kernel, by decide +kernel⟩
theorem ok_due (T : Txt K w mg C) : Cal P w K mg base 1 "_law_due" spDue := by
  refine cal_of T.d__law_due sc__law_due (fun vs H Q E h => ?_) (fun f cdv A outer s H vs Q E hr h => ?_)
  · obtain ⟨ra, R, last, rfl, _⟩ := h
    rfl
  · obtain ⟨ra, R, last, rfl, ⟨ts, hra, pr⟩, O, hl0, hl, k⟩ := h
    refine ⟨_, (pss_cons (ps_set (i := 2) sc__law_due.nd rfl (Or.inl rfl) (pe_lst pa_nil)) (pss_cons (ps_for PassesOwn.never rfl (pi_range1 (by rfl) T.z_range (pa_cons (pe_callB call_len_seq (by rfl) T.z_len PySem.boot_len (pa_cons (pv 0) pa_nil)) pa_nil)) (pg_name (i := 3) sc__law_due.nd rfl (Or.inl rfl)) (pss_cons (ps_asg (pe_ix ix_list (pv 0) (pv 3) (fun _ _ => rfl)) (pg_tup rfl (pgs_cons (pg_name (i := 4) sc__law_due.nd rfl (Or.inl rfl)) (pgs_cons (pg_name (i := 5) sc__law_due.nd rfl (Or.inl rfl)) (pgs_cons (pg_name (i := 6) sc__law_due.nd rfl (Or.inl rfl)) pgs_nil))))) (pss_cons (ps_if (PW.pt (pw_and (pt_not (pt_val (pv 6))) (pw_and1 (pt_cmpR op_le (pe_op op_add (pv 4) (pv 5)) (pv 1) (nomark _))))) (pss_one (ps_expr (pe_bm PySem.F.plainAttrs_list PySem.F.slot_list_append PySem.F.type_list_append mt_append (pv 2) (pa_cons (pe_tup (pa_cons (pe_op op_add (pv 4) (pv 5)) (pa_cons (pe_op op_add (pv 3) pe_int) pa_nil))) pa_nil)))) pss_nil) (pss_one (ps_if (pt_val (pv 6)) (pss_one (ps_for PassesOwn.never rfl (pi_range2 (by rfl) T.z_range (pa_cons pe_int (pa_cons (pe_op op_add (pe_op op_fdiv (pv 1) (pv 5)) pe_int) pa_nil))) (pg_name (i := 7) sc__law_due.nd rfl (Or.inl rfl)) (pss_one (ps_if (pt_cmpR op_le (pe_op op_add (pv 4) (pe_op op_mul (pv 7) (pv 5))) (pv 1) (nomark _)) (pss_one (ps_expr (pe_bm PySem.F.plainAttrs_list PySem.F.slot_list_append PySem.F.type_list_append mt_append (pv 2) (pa_cons (pe_tup (pa_cons (pe_op op_add (pv 4) (pe_op op_mul (pv 7) (pv 5))) (pa_cons (pe_op op_add (pv 3) pe_int) pa_nil))) pa_nil)))) pss_nil)))) pss_nil))))) (pss_one (ps_ret (pe_callB cr_sortedPO (by rfl) T.z_sorted (by decide +kernel) (pa_cons (pv 2) pa_nil)))))), ?_⟩
    refine ⟨by show 0 ≤ sizeLine; decide, fun d hd => ?_⟩
    have tl := pairedT_len pr
    have hT : ((ts.map V.ref).length : Int) = (R.length : Int) := by rw [List.length_map, tl]
    refine ⟨_, rfl, ra, _, rfl, .inl (SqL.of (Same.new hd _ _ hra)), ?_⟩
    rw [hT]
    have hR20 := O.len
    refine ⟨_, rfl, by omega, by omega, ?_⟩
    refine for_range (lo := 0) (n := (R.length : Int).toNat) (fun i σ H' => ∃ (ps : List Addr) (D : Fl), Same H H' ∧ H' d = some (.lst (ps.map V.ref)) ∧ Paired (DuoA H') ps D ∧ D.length ≤ 61 * i ∧ D.Nodup ∧ (∀ t m, (t, m) ∈ D ↔ InD R last i t m) ∧ ∃ y1 y2 y3 y4 y5, σ = [some (.ref ra), some (.int last), some (.ref d), y1, y2, y3, y4, y5])
      ⟨[], [], Same.new hd, upd_same, .nil, Nat.le_refl _, List.nodup_nil, fun t m => ⟨fun h => (by cases h), fun ⟨_, k, hk, _⟩ => absurd hk (Nat.not_lt_zero _)⟩, none, none, none, none, none, rfl⟩ ?_ ?_
    · rintro i σ H1 hi ⟨ps, D, s1, h1, pd, dl, nd, mem, y1, y2, y3, y4, y5, rfl⟩
      have hi' : i < R.length := by rw [Int.toNat_natCast] at hi; exact hi
      have hit : i < ts.length := by omega
      obtain ⟨_, hti⟩ := pairedT_get pr i hit
      have hti1 : H1 ts[i] = some (.tup [.int R[i].1, .int R[i].2.1, .bl R[i].2.2]) := s1 _ _ hti
      have hat : atI (ts.map V.ref) (0 + (i : Int)) = some (.ref ts[i]) := by
        rw [atI_nat (by rw [List.length_map]; exact hit), List.getElem?_map, List.getElem?_eq_getElem hit]
        rfl
      have hri : R[i]? = some R[i] := List.getElem?_eq_getElem hi'
      have rm : R[i] ∈ R := List.getElem_mem hi'
      refine ⟨_, rfl, _, rfl, ra, _, _, .ref ts[i], rfl, rfl, SqL.of (s1 _ _ hra), hat, ts[i], _, rfl, SqT.of hti1, rfl, _, _, rfl, _, _, rfl, _, _, rfl, rfl, ?_⟩
      generalize R[i] = r at hri rm
      obtain ⟨now, tk, ag⟩ := r
      have fin : ∀ (H' : Hp) (ps' : List Addr) (D' : Fl), True := fun _ _ _ => trivial
      cases ag with
      | false =>
        refine ⟨_, rfl, false, rfl, ?_⟩
        refine ite2 (fun _ => ?_) (fun z => absurd rfl z)
        refine ⟨_, rfl, _, rfl, _, _, rfl, rfl, _, rfl, _, _, rfl, rfl, _, rfl, ?_⟩
        refine ite2 (fun q => ?_) (fun q => ?_)
        · have q' : now + tk ≤ last := of_decide_eq_true q
          refine ⟨_, rfl, .inl ⟨rfl, _, SqL.of h1⟩, _, rfl, _, rfl, _, _, rfl, rfl, _, rfl, _, _, rfl, rfl, (by show 2 ≤ sizeLine; decide), fun t ht => ?_⟩
          have dt : d ≠ t := ne_of_none h1 ht
          obtain ⟨e1, e2, e3⟩ := due_step (X := now + tk) (M := 0 + (i : Int) + 1) s1 h1 hd ht pd
          refine ⟨d, _, _, rfl, rfl, (by rw [upd_ne dt]; exact h1), ?_, ?_⟩
          · rw [List.length_map, pairedT_len pd]
            show D.length < sizeLine
            have : 2000 < sizeLine := by decide
            omega
          · refine ⟨_, rfl, false, rfl, ?_⟩
            refine iteF ?_
            refine ⟨ps ++ [t], D ++ [(now + tk, 0 + (i : Int) + 1)], e1, e2, e3, by rw [List.length_append, List.length_singleton]; omega, ?_, fun t' m => ?_, _, _, _, _, _, rfl⟩
            · refine List.nodup_append.mpr ⟨nd, by simp, fun x hx y hy e => ?_⟩
              rw [List.mem_singleton.mp hy] at e
              rw [e] at hx
              have := ((mem _ _).mp hx).lt
              omega
            · rw [List.mem_append, mem, InD.succ hri, List.mem_singleton]
              have ev : EvT (now, tk, false) t' ↔ t' = now + tk := by
                unfold EvT
                rw [if_neg (by simp)]
              rw [ev]
              constructor
              · rintro (h | h)
                · exact .inl h
                · injection h with h1 h2
                  exact .inr ⟨by omega, by omega, h1⟩
              · rintro (h | ⟨h1, h2, h3⟩)
                · exact .inl h
                · exact .inr (by rw [h3, h2, Int.zero_add])
        · have q' : ¬ now + tk ≤ last := fun z => q (decide_eq_true z)
          refine ⟨_, rfl, false, rfl, ?_⟩
          refine iteF ?_
          refine ⟨ps, D, s1, h1, pd, by omega, nd, fun t' m => ?_, _, _, _, _, _, rfl⟩
          rw [mem, InD.succ hri]
          have ev : EvT (now, tk, false) t' ↔ t' = now + tk := by
            unfold EvT
            rw [if_neg (by simp)]
          rw [ev]
          constructor
          · exact .inl
          · rintro (h | ⟨h1, h2, h3⟩)
            · exact h
            · omega
      | true =>
        have n0 := O.now _ rm
        have t0 := O.tk _ rm
        have tu := O.tu _ rm
        have t1 := O.ag _ rm rfl
        dsimp only at n0 t0 tu t1
        refine ⟨_, rfl, true, rfl, ?_⟩
        refine ite2 (fun z => absurd z (by decide)) (fun _ => ?_)
        refine ite2 (fun z => absurd z (by decide)) (fun _ => ?_)
        refine ⟨_, rfl, true, rfl, ?_⟩
        refine iteT ?_
        have hq0 : 0 ≤ last / tk := Int.ediv_nonneg hl0 (by omega)
        have hq1 : last / tk ≤ last := Int.ediv_le_self tk hl0
        refine ⟨_, rfl, _, rfl, _, _, rfl, rfl, ⟨by show 0 < tk; omega, by show tk < 1073741824; omega⟩, _, _, rfl, rfl, 1, last / tk + 2, rfl, ⟨by omega, by omega, by omega, by omega⟩, ?_⟩
        refine for_range (lo := 1) (n := (last / tk + 2 - 1).toNat) (fun j σ H' => ∃ (ps : List Addr) (D : Fl), Same H H' ∧ H' d = some (.lst (ps.map V.ref)) ∧ Paired (DuoA H') ps D ∧ D.length ≤ 61 * i + j ∧ D.Nodup ∧ (∀ t m, (t, m) ∈ D ↔ InD R last i t m ∨ (t ≤ last ∧ m = (i : Int) + 1 ∧ ∃ j' : Nat, 1 ≤ j' ∧ j' ≤ j ∧ t = now + (j' : Int) * tk)) ∧ ∃ y5, σ = [some (.ref ra), some (.int last), some (.ref d), some (.int (0 + (i : Int))), some (.int now), some (.int tk), some (.bl true), y5])
          ⟨ps, D, s1, h1, pd, by omega, nd, fun t m => by
            rw [mem]
            exact ⟨.inl, fun h => h.elim id fun ⟨_, _, j', a1, a2, _⟩ => by omega⟩, _, rfl⟩ ?_ ?_
        · rintro j σ H2 hj ⟨ps, D, s1, h1, pd, dl, nd, mem, y5, rfl⟩
          refine ⟨_, rfl, _, rfl, _, rfl, _, _, rfl, rfl, .inr ⟨by show -(2 ^ 64) < tk; omega, by show tk < 2 ^ 64; omega⟩, _, _, rfl, rfl, _, rfl, _, _, rfl, rfl, _, rfl, ?_⟩
          have ej : (1 : Int) + (j : Int) = ((j + 1 : Nat) : Int) := by push_cast; omega
          refine ite2 (fun q => ?_) (fun q => ?_)
          · have q' : now + (1 + (j : Int)) * tk ≤ last := of_decide_eq_true q
            refine ⟨_, rfl, .inl ⟨rfl, _, SqL.of h1⟩, _, rfl, _, rfl, _, rfl, _, _, rfl, rfl, .inr ⟨by show -(2 ^ 64) < tk; omega, by show tk < 2 ^ 64; omega⟩, _, _, rfl, rfl, _, rfl, _, _, rfl, rfl, (by show 2 ≤ sizeLine; decide), fun t ht => ?_⟩
            have dt : d ≠ t := ne_of_none h1 ht
            obtain ⟨e1, e2, e3⟩ := due_step (X := now + (1 + (j : Int)) * tk) (M := 0 + (i : Int) + 1) s1 h1 hd ht pd
            refine ⟨d, _, _, rfl, rfl, (by rw [upd_ne dt]; exact h1), ?_, ?_⟩
            · rw [List.length_map, pairedT_len pd]
              show D.length < sizeLine
              have : 2000 < sizeLine := by decide
              omega
            · refine ⟨ps ++ [t], D ++ [(now + (1 + (j : Int)) * tk, 0 + (i : Int) + 1)], e1, e2, e3, by rw [List.length_append, List.length_singleton]; omega, ?_, fun t' m => ?_, _, rfl⟩
              · refine List.nodup_append.mpr ⟨nd, by simp, fun x hx y hy e => ?_⟩
                rw [List.mem_singleton.mp hy] at e
                rw [e] at hx
                rcases (mem _ _).mp hx with h | ⟨_, _, j', a1, a2, a3⟩
                · have := h.lt
                  omega
                · have h1 : (1 + (j : Int)) * tk = (j' : Int) * tk := by omega
                  have h2 : (1 + (j : Int)) = (j' : Int) := Int.eq_of_mul_eq_mul_right (by omega) h1
                  omega
              · rw [List.mem_append, mem, List.mem_singleton]
                constructor
                · rintro ((h | ⟨b1, b2, j', a1, a2, a3⟩) | h)
                  · exact .inl h
                  · exact .inr ⟨b1, b2, j', a1, by omega, a3⟩
                  · injection h with c1 c2
                    exact .inr ⟨by rw [c1]; exact q', by omega, j + 1, by omega, Nat.le_refl _, by rw [c1, ej]⟩
                · rintro (h | ⟨b1, b2, j', a1, a2, a3⟩)
                  · exact .inl (.inl h)
                  · by_cases z : j' = j + 1
                    · subst z
                      exact .inr (by rw [a3, b2, ej, Int.zero_add])
                    · exact .inl (.inr ⟨b1, b2, j', a1, by omega, a3⟩)
          · have q' : ¬ now + (1 + (j : Int)) * tk ≤ last := fun z => q (decide_eq_true z)
            refine ⟨ps, D, s1, h1, pd, by omega, nd, fun t' m => ?_, _, rfl⟩
            rw [mem]
            constructor
            · rintro (h | ⟨b1, b2, j', a1, a2, a3⟩)
              · exact .inl h
              · exact .inr ⟨b1, b2, j', a1, by omega, a3⟩
            · rintro (h | ⟨b1, b2, j', a1, a2, a3⟩)
              · exact .inl h
              · by_cases z : j' = j + 1
                · subst z
                  rw [← ej] at a3
                  omega
                · exact .inr ⟨b1, b2, j', a1, by omega, a3⟩
        · rintro σ H2 ⟨ps, D, s1, h1, pd, dl, nd, mem, y5, rfl⟩
          refine ⟨ps, D, s1, h1, pd, by omega, nd, fun t' m => ?_, _, _, _, _, _, rfl⟩
          rw [mem, InD.succ hri]
          have ev : EvT (now, tk, true) t' ↔ ∃ j : Nat, 1 ≤ j ∧ t' = now + (j : Int) * tk := by
            unfold EvT
            rw [if_pos rfl]
          rw [ev]
          constructor
          · rintro (h | ⟨b1, b2, j', a1, a2, a3⟩)
            · exact .inl h
            · exact .inr ⟨b1, b2, j', a1, a3⟩
          · rintro (h | ⟨b1, b2, j', a1, a3⟩)
            · exact .inl h
            · have : (j' : Int) ≤ last / tk := Int.le_ediv_of_mul_le (by omega) (by omega)
              exact .inr ⟨b1, b2, j', a1, by omega, a3⟩
    · rintro σ H1 ⟨ps, D, s1, h1, pd, dl, nd, mem, y1, y2, y3, y4, y5, rfl⟩
      obtain ⟨e1, e2⟩ := duo_all pd
      refine ⟨_, rfl, d, _, kapH H1, rfl, SqL.of h1, e2, fun ys p hs hp hn => ?_⟩
      obtain ⟨ps', D', e, pr', pm, pw⟩ := duo_sorted pd nd hp.perm hs
      subst e
      refine k p D' _ (s1.trans (Same.new hn)) ⟨ps', upd_same, L2.Paired.mapP pr' fun c r z => ?_⟩ pw fun t m => ?_
      · have z0 : H1 c = some (.tup [.int r.1, .int r.2]) := z
        show upd _ p _ c = _
        rw [upd_ne (ne_of_none z0 hn)]
        exact z0
      · rw [pm.mem_iff, mem, Int.toNat_natCast]
        exact Iff.rfl
end
end VL

set_option Elab.async false
set_option linter.all false
set_option maxRecDepth 100000
set_option maxHeartbeats 4000000
namespace VL
open PySem PySem.Spec PyProof.Rows L2 S3
/-- where the law draws from is none of the timers' -/
theorem StA.offT {CT CS : Addr} {R : List Trip} {G H : Hp} {a l fr q : Addr} {n : Nat} {F : Fl} {L : Tl} (W : Wt CT CS R G H a l fr n F L) (S : StA H q) : q ≠ a ∧ q ≠ l ∧ q ≠ fr ∧ ∀ e ∈ L, q ≠ e.1 := by
  obtain ⟨z, hz, _⟩ := S
  obtain ⟨dx, h1⟩ := W.ts.ob
  obtain ⟨ps, h2, _⟩ := W.fi
  refine ⟨ne_of hz h1 (by intro e; cases e), ne_of hz W.ts.ls fun e => ?_, ne_of hz h2 fun e => ?_, fun e he => ?_⟩
  · injection e with e
    cases L with
    | nil => cases e
    | cons b L => injection e with e _; cases e
  · injection e with e
    cases ps with
    | nil => cases e
    | cons b L => injection e with e _; cases e
  · obtain ⟨_, _, _, _, r, _⟩ := W.ts.tm e he
    exact ne_of hz r (by intro e; cases e)
theorem Wt.kp {CT CS : Addr} {R : List Trip} {G H H' : Hp} {a l fr q : Addr} {n : Nat} {F : Fl} {L : Tl} (W : Wt CT CS R G H a l fr n F L) (S : StA H q) (k : Kp q H H') (gq : G q = none) : Wt CT CS R G H' a l fr n F L := by
  obtain ⟨n1, n2, n3, n4⟩ := S.offT W
  obtain ⟨z, hz, _⟩ := S
  obtain ⟨ts, ⟨ps, h2, pr⟩, gf, fa, fl, fx, iv⟩ := W
  refine ⟨ts.other k gq n1.symm n2.symm fun e he => (n4 e he).symm, ⟨ps, k _ _ h2 n3.symm, L2.Paired.mapP pr fun p e z' => ?_⟩, gf, fa, fl, fx, iv⟩
  have z1 : H p = some (.tup [.int e.1, .int e.2]) := z'
  exact k _ _ z1 (ne_of z1 hz (by intro e; cases e))
section
variable {P : Program} {w : World} {K : PySem.W.Frag} {mg : Str → Option Value} {base : Heap} {C : Ad}
theorem sc_law : FnScope ["script", "rows", "timers", "state", "fired", "clock", "k", "now", "ticks", "again", "once", "tick", "number"] ["script"] (defScope s_law) := ⟨rfl, rfl, rfl, by decide +kernel, rfl, by decide +kernel, by decide +kernel⟩
theorem ok_law {f : Addr} {fd : FuncData} (F : Fun K "law" "law" s_law f fd) (T : Txt K w mg C) : FnOk P w K mg base CX0 6 f fd ["script"] (spLaw K) := by
  have KTimers : Mak P w K mg base 1 "Timers" C.Timers (spTsInit C.Timers) := ok_tsinit T
  have Mstart : MetK P w K mg base 3 C.Timers "start" (spStartT C.Timer C.Timers) 2 ["now", "ticks", "again", "lane", "environment", "block"] (fun vs zs => vs ++ zs ++ [.int 0]) := ok_startT T
  have G_law_cell : Cal P w K mg base 1 "_law_cell" (spCellA K) := ok_cell T
  have G_law_start : Cal P w K mg base 1 "_law_start" spStart := ok_start T
  have G_law_digit : Cal P w K mg base 1 "_law_digit" spDigit := ok_digit T
  have G_law_rows : Cal P w K mg base 3 "_law_rows" (spRows K) := ok_rows T
  have G_law_due : Cal P w K mg base 1 "_law_due" spDue := ok_due T
  have G_law_until : Cal P w K mg base 4 "_law_until" (spUntil C.Timer C.Timers) := ok_until T
  refine F.ok sc_law (fun vs H Q E h => ?_) (fun cdv A outer s H vs Q E hr h => ?_)
  · obtain ⟨a, ns, rfl, _⟩ := h
    rfl
  · obtain ⟨sa, ns, rfl, hS, hlen, k⟩ := h
    refine ⟨_, (pss_cons (ps_set (i := 1) sc_law.nd rfl (Or.inr rfl) (pe_c G_law_rows hr (by decide) (by rfl) (pa_cons (pv 0) pa_nil))) (pss_cons (ps_set (i := 2) sc_law.nd rfl (Or.inl rfl) (pe_mk0 KTimers hr (by decide) (by rfl))) (pss_cons (ps_set (i := 3) sc_law.nd rfl (Or.inl rfl) (pe_c G_law_start hr (by decide) (by rfl) (pa_cons (pe_c G_law_cell hr (by decide) (by rfl) (pa_cons (pv 0) (pa_cons pe_int pa_nil))) (pa_cons pe_int pa_nil)))) (pss_cons (ps_set (i := 4) sc_law.nd rfl (Or.inl rfl) (pe_lst pa_nil)) (pss_cons (ps_set (i := 5) sc_law.nd rfl (Or.inl rfl) pe_int) (pss_cons (ps_for PassesOwn.never rfl (pi_range1 (by rfl) T.z_range (pa_cons (pe_callB call_len_seq (by rfl) T.z_len PySem.boot_len (pa_cons (pv 1) pa_nil)) pa_nil)) (pg_name (i := 6) sc_law.nd rfl (Or.inl rfl)) (pss_cons (ps_asg (pe_ix ix_list (pv 1) (pv 6) (fun _ _ => rfl)) (pg_tup rfl (pgs_cons (pg_name (i := 7) sc_law.nd rfl (Or.inl rfl)) (pgs_cons (pg_name (i := 8) sc_law.nd rfl (Or.inl rfl)) (pgs_cons (pg_name (i := 9) sc_law.nd rfl (Or.inl rfl)) pgs_nil))))) (pss_cons (ps_if (pt_not (pt_val (pe_c G_law_until hr (by decide) (by rfl) (pa_cons (pv 2) (pa_cons (pe_op op_sub (pv 7) pe_int) (pa_cons (pv 4) pa_nil)))))) (pss_one (ps_ret pe_bl)) pss_nil) (pss_cons (ps_set (i := 5) sc_law.nd rfl (Or.inl rfl) (pv 7)) (pss_one (ps_if (pt_cmpR op_ne (pe_mtK Mstart hr (by decide) (pv 2) (pa_cons (pe_op op_add (pv 6) pe_int) pa_nil) (pk_cons (pv 7) (pk_cons (pv 8) (pk_cons (pv 9) (pk_cons pe_int (pk_cons pe_dnewK (pk_cons (pe_lst pa_nil) pk_nil))))))) (pe_op op_add (pv 6) pe_int) (nomark _)) (pss_one (ps_ret pe_bl)) pss_nil)))))) (pss_cons (ps_for PassesOwn.never rfl (pi_range1 (by rfl) T.z_range (pa_cons pe_int pa_nil)) (pg_name (i := 6) sc_law.nd rfl (Or.inl rfl)) (pss_cons (ps_set (i := 5) sc_law.nd rfl (Or.inl rfl) (pe_op op_add (pv 5) (pe_c G_law_digit hr (by decide) (by rfl) (pa_cons (pv 3) (pa_cons pe_int pa_nil))))) (pss_one (ps_if (pt_not (pt_val (pe_c G_law_until hr (by decide) (by rfl) (pa_cons (pv 2) (pa_cons (pv 5) (pa_cons (pv 4) pa_nil)))))) (pss_one (ps_ret pe_bl)) pss_nil)))) (pss_cons (ps_set (i := 10) sc_law.nd rfl (Or.inr rfl) (pe_lc (own := [("tick", 11), ("number", 12)]) (g := gTup K 2 (gCons (gName 11) (gCons (gName 12) (gNil)))) (tt := _) rfl sc_law.nd (pi_list (pv 4)) (blkOk_by (N := ["script", "rows", "timers", "state", "fired", "clock", "k", "now", "ticks", "again", "once", "tick", "number"]) (sc := (defScope s_law)) (by decide +kernel)) (fun _ _ _ _ _ => pg_tupS (K := K) rfl rfl (pgs_cons (pg_name (i := 11) sc_law.nd rfl (Or.inl rfl)) (pgs_cons (pg_name (i := 12) sc_law.nd rfl (Or.inl rfl)) pgs_nil))) (fun _ _ _ _ _ => pts_one (pt_not (pt_val (pe_ix (ix_tupS (K := K) rfl) (pe_ix (ix_listS (K := K) rfl) (pv 1) (pe_op op_sub (pv 12) pe_int) (fun _ _ => rfl)) pe_int (fun _ _ => rfl))))) (fun _ _ _ _ _ => (pv 12)))) (pss_cons (ps_if (pt_cmpR op_ne (pe_callB call_len_seq (by rfl) T.z_len PySem.boot_len (pa_cons (pv 10) pa_nil)) (pe_callB call_len_seq (by rfl) T.z_len PySem.boot_len (pa_cons (pe_lc (own := [("number", 12)]) (g := gName 12) (tt := _) rfl sc_law.nd (pi_range2 (by rfl) T.z_range (pa_cons pe_int (pa_cons (pe_op op_add (pe_callB call_len_seq (by rfl) T.z_len PySem.boot_len (pa_cons (pv 1) pa_nil)) pe_int) pa_nil))) (blkOk_by (N := ["script", "rows", "timers", "state", "fired", "clock", "k", "now", "ticks", "again", "once", "tick", "number"]) (sc := (defScope s_law)) (by decide +kernel)) (fun _ _ _ _ _ => pg_name (i := 12) sc_law.nd rfl (Or.inl rfl)) (fun _ _ _ _ _ => pts_one (pt_cmpR (op_in_seqS (K := K) rfl) (pv 12) (pv 10) rfl)) (fun _ _ _ _ _ => (pv 12))) pa_nil)) (nomark _)) (pss_one (ps_ret pe_bl)) pss_nil) (pss_one (ps_ret (pe_cmpR (op_eqD hr.units) (pv 4) (pe_c G_law_due hr (by decide) (by rfl) (pa_cons (pv 1) (pa_cons (pv 5) pa_nil))) (nomark _))))))))))))), ?_⟩
    refine ⟨_, rfl, sa, ns, rfl, hS, hlen, fun ra R H1 s1 O nra rw1 => ?_⟩
    intro a dx na ndx nax
    refine ⟨a, dx, rfl, upd_same, fun l H2 nl ha hl keep => ⟨rfl, ?_⟩⟩
    have s2 : Same H1 H2 := fun b o e => by
      refine keep b o ?_ (ne_of_none e na)
      rw [upd_ne (ne_of_none e na), upd_ne (ne_of_none e ndx)]
      exact e
    have nl1 : H1 l = none := by
      cases e : H1 l with
      | none => rfl
      | some o =>
        rw [upd_ne (ne_of_none e na), upd_ne (ne_of_none e ndx), e] at nl
        cases nl
    have S0 : TsA C.Timer C.Timers H1 H2 a l [] 0 := ⟨⟨dx, ha⟩, hl, fun e he => (by cases he), List.nodup_nil, s2, na, nl1, fun e he => (by cases he)⟩
    refine ⟨_, rfl, sa, ns, 0, rfl, (s1.trans s2).seq hS, by omega, fun zc => ?_⟩
    refine ⟨zc, 50, rfl, fun q H3 nq s3 Sq => ?_⟩
    have nq1 : H1 q = none := s2.free nq
    refine ⟨by show 0 ≤ sizeLine; decide, fun fr hfr => ?_⟩
    have S1 : TsA C.Timer C.Timers H1 (upd H3 fr (.lst [])) a l [] 0 := (S0.mono s3).mono (Same.new hfr)
    have nf1 : H1 fr = none := s2.free (s3.free hfr)
    have fra : fr ≠ a := (ne_of_none (s3 _ _ ha) hfr).symm
    have frl : fr ≠ l := (ne_of_none (s3 _ _ hl) hfr).symm
    have W0 : Wt C.Timer C.Timers R H1 (upd H3 fr (.lst [])) a l fr 0 [] [] := ⟨S1, ⟨[], upd_same, .nil⟩, nf1, fra, frl, fun e he => (by cases he), MInv.nil⟩
    have Sq1 : StA (upd H3 fr (.lst [])) q := Sq.new hfr
    generalize upd H3 fr (.lst []) = H4 at W0 Sq1 ⊢
    obtain ⟨rts, hra, rpr⟩ := rw1
    have rtl := pairedT_len rpr
    have hT : ((rts.map V.ref).length : Int) = (R.length : Int) := by rw [List.length_map, rtl]
    have hR20 := O.len
    refine ⟨_, rfl, ra, _, rfl, .inl (SqL.of (W0.ts.sm _ _ hra)), ?_⟩
    rw [hT]
    refine ⟨_, rfl, by omega, by omega, ?_⟩
    refine for_range (lo := 0) (n := (R.length : Int).toNat) (fun i σ H' => ∃ (G : Hp) (F : Fl) (L : Tl) (c : Int), Same H1 G ∧ G q = none ∧ Wt C.Timer C.Timers R G H' a l fr i F L ∧ StA H' q ∧ (∀ e ∈ F, ∀ k, i ≤ k + 1 → ∀ r, R[k]? = some r → e.1 < r.1) ∧ 0 ≤ c ∧ c < 12 ∧ (∀ e ∈ F, e.1 ≤ c) ∧ ∃ y1 y2 y3 y4 y5 y6 y7, σ = [some (.ref sa), some (.ref ra), some (.ref a), some (.ref q), some (.ref fr), some (.int c), y1, y2, y3, y4, y5, y6, y7])
      ⟨H1, [], [], 0, fun _ _ e => e, nq1, W0, Sq1, fun e he => (by cases he), Int.le_refl _, by omega, fun e he => (by cases he), none, none, none, none, none, none, none, rfl⟩ ?_ ?_
    · rintro i σ H5 hi ⟨G, F1, L, c, sG, gq, W, Sq, hF, c0, c1, hc, y1, y2, y3, y4, y5, y6, y7, rfl⟩
      have hi' : i < R.length := by rw [Int.toNat_natCast] at hi; exact hi
      have hit : i < rts.length := by omega
      obtain ⟨_, hti⟩ := pairedT_get rpr i hit
      have hti1 : H5 rts[i] = some (.tup [.int R[i].1, .int R[i].2.1, .bl R[i].2.2]) := W.ts.sm _ _ (sG _ _ hti)
      have hat : atI (rts.map V.ref) (0 + (i : Int)) = some (.ref rts[i]) := by
        rw [atI_nat (by rw [List.length_map]; exact hit), List.getElem?_map, List.getElem?_eq_getElem hit]
        rfl
      have hri : R[i]? = some R[i] := List.getElem?_eq_getElem hi'
      have rm : R[i] ∈ R := List.getElem_mem hi'
      refine ⟨_, rfl, _, rfl, ra, _, _, .ref rts[i], rfl, rfl, SqL.of (W.ts.sm _ _ (sG _ _ hra)), hat, rts[i], _, rfl, SqT.of hti1, rfl, _, _, rfl, _, _, rfl, _, _, rfl, rfl, ?_⟩
      have hpw : ∀ k, i ≤ k → ∀ r, R[k]? = some r → R[i].1 ≤ r.1 := fun k hk r hr => by
        by_cases z : i = k
        · subst z
          rw [hri] at hr
          cases hr
          exact Int.le_refl _
        · have hkl : k < R.length := by
            rcases Nat.lt_or_ge k R.length with h | h
            · exact h
            · rw [List.getElem?_eq_none h] at hr; cases hr
          rw [List.getElem?_eq_getElem hkl] at hr
          cases hr
          exact List.pairwise_iff_getElem.mp O.st i k hi' hkl (by omega)
      generalize R[i] = r at hri rm hpw
      obtain ⟨now, tk, ag⟩ := r
      have n0 := O.now _ rm
      dsimp only at n0 hpw
      have hF0 : ∀ e ∈ F1, e.1 ≤ now - 1 := fun e he => by
        have := hF e he i (by omega) _ hri
        dsimp only at this
        omega
      refine ⟨_, rfl, _, rfl, _, _, rfl, rfl, _, rfl, R, G, a, l, fr, i, F1, L, now - 1, rfl, O, W, by omega, hF0, fun F2 L2_ H6 W2 hF2 hL2 fr4 => ?_⟩
      obtain ⟨q1, q2, q3, q4⟩ := Sq.offT W
      have Sq2 : StA H6 q := by
        obtain ⟨z, hz, r⟩ := Sq
        exact ⟨z, fr4 _ _ hz q1 q2 q3 q4, r⟩
      refine ⟨true, rfl, ?_⟩
      refine ite2 (fun z => absurd z (by decide)) (fun _ => ?_)
      refine ⟨_, rfl, ?_⟩
      obtain ⟨dx6, h6⟩ := W2.ts.ob
      refine ⟨_, rfl, a, dx6, _, rfl, h6, rfl, _, rfl, _, _, rfl, rfl, _, rfl, _, rfl, _, rfl, fun e he => ?_⟩
      refine ⟨by show 0 ≤ sizeLine; decide, fun b hb => ?_⟩
      have eb : e ≠ b := fun z => by rw [← z, upd_same] at hb; cases hb
      have hbn : H6 b = none := by rw [upd_ne eb.symm] at hb; exact hb
      have s7 : Same H6 (upd (upd H6 e (.dK [])) b (.lst [])) := fun c o z => by
        rw [upd_ne (ne_of_none z hbn), upd_ne (ne_of_none z he)]
        exact z
      have hlen2 : L2_.length ≤ i := W2.iv.len
      refine ⟨rfl, rfl, G, a, l, e, b, L2_, (i : Int), _, now, tk, ag, rfl, W2.ts.mono s7, (by rw [upd_ne eb, upd_same]), upd_same, (ne_of_none h6 he).symm, by omega, fun x G' H7 nx gr S7 fr7 => ?_⟩
      refine ⟨_, rfl, _, _, rfl, rfl, rfl, _, rfl, ?_⟩
      refine ite2 (fun z => ?_) (fun _ => ?_)
      · exfalso
        rw [Int.zero_add] at z
        simp at z
      obtain ⟨q1, q2, q3, q4⟩ := Sq2.offT W2
      have Sq3 : StA H7 q := by
        obtain ⟨z, hz, r⟩ := Sq2
        exact ⟨z, fr7 _ _ (s7 _ _ hz) q1 q2 q4, r⟩
      obtain ⟨zq, hzq, _⟩ := id Sq2
      obtain ⟨ps2, hfr2, pr2⟩ := id W2.fi
      have hfr7 : H7 fr = some (.lst (ps2.map V.ref)) := fr7 _ _ (s7 _ _ hfr2) W2.fa W2.fl fun e he => (W2.fx e he).symm
      have eT : (⟨(i : Int) + 1, now + tk, if ag = true then tk else 0, 0 + (i : Int) + 1, 1⟩ : Tm) = newT i (now, tk, ag) := by
        rw [Int.zero_add]
        rfl
      rw [eT] at S7
      have S8 : TsA C.Timer C.Timers G' H7 a l (insT L2_ (x, newT i (now, tk, ag))) ((i + 1 : Nat) : Int) := by
        push_cast
        exact S7
      refine ⟨G', F2, insT L2_ (x, newT i (now, tk, ag)), now, sG.trans gr.sm, (gr.nw q _ (s7 _ _ hzq)).trans gq, ⟨S8, ⟨ps2, hfr7, L2.Paired.mapP pr2 fun c u z => ?_⟩, (gr.nw fr _ (s7 _ _ hfr2)).trans W2.gf, W2.fa, W2.fl, fun e he => ?_, W2.iv.start O hri (fun e he => by have := hF2 e he; show e.1 < now; omega) x⟩, Sq3, fun e he k hk r hr => ?_, n0.1, n0.2, fun e he => by have := hF2 e he; omega, _, _, _, _, _, _, _, rfl⟩
      · have z1 : H6 c = some (.tup [.int u.1, .int u.2]) := z
        obtain ⟨dx7, h7⟩ := id (W2.ts.mono s7).ob
        have z2 := s7 _ _ z1
        refine fr7 c _ z2 (ne_of z2 h7 (by intro e; cases e)) (ne_of z2 (W2.ts.mono s7).ls (by intro e; cases e)) fun e he => ?_
        obtain ⟨_, _, _, _, r, _⟩ := (W2.ts.mono s7).tm e he
        exact ne_of z2 r (by intro e; cases e)
      · rcases mem_ins.mp he with rfl | he
        · exact (ne_of_none (s7 _ _ hfr2) nx).symm
        · exact W2.fx e he
      · have h1 := hF2 e he
        have h2 := hpw k (by omega) r hr
        omega
    · rintro σ H5 ⟨G, F1, L, c, sG, gq, W, Sq, hF, c0, c1, hc, y1, y2, y3, y4, y5, y6, y7, rfl⟩
      rw [Int.toNat_natCast] at W
      clear hF
      refine ⟨8, rfl, by decide, by decide, ?_⟩
      refine for_range (lo := 0) (n := 8) (fun i σ H' => ∃ (F : Fl) (L : Tl) (c : Int), Wt C.Timer C.Timers R G H' a l fr R.length F L ∧ StA H' q ∧ 0 ≤ c ∧ c < 12 + 6 * (i : Int) ∧ (∀ e ∈ F, e.1 ≤ c) ∧ (i = 0 ∨ ∀ f ∈ L, c < f.2.due) ∧ ∃ y1 y2 y3 y4 y5 y6 y7, σ = [some (.ref sa), some (.ref ra), some (.ref a), some (.ref q), some (.ref fr), some (.int c), y1, y2, y3, y4, y5, y6, y7])
        ⟨F1, L, c, W, Sq, c0, by omega, hc, .inl rfl, _, _, _, _, _, _, _, rfl⟩ ?_ ?_
      · rintro i σ H6 hi ⟨F1, L, c, W, Sq, c0, c1, hc, _, y1, y2, y3, y4, y5, y6, y7, rfl⟩
        refine ⟨_, rfl, _, rfl, q, 7, rfl, Sq, by decide, fun r1 H7 S7 k7 g0 g1 => ?_⟩
        have W7 := W.kp Sq k7 gq
        refine ⟨_, _, rfl, rfl, ?_⟩
        refine ⟨_, rfl, _, rfl, _, rfl, R, G, a, l, fr, R.length, F1, L, c + r1, rfl, O, W7, by omega, fun e he => by have := hc e he; omega, fun F2 L2_ H8 W2 hF2 hL2 fr4 => ?_⟩
        obtain ⟨q1, q2, q3, q4⟩ := S7.offT W7
        have Sq2 : StA H8 q := by
          obtain ⟨z, hz, r⟩ := S7
          exact ⟨z, fr4 _ _ hz q1 q2 q3 q4, r⟩
        refine ⟨true, rfl, ?_⟩
        refine ite2 (fun z => absurd z (by decide)) (fun _ => ?_)
        exact ⟨F2, L2_, c + r1, W2, Sq2, by omega, by push_cast; omega, hF2, .inr hL2, _, _, _, _, _, _, _, rfl⟩
      · rintro σ H6 ⟨F1, L, c, W, Sq, c0, c1, hc, hL, y1, y2, y3, y4, y5, y6, y7, rfl⟩
        have hL' : ∀ f ∈ L, c < f.2.due := hL.elim (fun z => absurd z (by decide)) id
        have mem := W.iv.done hc hL'
        obtain ⟨fs, hfs, fpr⟩ := W.fi
        have fl := pairedT_len fpr
        have hra6 := W.ts.sm _ _ (sG _ _ hra)
        have fb : ∀ e ∈ F1, ∃ k, k < R.length ∧ e.2 = (k : Int) + 1 ∧ ∃ hk : k < rts.length, H6 rts[k] = some (.tup [.int (R[k]'(by omega)).1, .int (R[k]'(by omega)).2.1, .bl (R[k]'(by omega)).2.2]) ∧ agO R e.2 = (R[k]'(by omega)).2.2 := fun e he => by
          obtain ⟨k, hk, e2, r, hr, _⟩ := W.iv.fm e he
          obtain ⟨_, g⟩ := pairedT_get rpr k (by omega)
          refine ⟨k, hk, e2, by omega, W.ts.sm _ _ (sG _ _ g), ?_⟩
          unfold agO
          have : (e.2 - 1).toNat = k := by omega
          rw [this, List.getElem?_eq_getElem hk]
        have hfl : F1.length < 1500 := W.iv.few O hc (by omega)
        refine ⟨_, rfl, fr, rfl, ⟨_, SqL.of hfs⟩, fun D hD => ?_⟩
        refine lc_it (walk_list (K := K) (a := fr) (xs := fs.map V.ref)) (fun i H' => Same H6 H' ∧ H' D = some (.lst (((F1.take i).filter fun e => !agO R e.2).map fun e => V.int e.2))) ⟨Same.new hD, upd_same⟩ (fun i H' _ z => SqL.of (z.1 _ _ hfs)) ?_ ?_
        · rintro i y H7 H8 hi ⟨s7, hd⟩ ⟨rfl, hx⟩
          have hi' : i < fs.length := by rw [List.length_map] at hi; exact hi
          have hiF : i < F1.length := by omega
          have ex : y = .ref fs[i] := by
            rw [List.getElem?_map, List.getElem?_eq_getElem hi'] at hx
            exact (Option.some.inj hx).symm
          subst ex
          obtain ⟨_, g⟩ := pairedT_get fpr i hi'
          have g7 : H8 fs[i] = some (.tup [.int F1[i].1, .int F1[i].2]) := s7 _ _ g
          obtain ⟨k, hk, e2, hkt, hkr, hag⟩ := fb F1[i] (List.getElem_mem hiF)
          refine ⟨_, _, rfl, SqT.of g7, rfl, _, _, rfl, _, _, rfl, rfl, rfl, ?_⟩
          have hat : atI (rts.map V.ref) (F1[i].2 - 1) = some (.ref rts[k]) := by
            have : F1[i].2 - 1 = 0 + (k : Int) := by omega
            rw [this, atI_nat (by rw [List.length_map]; exact hkt), List.getElem?_map, List.getElem?_eq_getElem hkt]
            rfl
          refine ⟨_, rfl, _, rfl, _, _, rfl, rfl, ra, _, _, .ref rts[k], rfl, rfl, SqL.of (s7 _ _ hra6), hat, rts[k], _, 2, _, rfl, rfl, SqT.of (s7 _ _ hkr), rfl, _, rfl, ?_⟩
          have et := take_filter (L := F1) (p := fun e => !agO R e.2) (f := fun e => V.int e.2) hiF
          rw [← hag]
          refine ite2 (fun z => ?_) (fun z => ?_)
          · rw [if_pos z] at et
            refine ⟨_, rfl, _, hd, ?_, fun c o e => ?_, ?_⟩
            · rw [List.length_map]
              have h1 := List.length_filter_le (fun e : Int × Int => !agO R e.2) (F1.take i)
              have h2 := List.length_take_le i F1
              show _ < sizeLine
              have : 1500 < sizeLine := by decide
              omega
            · rw [upd_ne (ne_of_none e hD)]
              exact s7 _ _ e
            · rw [upd_same, et]
          · rw [if_neg z, List.append_nil] at et
            exact ⟨s7, by rw [hd, et]⟩
        · rintro H7 ⟨s7, hd⟩
          rw [List.length_map, fl, List.take_length] at hd
          have eO : (F1.filter fun e => !agO R e.2).map (fun e => V.int e.2) = (onceL R F1).map V.int := by
            unfold onceL
            rw [List.map_map]
            rfl
          rw [eO] at hd
          have ol := once_len W.iv
          refine ⟨_, rfl, D, _, rfl, .inl (SqL.of hd), _, rfl, ra, _, rfl, .inl (SqL.of (s7 _ _ hra6)), _, _, rfl, rfl, 1, (R.length : Int) + 1, ?_, ⟨by omega, by omega, by omega, by omega⟩, fun D2 hD2 => ?_⟩
          · rw [hT]
          have hn : ((R.length : Int) + 1 - 1).toNat = R.length := by omega
          rw [hn]
          refine lc_it (walk_range (lo := 1) (n := R.length)) (fun i H' => Same H7 H' ∧ H' D2 = some (.lst (((List.range i).filter fun (k : Nat) => decide ((1 + (k : Int)) ∈ onceL R F1)).map fun (k : Nat) => V.int (1 + (k : Int))))) ⟨Same.new hD2, upd_same⟩ (fun _ _ _ _ => trivial) ?_ ?_
          · rintro i y H8 H9 hi ⟨s8, hd2⟩ ⟨rfl, rfl⟩
            refine ⟨rfl, ?_⟩
            refine ⟨_, rfl, _, rfl, D, _, rfl, .inl (SqL.of (s8 _ _ hd)), rfl, flat_i _, _, rfl, ?_⟩
            have e0 : (if false = true then !inV (.int (1 + (i : Int))) ((onceL R F1).map V.int) else inV (.int (1 + (i : Int))) ((onceL R F1).map V.int)) = decide ((1 + (i : Int)) ∈ onceL R F1) := by
              rw [if_neg (by decide)]
              exact inV_i _ _
            have er : ((List.range (i + 1)).filter fun (k : Nat) => decide ((1 + (k : Int)) ∈ onceL R F1)).map (fun (k : Nat) => V.int (1 + (k : Int))) = ((List.range i).filter fun (k : Nat) => decide ((1 + (k : Int)) ∈ onceL R F1)).map (fun (k : Nat) => V.int (1 + (k : Int))) ++ (if (1 + (i : Int)) ∈ onceL R F1 then [V.int (1 + (i : Int))] else []) := by
              rw [List.range_succ, List.filter_append, List.map_append]
              congr 1
              by_cases z : (1 + (i : Int)) ∈ onceL R F1
              · rw [if_pos z, List.filter_cons, if_pos (decide_eq_true z)]
                rfl
              · rw [if_neg z, List.filter_cons, if_neg (by simpa using z)]
                rfl
            refine ite2 (fun z => ?_) (fun z => ?_)
            · have z' : (1 + (i : Int)) ∈ onceL R F1 := of_decide_eq_true (e0.symm.trans z)
              rw [if_pos z'] at er
              refine ⟨_, rfl, _, hd2, ?_, fun c o e => ?_, ?_⟩
              · rw [List.length_map]
                have h1 := List.length_filter_le (fun (k : Nat) => decide ((1 + (k : Int)) ∈ onceL R F1)) (List.range i)
                rw [List.length_range] at h1
                exact small1000 (by omega)
              · rw [upd_ne (ne_of_none e hD2)]
                exact s8 _ _ e
              · rw [upd_same, er]
            · have z' : ¬ (1 + (i : Int)) ∈ onceL R F1 := fun q => z (e0.trans (decide_eq_true q))
              rw [if_neg z', List.append_nil] at er
              exact ⟨s8, by rw [hd2, er]⟩
          · rintro H8 ⟨s8, hd2⟩
            refine ⟨D2, _, rfl, .inl (SqL.of hd2), rfl, _, rfl, ?_⟩
            refine ite2 (fun z => ?_) (fun _ => ?_)
            · exfalso
              rw [List.length_map, List.length_map, ← ol] at z
              simp at z
            have s68 : Same H6 H8 := s7.trans s8
            refine ⟨_, rfl, _, rfl, _, rfl, ra, R, c, rfl, ⟨rts, s68 _ _ hra6, L2.Paired.mapP rpr fun p r q => s68 _ _ (W.ts.sm _ _ (sG _ _ q))⟩, O, c0, by omega, fun d Dd H9 s9 fD pw mm => ?_⟩
            have eF : F1 = Dd := fl_eq W.iv.fs pw fun t m => (mem t m).trans (mm t m).symm
            subst eF
            obtain ⟨ps, hps, ppr⟩ := fD
            refine ⟨_, _, .lst (SqL.of (s9 _ _ (s68 _ _ hfs))) (dp_duo (L2.Paired.mapP fpr fun p e q => s9 _ _ (s68 _ _ q))), .lst (SqL.of hps) (dp_duo ppr), shaped_duo _, shaped_duo _, ?_⟩
            rw [eqv_selfT (shaped_duo _)]
            exact k _
end
end VL

set_option Elab.async false
set_option linter.all false
set_option maxRecDepth 100000
set_option maxHeartbeats 4000000
namespace VL
open PySem PySem.Spec PyProof.Rows L2
theorem all_mk {l : PySem.W.OpenLaw} {w : World} {K : PySem.W.Frag} {h : Heap} {mg : Str → Option Value} {fa aTimer aTimers f1 f2 f3 f4 f5 f6 p6 f7 kD7 f8 f9 f10 f11 f12 f13 f14 f15 f16 f17 : Addr} (X : K.In h) (G : h.Ns mainGlobals mg) (hfa : mg "law" = some (.ref fa))
    {od1 an1 od2 an2 od3 an3 od4 an4 od5 an5 od6 an6 od7 an7 od8 an8 od9 an9 od10 an10 od11 an11 od12 an12 od13 an13 od14 an14 od15 an15 od16 an16 od17 an17 : Option Addr} {sl1 sl2 sl3 sl4 sl5 sl6 sl7 sl8 sl9 sl10 sl11 sl12 sl13 sl14 sl15 sl16 sl17 : Array (Option Value)} {v_MOST_TIMERS oc1 kV1 dc1 pm1 cd1 ct1 oc2 kV2 dc2 pm2 cd2 ct2 oc3 kV3 dc3 pm3 cd3 ct3 oc4 kV4 dc4 pm4 cd4 ct4 oc5 kV5 dc5 pm5 cd5 ct5 oc6 kV6 dc6 pm6 cd6 ct6 oc7 dc7 pm7 cd7 ct7 kv7run oc8 kV8 dc8 pm8 cd8 ct8 oc9 kV9 dc9 pm9 cd9 ct9 oc10 kV10 dc10 pm10 cd10 ct10 oc11 kV11 dc11 pm11 cd11 ct11 oc12 kV12 dc12 pm12 cd12 ct12 oc13 kV13 dc13 pm13 cd13 ct13 oc14 kV14 dc14 pm14 cd14 ct14 oc15 kV15 dc15 pm15 cd15 ct15 oc16 kV16 dc16 pm16 cd16 ct16 oc17 kV17 dc17 pm17 cd17 ct17 : Value} {rs6 : List Value} 
    (q_Timer : PySem.W.nsIn K mainGlobals "Timer" = some (some (.ref aTimer)))
    (pg_Timer : PySem.W.plainGet K aTimer Str.empty = true)
    (hd_Timer : PySem.W.hasDictIn K aTimer = true)
    (po_Timer : PySem.W.plainOver K aTimer = true)
    (sa_Timer : PySem.W.findIn K (.ref aTimer) "__setattr__" = some (some (.builtin "object.__setattr__")))
    (mk_Timer : PySem.W.makesIn K aTimer = true)
    (kc_Timer : PySem.W.keepIn K (.ref aTimer) = true)
    (n_Timer_number : PySem.W.findIn K (.ref aTimer) "number" = some none)
    (n_Timer_due : PySem.W.findIn K (.ref aTimer) "due" = some none)
    (n_Timer_period : PySem.W.findIn K (.ref aTimer) "period" = some none)
    (n_Timer_owner : PySem.W.findIn K (.ref aTimer) "owner" = some none)
    (n_Timer_performed : PySem.W.findIn K (.ref aTimer) "performed" = some none)
    (q_Timers : PySem.W.nsIn K mainGlobals "Timers" = some (some (.ref aTimers)))
    (pg_Timers : PySem.W.plainGet K aTimers Str.empty = true)
    (hd_Timers : PySem.W.hasDictIn K aTimers = true)
    (po_Timers : PySem.W.plainOver K aTimers = true)
    (sa_Timers : PySem.W.findIn K (.ref aTimers) "__setattr__" = some (some (.builtin "object.__setattr__")))
    (mk_Timers : PySem.W.makesIn K aTimers = true)
    (kc_Timers : PySem.W.keepIn K (.ref aTimers) = true)
    (n_Timers_running : PySem.W.findIn K (.ref aTimers) "running" = some none)
    (n_Timers_last : PySem.W.findIn K (.ref aTimers) "last" = some none)
    (z_int : PySem.W.nsIn K mainGlobals "int" = some none)
    (z_isinstance : PySem.W.nsIn K mainGlobals "isinstance" = some none)
    (z_len : PySem.W.nsIn K mainGlobals "len" = some none)
    (z_list : PySem.W.nsIn K mainGlobals "list" = some none)
    (z_max : PySem.W.nsIn K mainGlobals "max" = some none)
    (z_min : PySem.W.nsIn K mainGlobals "min" = some none)
    (z_property : PySem.W.nsIn K mainGlobals "property" = some none)
    (z_range : PySem.W.nsIn K mainGlobals "range" = some none)
    (z_sorted : PySem.W.nsIn K mainGlobals "sorted" = some none)
    (z_tuple : PySem.W.nsIn K mainGlobals "tuple" = some none)
    (g_MOST_TIMERS : PySem.W.nsIn K mainGlobals "MOST_TIMERS" = some (some v_MOST_TIMERS))
    (r_MOST_TIMERS : RelV (V.int 20) v_MOST_TIMERS)
    (a1 : PySem.W.nsIn K mainGlobals "copied" = some (some (.ref f1)))
    (l1 : K.lookup f1 = some ⟨oc1, od1, .func (PySem.W.fnOf "copied" "copied" (defArgs s_copied) (defBody s_copied) (defScope s_copied) .none kV1 dc1 pm1 an1 cd1 ct1), sl1⟩)
    (c1 : PySem.W.codeIn K cd1 "copied" = true)
    (k1 : PySem.W.keepIn K (.ref f1) = true)
    (a2 : PySem.W.nsIn K mainGlobals "copied_names" = some (some (.ref f2)))
    (l2 : K.lookup f2 = some ⟨oc2, od2, .func (PySem.W.fnOf "copied_names" "copied_names" (defArgs s_copied_names) (defBody s_copied_names) (defScope s_copied_names) .none kV2 dc2 pm2 an2 cd2 ct2), sl2⟩)
    (c2 : PySem.W.codeIn K cd2 "copied_names" = true)
    (k2 : PySem.W.keepIn K (.ref f2) = true)
    (a3 : PySem.W.nsIn K mainGlobals "copied_source" = some (some (.ref f3)))
    (l3 : K.lookup f3 = some ⟨oc3, od3, .func (PySem.W.fnOf "copied_source" "copied_source" (defArgs s_copied_source) (defBody s_copied_source) (defScope s_copied_source) .none kV3 dc3 pm3 an3 cd3 ct3), sl3⟩)
    (c3 : PySem.W.codeIn K cd3 "copied_source" = true)
    (k3 : PySem.W.keepIn K (.ref f3) = true)
    (a4 : PySem.W.findIn K (.ref aTimer) "__init__" = some (some (.ref f4)))
    (i4 : PySem.W.isFn K (.ref f4) = true)
    (l4 : K.lookup f4 = some ⟨oc4, od4, .func (PySem.W.fnOf "__init__" "Timer.__init__" (defArgs s_Timer___init__) (defBody s_Timer___init__) (defScope s_Timer___init__) .none kV4 dc4 pm4 an4 cd4 ct4), sl4⟩)
    (c4 : PySem.W.codeIn K cd4 "Timer.__init__" = true)
    (k4 : PySem.W.keepIn K (.ref f4) = true)
    (a5 : PySem.W.findIn K (.ref aTimers) "__init__" = some (some (.ref f5)))
    (i5 : PySem.W.isFn K (.ref f5) = true)
    (l5 : K.lookup f5 = some ⟨oc5, od5, .func (PySem.W.fnOf "__init__" "Timers.__init__" (defArgs s_Timers___init__) (defBody s_Timers___init__) (defScope s_Timers___init__) .none kV5 dc5 pm5 an5 cd5 ct5), sl5⟩)
    (c5 : PySem.W.codeIn K cd5 "Timers.__init__" = true)
    (k5 : PySem.W.keepIn K (.ref f5) = true)
    (a6 : PySem.W.findIn K (.ref aTimers) "told" = some (some (.ref p6)))
    (pq6 : PySem.W.specialIn K (.ref p6) "__get__" = some (some (.builtin "property.__get__")))
    (pt6 : PySem.W.takesIn K (.ref p6) = some true)
    (pr6 : PySem.W.recIn K p6 "property" = some (.ref f6 :: rs6))
    (l6 : K.lookup f6 = some ⟨oc6, od6, .func (PySem.W.fnOf "told" "Timers.told" (defArgs s_Timers_told) (defBody s_Timers_told) (defScope s_Timers_told) .none kV6 dc6 pm6 an6 cd6 ct6), sl6⟩)
    (c6 : PySem.W.codeIn K cd6 "Timers.told" = true)
    (k6 : PySem.W.keepIn K (.ref f6) = true)
    (a7 : PySem.W.findIn K (.ref aTimers) "start" = some (some (.ref f7)))
    (i7 : PySem.W.isFn K (.ref f7) = true)
    (l7 : K.lookup f7 = some ⟨oc7, od7, .func (PySem.W.fnOf "start" "Timers.start" (defArgs s_Timers_start) (defBody s_Timers_start) (defScope s_Timers_start) .none (.ref kD7) dc7 pm7 an7 cd7 ct7), sl7⟩)
    (c7 : PySem.W.codeIn K cd7 "Timers.start" = true)
    (k7 : PySem.W.keepIn K (.ref f7) = true)
    (kd7run : PySem.W.nsIn K kD7 "run" = some (some kv7run))
    (kr7run : RelV (V.int 0) kv7run)
    (a8 : PySem.W.findIn K (.ref aTimers) "put" = some (some (.ref f8)))
    (i8 : PySem.W.isFn K (.ref f8) = true)
    (l8 : K.lookup f8 = some ⟨oc8, od8, .func (PySem.W.fnOf "put" "Timers.put" (defArgs s_Timers_put) (defBody s_Timers_put) (defScope s_Timers_put) .none kV8 dc8 pm8 an8 cd8 ct8), sl8⟩)
    (c8 : PySem.W.codeIn K cd8 "Timers.put" = true)
    (k8 : PySem.W.keepIn K (.ref f8) = true)
    (a9 : PySem.W.findIn K (.ref aTimers) "next_due" = some (some (.ref f9)))
    (i9 : PySem.W.isFn K (.ref f9) = true)
    (l9 : K.lookup f9 = some ⟨oc9, od9, .func (PySem.W.fnOf "next_due" "Timers.next_due" (defArgs s_Timers_next_due) (defBody s_Timers_next_due) (defScope s_Timers_next_due) .none kV9 dc9 pm9 an9 cd9 ct9), sl9⟩)
    (c9 : PySem.W.codeIn K cd9 "Timers.next_due" = true)
    (k9 : PySem.W.keepIn K (.ref f9) = true)
    (a10 : PySem.W.findIn K (.ref aTimers) "fire" = some (some (.ref f10)))
    (i10 : PySem.W.isFn K (.ref f10) = true)
    (l10 : K.lookup f10 = some ⟨oc10, od10, .func (PySem.W.fnOf "fire" "Timers.fire" (defArgs s_Timers_fire) (defBody s_Timers_fire) (defScope s_Timers_fire) .none kV10 dc10 pm10 an10 cd10 ct10), sl10⟩)
    (c10 : PySem.W.codeIn K cd10 "Timers.fire" = true)
    (k10 : PySem.W.keepIn K (.ref f10) = true)
    (a11 : PySem.W.nsIn K mainGlobals "_law_cell" = some (some (.ref f11)))
    (l11 : K.lookup f11 = some ⟨oc11, od11, .func (PySem.W.fnOf "_law_cell" "_law_cell" (defArgs s__law_cell) (defBody s__law_cell) (defScope s__law_cell) .none kV11 dc11 pm11 an11 cd11 ct11), sl11⟩)
    (c11 : PySem.W.codeIn K cd11 "_law_cell" = true)
    (k11 : PySem.W.keepIn K (.ref f11) = true)
    (a12 : PySem.W.nsIn K mainGlobals "_law_start" = some (some (.ref f12)))
    (l12 : K.lookup f12 = some ⟨oc12, od12, .func (PySem.W.fnOf "_law_start" "_law_start" (defArgs s__law_start) (defBody s__law_start) (defScope s__law_start) .none kV12 dc12 pm12 an12 cd12 ct12), sl12⟩)
    (c12 : PySem.W.codeIn K cd12 "_law_start" = true)
    (k12 : PySem.W.keepIn K (.ref f12) = true)
    (a13 : PySem.W.nsIn K mainGlobals "_law_digit" = some (some (.ref f13)))
    (l13 : K.lookup f13 = some ⟨oc13, od13, .func (PySem.W.fnOf "_law_digit" "_law_digit" (defArgs s__law_digit) (defBody s__law_digit) (defScope s__law_digit) .none kV13 dc13 pm13 an13 cd13 ct13), sl13⟩)
    (c13 : PySem.W.codeIn K cd13 "_law_digit" = true)
    (k13 : PySem.W.keepIn K (.ref f13) = true)
    (a14 : PySem.W.nsIn K mainGlobals "_law_rows" = some (some (.ref f14)))
    (l14 : K.lookup f14 = some ⟨oc14, od14, .func (PySem.W.fnOf "_law_rows" "_law_rows" (defArgs s__law_rows) (defBody s__law_rows) (defScope s__law_rows) .none kV14 dc14 pm14 an14 cd14 ct14), sl14⟩)
    (c14 : PySem.W.codeIn K cd14 "_law_rows" = true)
    (k14 : PySem.W.keepIn K (.ref f14) = true)
    (a15 : PySem.W.nsIn K mainGlobals "_law_due" = some (some (.ref f15)))
    (l15 : K.lookup f15 = some ⟨oc15, od15, .func (PySem.W.fnOf "_law_due" "_law_due" (defArgs s__law_due) (defBody s__law_due) (defScope s__law_due) .none kV15 dc15 pm15 an15 cd15 ct15), sl15⟩)
    (c15 : PySem.W.codeIn K cd15 "_law_due" = true)
    (k15 : PySem.W.keepIn K (.ref f15) = true)
    (a16 : PySem.W.nsIn K mainGlobals "_law_until" = some (some (.ref f16)))
    (l16 : K.lookup f16 = some ⟨oc16, od16, .func (PySem.W.fnOf "_law_until" "_law_until" (defArgs s__law_until) (defBody s__law_until) (defScope s__law_until) .none kV16 dc16 pm16 an16 cd16 ct16), sl16⟩)
    (c16 : PySem.W.codeIn K cd16 "_law_until" = true)
    (k16 : PySem.W.keepIn K (.ref f16) = true)
    (a17 : PySem.W.nsIn K mainGlobals "law" = some (some (.ref f17)))
    (l17 : K.lookup f17 = some ⟨oc17, od17, .func (PySem.W.fnOf "law" "law" (defArgs s_law) (defBody s_law) (defScope s_law) .none kV17 dc17 pm17 an17 cd17 ct17), sl17⟩)
    (c17 : PySem.W.codeIn K cd17 "law" = true)
    (k17 : PySem.W.keepIn K (.ref f17) = true)
    : ∃ fd : FuncData, (∀ (s : Shared) (v : Value), BindsTo s fd ⟨[v], []⟩ [("script", v)]) ∧ ∀ base : Heap, K.In base → base.Ns mainGlobals mg → FnOk l.prog w K mg base CX0 6 fa fd ["script"] (spLaw K) := by
  have e := hfa.symm.trans (PySem.W.mg_of X G a17)
  cases e
  have F1 := fun_mk (st := s_copied) l1 c1 k1
  have b1 := F1.binds (ps := ["value"]) fun _ _ _ _ _ _ us hl => match us, hl with | [_], _ => rfl
  have F2 := fun_mk (st := s_copied_names) l2 c2 k2
  have b2 := F2.binds (ps := ["environment"]) fun _ _ _ _ _ _ us hl => match us, hl with | [_], _ => rfl
  have F3 := fun_mk (st := s_copied_source) l3 c3 k3
  have b3 := F3.binds (ps := ["part"]) fun _ _ _ _ _ _ us hl => match us, hl with | [_], _ => rfl
  have F4 := fun_mk (st := s_Timer___init__) l4 c4 k4
  have b4 := F4.binds (ps := ["self", "number", "due", "period", "owner", "performed"]) fun _ _ _ _ _ _ us hl => match us, hl with | [_, _, _, _, _, _], _ => rfl
  have F5 := fun_mk (st := s_Timers___init__) l5 c5 k5
  have b5 := F5.binds (ps := ["self"]) fun _ _ _ _ _ _ us hl => match us, hl with | [_], _ => rfl
  have F6 := fun_mk (st := s_Timers_told) l6 c6 k6
  have b6 := F6.binds (ps := ["self"]) fun _ _ _ _ _ _ us hl => match us, hl with | [_], _ => rfl
  have F7 := fun_mk (st := s_Timers_start) l7 c7 k7
  have F8 := fun_mk (st := s_Timers_put) l8 c8 k8
  have b8 := F8.binds (ps := ["self", "timer"]) fun _ _ _ _ _ _ us hl => match us, hl with | [_, _], _ => rfl
  have F9 := fun_mk (st := s_Timers_next_due) l9 c9 k9
  have b9 := F9.binds (ps := ["self"]) fun _ _ _ _ _ _ us hl => match us, hl with | [_], _ => rfl
  have F10 := fun_mk (st := s_Timers_fire) l10 c10 k10
  have b10 := F10.binds (ps := ["self"]) fun _ _ _ _ _ _ us hl => match us, hl with | [_], _ => rfl
  have F11 := fun_mk (st := s__law_cell) l11 c11 k11
  have b11 := F11.binds (ps := ["script", "k"]) fun _ _ _ _ _ _ us hl => match us, hl with | [_, _], _ => rfl
  have F12 := fun_mk (st := s__law_start) l12 c12 k12
  have b12 := F12.binds (ps := ["cell", "k"]) fun _ _ _ _ _ _ us hl => match us, hl with | [_, _], _ => rfl
  have F13 := fun_mk (st := s__law_digit) l13 c13 k13
  have b13 := F13.binds (ps := ["state", "many"]) fun _ _ _ _ _ _ us hl => match us, hl with | [_, _], _ => rfl
  have F14 := fun_mk (st := s__law_rows) l14 c14 k14
  have b14 := F14.binds (ps := ["script"]) fun _ _ _ _ _ _ us hl => match us, hl with | [_], _ => rfl
  have F15 := fun_mk (st := s__law_due) l15 c15 k15
  have b15 := F15.binds (ps := ["rows", "last"]) fun _ _ _ _ _ _ us hl => match us, hl with | [_, _], _ => rfl
  have F16 := fun_mk (st := s__law_until) l16 c16 k16
  have b16 := F16.binds (ps := ["timers", "last", "fired"]) fun _ _ _ _ _ _ us hl => match us, hl with | [_, _, _], _ => rfl
  have T : Txt K w mg ⟨(), aTimer, aTimers⟩ := {
    g_Timer := ⟨_, PySem.W.mg_of X G q_Timer, rfl⟩,
    cl_Timer := ⟨pg_Timer, hd_Timer, po_Timer, sa_Timer⟩,
    n_Timer_number := n_Timer_number,
    n_Timer_due := n_Timer_due,
    n_Timer_period := n_Timer_period,
    n_Timer_owner := n_Timer_owner,
    n_Timer_performed := n_Timer_performed,
    g_Timers := ⟨_, PySem.W.mg_of X G q_Timers, rfl⟩,
    cl_Timers := ⟨pg_Timers, hd_Timers, po_Timers, sa_Timers⟩,
    n_Timers_running := n_Timers_running,
    n_Timers_last := n_Timers_last,
    z_int := PySem.W.mg_none_of X G z_int,
    z_isinstance := PySem.W.mg_none_of X G z_isinstance,
    z_len := PySem.W.mg_none_of X G z_len,
    z_list := PySem.W.mg_none_of X G z_list,
    z_max := PySem.W.mg_none_of X G z_max,
    z_min := PySem.W.mg_none_of X G z_min,
    z_property := PySem.W.mg_none_of X G z_property,
    z_range := PySem.W.mg_none_of X G z_range,
    z_sorted := PySem.W.mg_none_of X G z_sorted,
    z_tuple := PySem.W.mg_none_of X G z_tuple,
    g_MOST_TIMERS := ⟨_, PySem.W.mg_of X G g_MOST_TIMERS, r_MOST_TIMERS⟩,
    d_copied := ⟨_, _, F1, PySem.W.mg_of X G a1, b1⟩,
    d_copied_names := ⟨_, _, F2, PySem.W.mg_of X G a2, b2⟩,
    d_copied_source := ⟨_, _, F3, PySem.W.mg_of X G a3, b3⟩,
    i_Timer := ⟨_, _, F4, ⟨mk_Timer, a4, i4, kc_Timer⟩, PySem.W.mg_of X G q_Timer, b4⟩,
    i_Timers := ⟨_, _, F5, ⟨mk_Timers, a5, i5, kc_Timers⟩, PySem.W.mg_of X G q_Timers, b5⟩,
    p_Timers_told := ⟨_, _, _, ⟨a6, pq6, pt6, _, pr6⟩, F6, b6⟩,
    m_Timers_start := ⟨_, _, _, F7, ⟨a7, i7, k7⟩, kbn_dflt kd7run kr7run (fun us ws l1 l2 => match us, ws, l1, l2 with | [_, _], [_, _, _, _, _, _], _, _ => ⟨_, _, _, _, _, _, rfl, rfl, rfl⟩)⟩,
    m_Timers_put := ⟨_, _, F8, ⟨a8, i8, k8⟩, b8⟩,
    m_Timers_next_due := ⟨_, _, F9, ⟨a9, i9, k9⟩, b9⟩,
    m_Timers_fire := ⟨_, _, F10, ⟨a10, i10, k10⟩, b10⟩,
    d__law_cell := ⟨_, _, F11, PySem.W.mg_of X G a11, b11⟩,
    d__law_start := ⟨_, _, F12, PySem.W.mg_of X G a12, b12⟩,
    d__law_digit := ⟨_, _, F13, PySem.W.mg_of X G a13, b13⟩,
    d__law_rows := ⟨_, _, F14, PySem.W.mg_of X G a14, b14⟩,
    d__law_due := ⟨_, _, F15, PySem.W.mg_of X G a15, b15⟩,
    d__law_until := ⟨_, _, F16, PySem.W.mg_of X G a16, b16⟩ }
  exact ⟨_, fun s v => .of_eq rfl, fun base _ _ => ok_law (fun_mk (st := s_law) l17 c17 k17) T⟩
theorem walk {l : PySem.W.OpenLaw} {q : Program} {loose : List Str} {XP : (Str → Option Value) → Heap → Prop} {YP : World → Heap → Prop} {d : DefRec} {K : Params → PySem.W.Frag} (hn : l.most = some 63) (hdf : d.params.defaults = [])
    (hY : ∀ (w : World) (h : Heap), YP w h → (K w.params).In h)
    (F : ∀ (w : World) (mg : Str → Option Value) (fa : Addr) (h : Heap), (K w.params).In h → h.Ns mainGlobals mg → mg d.name = some (.ref fa) →
      ∃ fd : FuncData, (∀ (s : Shared) (u : Value), BindsTo s fd ⟨[u], []⟩ [("script", u)]) ∧ ∀ base : Heap, (K w.params).In base → base.Ns mainGlobals mg → FnOk l.prog w (K w.params) mg base CX0 6 fa fd ["script"] (spLaw (K w.params))) :
    PySem.W.WalkO q loose XP YP l.row.toRowW d [] (fun f vs => PySem.call f vs) :=
  L2.walk_of (n := 63) (k := 6) (x := "script") (CX := fun _ => CX0) (sp := fun w => spLaw (K w.params)) hn (by decide) hdf ⟨rfl, by decide, by decide⟩ hY F (fun _ _ a ns hl _ hS => ⟨a, ns, rfl, hS, hl, fun _ => rfl⟩) fun _ _ _ _ _ z => z
end VL

open PySem PySem.W PyProof.Rows in
set_option maxRecDepth 100000 in
set_option maxHeartbeats 0 in
theorem PySem.Challenge.cw_viewloom_k46_whole_timers_fire_in_time_holds : PySem.Challenge.rw_viewloom_k46_whole_timers_fire_in_time.Holds := by
  w_on; o_law; k_head; (case hw => w_witness2)
  k_fill
  refine VL.walk (l := PySem.Challenge.rw_viewloom_k46_whole_timers_fire_in_time) rfl rfl (fun w h Y => PySem.W.kIn_of Y) ?F
  case F =>
    intro w mg fa h KX G hmg
    refine' VL.all_mk KX G hmg ?q_Timer ?pg_Timer ?hd_Timer ?po_Timer ?sa_Timer ?mk_Timer ?kc_Timer ?n_Timer_number ?n_Timer_due ?n_Timer_period ?n_Timer_owner ?n_Timer_performed ?q_Timers ?pg_Timers ?hd_Timers ?po_Timers ?sa_Timers ?mk_Timers ?kc_Timers ?n_Timers_running ?n_Timers_last ?z_int ?z_isinstance ?z_len ?z_list ?z_max ?z_min ?z_property ?z_range ?z_sorted ?z_tuple ?g_MOST_TIMERS ?r_MOST_TIMERS ?a1 ?l1 ?c1 ?k1 ?a2 ?l2 ?c2 ?k2 ?a3 ?l3 ?c3 ?k3 ?a4 ?i4 ?l4 ?c4 ?k4 ?a5 ?i5 ?l5 ?c5 ?k5 ?a6 ?pq6 ?pt6 ?pr6 ?l6 ?c6 ?k6 ?a7 ?i7 ?l7 ?c7 ?k7 ?kd7run ?kr7run ?a8 ?i8 ?l8 ?c8 ?k8 ?a9 ?i9 ?l9 ?c9 ?k9 ?a10 ?i10 ?l10 ?c10 ?k10 ?a11 ?l11 ?c11 ?k11 ?a12 ?l12 ?c12 ?k12 ?a13 ?l13 ?c13 ?k13 ?a14 ?l14 ?c14 ?k14 ?a15 ?l15 ?c15 ?k15 ?a16 ?l16 ?c16 ?k16 ?a17 ?l17 ?c17 ?k17
    (case q_Timer => k_is)
    (case pg_Timer => k_is)
    (case hd_Timer => k_is)
    (case po_Timer => k_is)
    (case sa_Timer => k_is)
    (case mk_Timer => k_is)
    (case kc_Timer => k_is)
    (case n_Timer_number => k_is)
    (case n_Timer_due => k_is)
    (case n_Timer_period => k_is)
    (case n_Timer_owner => k_is)
    (case n_Timer_performed => k_is)
    (case q_Timers => k_is)
    (case pg_Timers => k_is)
    (case hd_Timers => k_is)
    (case po_Timers => k_is)
    (case sa_Timers => k_is)
    (case mk_Timers => k_is)
    (case kc_Timers => k_is)
    (case n_Timers_running => k_is)
    (case n_Timers_last => k_is)
    (case z_int => k_is)
    (case z_isinstance => k_is)
    (case z_len => k_is)
    (case z_list => k_is)
    (case z_max => k_is)
    (case z_min => k_is)
    (case z_property => k_is)
    (case z_range => k_is)
    (case z_sorted => k_is)
    (case z_tuple => k_is)
    (case g_MOST_TIMERS => k_is)
    (case r_MOST_TIMERS => exact ⟨_, rfl⟩)
    (case a1 => k_is)
    (case l1 => k_is)
    (case c1 => k_is)
    (case k1 => k_is)
    (case a2 => k_is)
    (case l2 => k_is)
    (case c2 => k_is)
    (case k2 => k_is)
    (case a3 => k_is)
    (case l3 => k_is)
    (case c3 => k_is)
    (case k3 => k_is)
    (case a4 => k_is)
    (case i4 => k_is)
    (case l4 => k_is)
    (case c4 => k_is)
    (case k4 => k_is)
    (case a5 => k_is)
    (case i5 => k_is)
    (case l5 => k_is)
    (case c5 => k_is)
    (case k5 => k_is)
    (case a6 => k_is)
    (case pq6 => k_is)
    (case pt6 => k_is)
    (case pr6 => k_is)
    (case l6 => k_is)
    (case c6 => k_is)
    (case k6 => k_is)
    (case a7 => k_is)
    (case i7 => k_is)
    (case l7 => k_is)
    (case c7 => k_is)
    (case k7 => k_is)
    (case kd7run => k_is)
    (case kr7run => exact ⟨_, rfl⟩)
    (case a8 => k_is)
    (case i8 => k_is)
    (case l8 => k_is)
    (case c8 => k_is)
    (case k8 => k_is)
    (case a9 => k_is)
    (case i9 => k_is)
    (case l9 => k_is)
    (case c9 => k_is)
    (case k9 => k_is)
    (case a10 => k_is)
    (case i10 => k_is)
    (case l10 => k_is)
    (case c10 => k_is)
    (case k10 => k_is)
    (case a11 => k_is)
    (case l11 => k_is)
    (case c11 => k_is)
    (case k11 => k_is)
    (case a12 => k_is)
    (case l12 => k_is)
    (case c12 => k_is)
    (case k12 => k_is)
    (case a13 => k_is)
    (case l13 => k_is)
    (case c13 => k_is)
    (case k13 => k_is)
    (case a14 => k_is)
    (case l14 => k_is)
    (case c14 => k_is)
    (case k14 => k_is)
    (case a15 => k_is)
    (case l15 => k_is)
    (case c15 => k_is)
    (case k15 => k_is)
    (case a16 => k_is)
    (case l16 => k_is)
    (case c16 => k_is)
    (case k16 => k_is)
    (case a17 => k_is)
    (case l17 => k_is)
    (case c17 => k_is)
    (case k17 => k_is)
#print axioms PySem.Challenge.cw_viewloom_k46_whole_timers_fire_in_time_holds
